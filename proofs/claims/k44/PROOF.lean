import PyProof.Rows.All
import Wide.All
import OpenK.AllK
import Wide.FinOn
import HandS.ForMost
import HandS.ForExc
import HandS.ExcIs
import HandS.ExcOwn
import HandS.WordsExc
import HandS.TryMany
import HandS.TryOnly
import HandS.Codes
import HandS.IsInst
import HandS.TupAny
import HandS.TupMul
import HandS.SortKw
import KE.KMinKey
import PyProof.WalksMore
import HandS.Dict
import HandS.Style
import HandS.Conv
import HandS.Walk
import HandS.Zip
import PyProof.AutoSeq1
import HandS.Text
import HandS.SetFor
import HandS.Strs
import HandS.Star
import HandS.MakeKwOnly
import HandS.Property
import HandS.Steps
import HandS.Defaults
import HandS.WideBits
import HandS.StrMore
import HandS.Replace
import HandS.Text
import HandS.RaiseFrom
import HandS.SuiteRaise
import HandS.ExcCtx
import KE.GoesRaise
import HandS.More
import PySem.Challenge.RW_reactivesynth_k44_machine_text_refused
set_option Elab.async false
set_option linter.all false
set_option maxRecDepth 100000
set_option maxHeartbeats 4000000
namespace Wd
/-- m is the length of a proper border of the first k letters -/
def Bd (w : Nat → Int) (k m : Nat) : Prop := m < k ∧ ∀ i, i < m → w i = w (k - m + i)
/-- .. the greatest -/
def Lg (w : Nat → Int) (k m : Nat) : Prop := Bd w k m ∧ ∀ j, Bd w k j → j ≤ m
theorem Bd.zero {w : Nat → Int} {k : Nat} (h : 0 < k) : Bd w k 0 := ⟨h, fun i hi => absurd hi (Nat.not_lt_zero i)⟩
theorem Bd.down {w : Nat → Int} {k m : Nat} (h : Bd w (k + 1) (m + 1)) : Bd w k m ∧ w m = w k := by
  obtain ⟨h1, h2⟩ := h
  refine ⟨⟨by omega, fun i hi => ?_⟩, ?_⟩
  · have := h2 i (by omega)
    rw [this]
    congr 1
    omega
  · have := h2 m (by omega)
    rw [this]
    congr 1
    omega
theorem Bd.up {w : Nat → Int} {k m : Nat} (h : Bd w k m) (e : w m = w k) : Bd w (k + 1) (m + 1) := by
  obtain ⟨h1, h2⟩ := h
  refine ⟨by omega, fun i hi => ?_⟩
  rcases Nat.lt_or_ge i m with c | c
  · rw [h2 i c]
    congr 1
    omega
  · have : i = m := by omega
    subst this
    rw [e]
    congr 1
    omega
theorem Bd.inner {w : Nat → Int} {k b j : Nat} (h : Bd w k b) (g : Bd w k j) (l : j < b) : Bd w b j := by
  obtain ⟨h1, h2⟩ := h
  obtain ⟨g1, g2⟩ := g
  refine ⟨l, fun i hi => ?_⟩
  rw [g2 i hi, h2 (b - j + i) (by omega)]
  congr 1
  omega
theorem Bd.trans {w : Nat → Int} {k b j : Nat} (h : Bd w k b) (g : Bd w b j) : Bd w k j := by
  obtain ⟨h1, h2⟩ := h
  obtain ⟨g1, g2⟩ := g
  refine ⟨by omega, fun i hi => ?_⟩
  rw [g2 i hi, h2 (b - j + i) (by omega)]
  congr 1
  omega
/-- what the inner loop keeps: b is a border of the first k letters, and no border of the first k + 1 is longer than b + 1 -/
def In (w : Nat → Int) (k b : Nat) : Prop := Bd w k b ∧ ∀ j, Bd w (k + 1) (j + 1) → j ≤ b
theorem In.start {w : Nat → Int} {k b : Nat} (h : Lg w k b) : In w k b := ⟨h.1, fun j hj => h.2 j hj.down.1⟩
theorem In.step {w : Nat → Int} {k b c : Nat} (h : In w k b) (hb : 0 < b) (ne : w k ≠ w b) (g : Lg w b c) : In w k c ∧ c < b := by
  refine ⟨⟨h.1.trans g.1, fun j hj => ?_⟩, g.1.1⟩
  have h1 := h.2 j hj
  obtain ⟨h2, h3⟩ := hj.down
  have : j ≠ b := fun z => ne (by rw [← h3, z])
  exact g.2 j (h.1.inner h2 (by omega))
theorem In.found {w : Nat → Int} {k b : Nat} (h : In w k b) (e : w k = w b) : Lg w (k + 1) (b + 1) := by
  refine ⟨h.1.up e.symm, fun j hj => ?_⟩
  cases j with
  | zero => omega
  | succ j => exact Nat.succ_le_succ (h.2 j hj)
theorem In.none {w : Nat → Int} {k : Nat} (h : In w k 0) (ne : w k ≠ w 0) : Lg w (k + 1) 0 := by
  refine ⟨Bd.zero (by omega), fun j hj => ?_⟩
  cases j with
  | zero => omega
  | succ j =>
    have h1 := h.2 j hj
    have : j = 0 := by omega
    subst this
    exact absurd hj.down.2.symm ne
/-! periods -/
/-- the letters of the word without end that repeats the first n letters -/
def cyc (w : Nat → Int) (n i : Nat) : Int := w (i % n)
def Rp (w : Nat → Int) (n p : Nat) : Prop := ∀ i, cyc w n (i + p) = cyc w n i
theorem Rp.mul {w : Nat → Int} {n p : Nat} (h : Rp w n p) : ∀ k i, cyc w n (i + k * p) = cyc w n i
  | 0, i => by rw [Nat.zero_mul, Nat.add_zero]
  | k + 1, i => by
    rw [Nat.succ_mul, ← Nat.add_assoc, h, h.mul k i]
theorem Rp.mod {w : Nat → Int} {n p i : Nat} (h : Rp w n p) : cyc w n i = cyc w n (i % p) := by
  have := h.mul (i / p) (i % p)
  rw [Nat.mul_comm, Nat.mod_add_div] at this
  exact this
theorem cyc_lt {w : Nat → Int} {n i : Nat} (h : i < n) : cyc w n i = w i := by
  unfold cyc
  rw [Nat.mod_eq_of_lt h]
theorem rp_self (w : Nat → Int) (n : Nat) : Rp w n n := fun i => by
  unfold cyc
  rw [Nat.add_mod_right]
/-- a period of the finite word that divides its length is one of the word without end -/
theorem rp_of {w : Nat → Int} {n p : Nat} (hp : 0 < p) (hd : p ∣ n) (hn : 0 < n) (h : ∀ i, i + p < n → w i = w (i + p)) : Rp w n p := by
  have red : ∀ k i, i + k * p < n → w (i + k * p) = w i := by
    intro k
    induction k with
    | zero => intro i _; rw [Nat.zero_mul, Nat.add_zero]
    | succ k ih =>
      intro i hi
      rw [Nat.succ_mul] at hi ⊢
      rw [← Nat.add_assoc, ← h (i + k * p) (by omega)]
      exact ih i (by omega)
  have toMod : ∀ i, cyc w n i = w (i % p) := by
    intro i
    unfold cyc
    have h1 : i % n < n := Nat.mod_lt _ hn
    have e : i % n % p + (i % n / p) * p = i % n := by
      rw [Nat.mul_comm]
      exact Nat.mod_add_div _ _
    have h2 := red (i % n / p) (i % n % p) (by rw [e]; exact h1)
    rw [e] at h2
    rw [h2, Nat.mod_mod_of_dvd _ hd]
  intro i
  rw [toMod, toMod, Nat.add_mod_right]
/-- the least repetition: r divides n, the word repeats its first r letters, and no shorter one does -/
structure Least (w : Nat → Int) (n r : Nat) : Prop where
  pos : 0 < r
  dvd : r ∣ n
  rp : Rp w n r
  min : ∀ p, 0 < p → p ∣ n → Rp w n p → r ≤ p
theorem least_of {w : Nat → Int} {n b : Nat} (hn : 0 < n) (h : Lg w n b) : Least w n (if n % (n - b) = 0 then n - b else n) := by
  obtain ⟨⟨hb, h1⟩, h2⟩ := h
  have hs : 0 < n - b := by omega
  -- n - b is the least period of the finite word
  have per : ∀ i, i + (n - b) < n → w i = w (i + (n - b)) := fun i hi => by
    have := h1 i (by omega)
    rw [this]
    congr 1
    omega
  have low : ∀ p, 0 < p → p ≤ n → (∀ i, i + p < n → w i = w (i + p)) → n - b ≤ p := fun p hp hpn hq => by
    have := h2 (n - p) ⟨by omega, fun i hi => by
      have := hq i (by omega)
      rw [this]
      congr 1
      omega⟩
    omega
  have fin : ∀ p, Rp w n p → ∀ i, i + p < n → w i = w (i + p) := fun p hp i hi => by
    have := hp i
    rw [cyc_lt hi, cyc_lt (by omega)] at this
    exact this.symm
  -- a shorter repetition makes n - b a repetition
  have key : ∀ p, 0 < p → p ∣ n → p < n → Rp w n p → n % (n - b) = 0 ∧ n - b ≤ p := by
    intro p hp hd hlt hr
    have le := low p hp (by omega) (fin p hr)
    obtain ⟨q, hq⟩ := hd
    have hq2 : 2 ≤ q := by
      rcases Nat.lt_or_ge q 2 with c | c
      · have : q = 0 ∨ q = 1 := by omega
        rcases this with z | z
        · rw [z] at hq; omega
        · rw [z] at hq; omega
      · exact c
    have h2p : 2 * p ≤ n := by
      rw [hq, Nat.mul_comm 2 p]
      exact Nat.mul_le_mul_left p hq2
    have rs : Rp w n (n - b) := by
      intro i
      have e1 : cyc w n (i + (n - b)) = cyc w n (i % p + (n - b)) := by
        have := hr.mul (i / p) (i % p + (n - b))
        rw [← this]
        congr 1
        have := Nat.mod_add_div i p
        rw [Nat.mul_comm (i / p) p]
        omega
      have hm : i % p < p := Nat.mod_lt _ hp
      rw [e1, hr.mod (i := i), cyc_lt (show i % p + (n - b) < n by omega), cyc_lt (show i % p < n by omega)]
      exact (per _ (by omega)).symm
    -- p is a multiple of n - b
    have hmod : p % (n - b) = 0 := by
      rcases Nat.eq_zero_or_pos (p % (n - b)) with z | z
      · exact z
      · have lt : p % (n - b) < n - b := Nat.mod_lt _ hs
        have rm : Rp w n (p % (n - b)) := by
          intro i
          have a := rs.mul (p / (n - b)) (i + p % (n - b))
          have e : i + p % (n - b) + p / (n - b) * (n - b) = i + p := by
            rw [Nat.mul_comm, Nat.add_assoc, Nat.mod_add_div]
          rw [e] at a
          rw [← a]
          exact hr i
        have := low _ z (by omega) (fin _ rm)
        omega
    refine ⟨?_, le⟩
    exact Nat.mod_eq_zero_of_dvd (Nat.dvd_trans (Nat.dvd_of_mod_eq_zero hmod) ⟨q, hq⟩)
  by_cases c : n % (n - b) = 0
  · rw [if_pos c]
    refine ⟨hs, Nat.dvd_of_mod_eq_zero c, rp_of hs (Nat.dvd_of_mod_eq_zero c) hn per, fun p hp hd hr => ?_⟩
    exact low p hp (Nat.le_of_dvd hn hd) (fin p hr)
  · rw [if_neg c]
    refine ⟨hn, Nat.dvd_refl n, rp_self w n, fun p hp hd hr => ?_⟩
    have le := Nat.le_of_dvd hn hd
    rcases Nat.lt_or_ge p n with l | l
    · exact absurd (key p hp hd l hr).1 c
    · exact l
end Wd
/-! ### min(xs, default=d) of a list of ints: own rule -/
namespace MinD
open PySem PySem.W PyProof.Rows
def kwD (d : Value) : List (Str × Value) := [(Str.ofString "default", d)]
theorem nameL : (toString "min" ++ toString ".loop" : String) = "min.loop" := by decide
section
variable {prog : Program} {w : World} {A : Around} {R : Result → Shared → Prop} {I S : Addr} {fp wr : List Addr} {n : Nat} {P : Nat → Value → Prop} {St : Nat → Heap → Prop} {d : Value}
theorem loopD (W : Walks prog w A.in1 I fp wr n P St) (bt : Nat → Nat → Bool) (cm : CmpOf prog w A.in1 .Lt P bt) (nf : S ∉ fp) :
    ∀ (m j : Nat) (u : Shared) (best : Value) (c : Nat), n - (j + 1) = m → j + 1 ≤ n → St (j + 1) u.heap → P (argBest bt j) best →
    u.heap.get? S = some { cls := .type "list", dict := none, data := .seq #[best, best] c, slots := #[] } →
    (∀ v g tk, P (argBest bt (n - 1)) v → (∀ b o, b ∉ wr → b ≠ S → u.heap.get? b = some o → g.get? b = some o) → R (.ok (.ret v)) { u with heap := g, toks := tk }) →
    codeAny (model prog w) A (.builtin "min.loop" ⟨[.ref I, .none, .ref S], kwD d⟩) R u := by
  have nw : S ∉ wr := fun q => nf (W.sub _ q)
  intro m
  induction m with
  | zero =>
    intro j u best c em hj st pb gS out
    have ej : j + 1 = n := by omega
    refine codeAny_builtin PySem.F.entry_min_loop ?_
    rw [Around.under_plainId PySem.F.plain_min_loop _]
    show wpAny _ A.in1 (seqItems? (.ref S) >>= _) _ _ u
    refine wpAny_bind (wpAny_seqItems gS rfl ?_)
    show wpAny _ A.in1 (tryCatch (pyNext (.ref I)) _ >>= _) _ _ u
    refine wpAny_bind (wpAny_tryCatch (W.done u _ _ (ej ▸ st) fun g tk keep => ?_))
    have gS2 := keep S _ nw gS
    show wpAny _ A.in1 (updateSeq S (fun _ => #[]) >>= _) _ _ _
    refine wpAny_bind (wpAny_updateSeq gS2 rfl (wpAny_bind (wpAny_letGo (wpAny_pure ?_))))
    exact out best _ tk (by rw [← ej]; exact pb) fun b o hb hS e => (Heap.get?_update_other _ _ (Ne.symm hS)).trans (keep b o hb e)
  | succ m ih =>
    intro j u best c em hj st pb gS out
    have lt : j + 1 < n := by omega
    refine codeAny_builtin PySem.F.entry_min_loop ?_
    rw [Around.under_plainId PySem.F.plain_min_loop _]
    show wpAny _ A.in1 (seqItems? (.ref S) >>= _) _ _ u
    refine wpAny_bind (wpAny_seqItems gS rfl ?_)
    show wpAny _ A.in1 (tryCatch (pyNext (.ref I)) _ >>= _) _ _ u
    refine wpAny_bind (wpAny_tryCatch (W.item (j + 1) u _ _ lt st fun v g tk pv st2 keep => ?_))
    have gS2 := keep S _ nw gS
    show wpAny _ A.in1 (tryCatch (holding [v, v] (richCompare .Lt v best >>= _)) _ >>= _) _ _ _
    refine wpAny_bind (wpAny_tryCatch (wpAny_holding (wpAny_bind (cm (j + 1) (argBest bt j) v best _ _ _ pv pb ?_))))
    refine wpAny_bind (wpAny_holding (wpAny_truthy_bool (wpAny_bind (wpAny_letGo (wpAny_pure ?_)))))
    cases hb : bt (j + 1) (argBest bt j) with
    | true =>
      simp only [if_true]
      refine wpAny_bind (wpAny_updateSeq gS2 rfl (wpAny_bind (wpAny_letGo ?_)))
      rw [nameL]
      refine wpAny_pure ⟨plainId_quiet PySem.F.plain_min_loop _, ih (j + 1) _ v _ (by omega) lt (W.frame _ _ _ st2 fun b bf o e => ?_) (by simp only [argBest, hb, if_true]; exact pv) (Heap.get?_update_self _ gS2 rfl)
        fun v2 g2 tk2 p2 keep2 => ?_⟩
      · exact (Heap.get?_update_other _ _ (fun q : S = b => nf (by rw [q]; exact bf))).trans e
      · exact out v2 g2 tk2 p2 fun b o hw hS e => keep2 b o hw hS ((Heap.get?_update_other _ _ (Ne.symm hS)).trans (keep b o hw e))
    | false =>
      simp only [Bool.false_eq_true, if_false]
      refine wpAny_bind (wpAny_letGo ?_)
      rw [nameL]
      exact wpAny_pure ⟨plainId_quiet PySem.F.plain_min_loop _, ih (j + 1) _ best c (by omega) lt st2 (by simp only [argBest, hb, Bool.false_eq_true, if_false]; exact pb) gS2 fun v2 g2 tk2 p2 keep2 =>
        out v2 g2 tk2 p2 fun b o hw hS e => keep2 b o hw hS (keep b o hw e)⟩
theorem firstD (W : Walks prog w A.in1 I fp wr n P St) (bt : Nat → Nat → Bool) (cm : CmpOf prog w A.in1 .Lt P bt) (nf : S ∉ fp) {u : Shared} {c : Nat} (st : St 0 u.heap)
    (gS : u.heap.get? S = some { cls := .type "list", dict := none, data := .seq #[] c, slots := #[] })
    (out : ∀ v g tk, (0 < n → P (argBest bt (n - 1)) v) → (n = 0 → v = d) → (∀ b o, b ∉ wr → b ≠ S → u.heap.get? b = some o → g.get? b = some o) → R (.ok (.ret v)) { u with heap := g, toks := tk }) :
    codeAny (model prog w) A (.builtin "min.loop" ⟨[.ref I, .none, .ref S], kwD d⟩) R u := by
  have nw : S ∉ wr := fun q => nf (W.sub _ q)
  refine codeAny_builtin PySem.F.entry_min_loop ?_
  rw [Around.under_plainId PySem.F.plain_min_loop _]
  show wpAny _ A.in1 (seqItems? (.ref S) >>= _) _ _ u
  refine wpAny_bind (wpAny_seqItems gS rfl ?_)
  show wpAny _ A.in1 (tryCatch (pyNext (.ref I)) _ >>= _) _ _ u
  by_cases h0 : 0 < n
  · refine wpAny_bind (wpAny_tryCatch (W.item 0 u _ _ h0 st fun v g tk pv st2 keep => ?_))
    have gS2 := keep S _ nw gS
    show wpAny _ A.in1 (updateSeq S (fun _ => #[v, v]) >>= _) _ _ _
    refine wpAny_bind (wpAny_updateSeq gS2 rfl ?_)
    rw [nameL]
    refine wpAny_pure ⟨plainId_quiet PySem.F.plain_min_loop _, loopD W bt cm nf _ 0 _ v _ rfl h0 (W.frame _ _ _ st2 fun b bf o e => ?_) pv (Heap.get?_update_self _ gS2 rfl) fun v2 g2 tk2 p2 keep2 => ?_⟩
    · exact (Heap.get?_update_other _ _ (fun q : S = b => nf (by rw [q]; exact bf))).trans e
    · exact out v2 g2 tk2 (fun _ => p2) (fun z => by omega) fun b o hw hS e => keep2 b o hw hS ((Heap.get?_update_other _ _ (Ne.symm hS)).trans (keep b o hw e))
  · have e0 : n = 0 := by omega
    refine wpAny_bind (wpAny_tryCatch (W.done u _ _ (by rw [e0]; exact st) fun g tk keep => ?_))
    show wpAny _ A.in1 (rule _ >>= _) _ _ _
    refine wpAny_bind (wpAny_rule (wpAny_pure ?_))
    exact out d g tk (fun z => absurd z h0) (fun _ => rfl) fun b o hw _ e => keep b o hw e
end
section
variable {prog : Program} {w : World} {A : Around} {E : Value → Shared → Prop} {s : Shared} {d : Value}
theorem args_d (a v : Value) : argsOk "min" ⟨[a], kwD v⟩ := by
  unfold argsOk
  kernel_rfl
theorem callD {l : Addr} {xs : Array (Int × Tok)} {Q : Value → Shared → Prop} (hh : A.handled = none) (hl : s.heap.IsList l (intItems xs))
    (h : ∀ v g tk, (0 < xs.size → (intItems xs)[argBest (fun i j => decide (numAt xs i < numAt xs j)) (xs.size - 1)]? = some v) → (xs.size = 0 → v = d) → (∀ b o, s.heap.get? b = some o → g.get? b = some o) → Q v { s with heap := g, toks := tk }) :
    wpAny (model prog w) A (call (.builtin "min") [.ref l] (kwD d)) Q E s := by
  refine kmk_tree PySem.F.kind_min PySem.F.plain_min PySem.F.entry_min (args_d _ _) ?_
  show wpAny _ A.in1 (Builtin.Builtins.bindParams "min" ["key", "default"] 0 ⟨[], kwD d⟩ >>= _) _ _ s
  refine wpAny_bind (wpAny_of_eq (show Builtin.Builtins.bindParams "min" ["key", "default"] 0 ⟨[], kwD d⟩ = pure [none, some d] from rfl) ?_)
  refine wpAny_bind (wpAny_pure ?_)
  refine wpAny_bind (iter_intList hl fun u eu st hfp hlI => ?_)
  subst eu
  refine wpAny_bind (wpAny_newObj_type ?_)
  rw [nameL]
  refine wpAny_pure ⟨plainId_quiet PySem.F.plain_min_loop _, firstD (Walks.list (A := A.in1) hh _ l hlI (intItems xs)) _ (CmpOf.ints_lt (numAt xs) (fun _ _ => intItems_at)) (fun hm => Nat.lt_irrefl _ (hfp _ hm)) ?_ (Heap.get?_push_size _ rfl) fun v g tk p1 p2 keep => ?_⟩
  · exact (Walks.list (prog := prog) (w := w) (A := A.in1) hh _ l hlI (intItems xs)).frame _ _ _ st fun b _ o e => Heap.get?_push_of_some _ e
  · have hsz : (intItems xs).size = xs.size := by simp [intItems]
    refine h v g tk (fun z => by have := p1 (by rw [hsz]; exact z); rw [hsz] at this; exact this) (fun z => p2 (by rw [hsz]; exact z)) (old_kept (l := l) fun b o hb e => ?_)
    exact keep b o hb (Nat.ne_of_lt (Heap.lt_size e)) (Heap.get?_push_of_some _ e)
end
theorem rawD {prog : Program} {w : World} {A : Around} {E : Value → Shared → Prop} {s : Shared} {l : Addr} {its : List Value} {ns : List Int} {z : Int} {t : Tok} {Q : Value → Shared → Prop} (hh : A.handled = none) (hl : s.heap.IsList l its.toArray) (hi : IntsAre its ns)
    (h : ∀ (g : Heap) (tk : Nat) (m : Int) (t' : Tok), (∀ b o, s.heap.get? b = some o → g.get? b = some o) → (ns = [] → m = z) → (ns ≠ [] → m ∈ ns ∧ ∀ y ∈ ns, m ≤ y) → Q (.int m t') { s with heap := g, toks := tk }) :
    wpAny (model prog w) A (call (.builtin "min") [.ref l] (kwD (.int z t))) Q E s := by
  obtain ⟨xs, e⟩ := hi.allInts.items
  have hn : numsOf (intItems xs).toList = ns := by rw [← e]; exact hi.numsOf
  rw [PySem.nums_intItems] at hn
  subst hn
  rw [e] at hl
  refine callD hh hl fun v g tk p1 p2 keep => ?_
  by_cases c : 0 < xs.size
  · obtain ⟨u, rfl⟩ := intItems_at (p1 c)
    obtain ⟨a1, a2⟩ := argBest_lt (numAt xs) (xs.size - 1)
    refine h g tk _ u keep (fun z => ?_) fun _ => ⟨?_, fun y hy => ?_⟩
    · have q : xs.size = 0 := by simpa using congrArg List.length z
      omega
    · rw [PySem.numAt_eq]
      refine PySem.getD_mem ?_
      rw [List.length_map, Array.length_toList]
      exact Nat.lt_of_le_of_lt a1 (by omega)
    · obtain ⟨j, hj, rfl⟩ := PySem.mem_getD hy
      rw [List.length_map, Array.length_toList] at hj
      rw [← PySem.numAt_eq]
      exact a2 j (by omega)
  · rw [p2 (by omega)]
    refine h g tk z t keep (fun _ => rfl) fun q => absurd ?_ q
    have : xs = #[] := Array.eq_empty_of_size_eq_zero (by omega)
    rw [this]
    rfl
end MinD
namespace Bx
open PySem PySem.Spec PyProof.Rows L2
def rMinD (K : PySem.W.Frag) : List V → List V → Hp → VK → Prop := fun xs zs H Q => ∃ (a : Addr) (ns : List Int) (z : Int), xs = [.ref a] ∧ zs = [.int z] ∧ SqL K H a (ns.map V.int) ∧
  ∀ m, (ns = [] → m = z) → (ns ≠ [] → m ∈ ns ∧ ∀ y ∈ ns, m ≤ y) → Q (.int m) H
theorem call_minD {X : Cx} {K : PySem.W.Frag} (h : X.K = K) (hc : X.calm = true) : CallRK X (.builtin "min") ["default"] (rMinD K) := by
  subst h
  intro pins s σ H xs zs us ws Q I r r2 hw
  obtain ⟨a, ns, z, rfl, rfl, hs, q⟩ := hw
  obtain ⟨its, rv, hl, _⟩ := I.list hs
  rw [Vals.ref1 r]
  obtain ⟨u, rfl, ru⟩ := vals1 r2
  obtain ⟨t, rfl⟩ := ru
  exact MinD.rawD (I.ok.hd hc) hl.isList rv.ints fun g tk m t' hk h1 h2 => ⟨.int m, H, I.kept hk, ⟨_, rfl⟩, q m h1 h2⟩
end Bx
namespace Bx
open PySem PySem.Spec PyProof.Rows L2
/-! ### rules over the written part by its name -/
section
variable {X : Cx} {K : PySem.W.Frag}
theorem ix_tupK (h : X.K = K) : IxR X (rIxT K) := h ▸ ix_tup
theorem ix_listK (h : X.K = K) : IxR X (rIxL K) := h ▸ ix_list
theorem ix_seqK (h : X.K = K) : IxR X (rIx K) := h ▸ ix_seq
def rLen (K : PySem.W.Frag) : List V → Hp → VK → Prop := fun xs H Q => ∃ (p : Addr) (ys : List V), xs = [.ref p] ∧ (SqL K H p ys ∨ SqT K H p ys) ∧ Q (.int ys.length) H
theorem call_lenK (h : X.K = K) : CallR X (.builtin "len") (rLen K) := by
  subst h
  exact call_len_seq
def rTupOf (K : PySem.W.Frag) : List V → Hp → VK → Prop := fun xs H Q => ∃ (p : Addr) (ys : List V), xs = [.ref p] ∧ ((SqL K H p ys ∧ ∀ l, H l = none → Q (.ref l) (upd H l (.tup ys))) ∨ (SqT K H p ys ∧ Q (.ref p) H))
theorem call_tuple_ofK (h : X.K = K) : CallR X (.type "tuple") (rTupOf K) := by
  subst h
  exact call_tuple_of
def rLstOf (K : PySem.W.Frag) : List V → Hp → VK → Prop := fun xs H Q => ∃ (p : Addr) (ys : List V), xs = [.ref p] ∧ (SqL K H p ys ∨ SqT K H p ys) ∧ ∀ l, H l = none → Q (.ref l) (upd H l (.lst ys))
theorem call_list_ofK (h : X.K = K) : CallR X (.type "list") (rLstOf K) := by
  subst h
  exact call_list_of
end
end Bx
/-! ### heaps: what one list at d may lose, all else as it was -/
namespace Bx
open PySem PySem.Spec PyProof.Rows L2
def Kp (d : Addr) (H H' : Hp) : Prop := ∀ b o, b ≠ d → H b = some o → H' b = some o
theorem Kp.refl (d : Addr) (H : Hp) : Kp d H H := fun _ _ _ h => h
theorem Kp.trans {d : Addr} {H H1 H2 : Hp} (a : Kp d H H1) (b : Kp d H1 H2) : Kp d H H2 := fun c o n h => b c o n (a c o n h)
theorem Same.kp {d : Addr} {H H' : Hp} (s : Same H H') : Kp d H H' := fun b o _ h => s b o h
theorem Kp.own {d : Addr} {H : Hp} {o : HO} : Kp d H (upd H d o) := fun b _ n h => by rw [upd_ne n]; exact h
theorem same_new {H : Hp} {p : Addr} {o : HO} (h : H p = none) : Same H (upd H p o) := fun b x e => by
  rw [upd_ne (ne_of_none e h)]
  exact e
theorem Kp.new {d p : Addr} {H : Hp} {o : HO} (h : H p = none) : Kp d H (upd H p o) := Same.kp (same_new h)
theorem upd_self {H : Hp} {d : Addr} {o : HO} (h : H d = some o) : upd H d o = H := by
  funext b
  by_cases e : b = d
  · rw [e, upd_same, h]
  · rw [upd_ne e]
/-- a list of ints at d -/
def Ints (H : Hp) (d : Addr) (xs : List Int) : Prop := H d = some (.lst (xs.map V.int))
/-- the draws: some list of ints -/
def Drw (H : Hp) (d : Addr) : Prop := ∃ ds : List Int, H d = some (.lst (ds.map V.int))
theorem Drw.new {H : Hp} {d p : Addr} {o : HO} (h : Drw H d) (n : H p = none) : Drw (upd H p o) d := by
  obtain ⟨ds, e⟩ := h
  exact ⟨ds, same_new n _ _ e⟩
theorem Drw.own {H : Hp} {d : Addr} {ds : List Int} : Drw (upd H d (.lst (ds.map V.int))) d := ⟨ds, upd_same⟩
theorem Drw.same {H H' : Hp} {d : Addr} (h : Drw H d) (s : Same H H') : Drw H' d := by
  obtain ⟨ds, e⟩ := h
  exact ⟨ds, s _ _ e⟩
/-- a tuple of ints -/
def TupI (H : Hp) (a : Addr) (xs : List Int) : Prop := H a = some (.tup (xs.map V.int))
theorem Drw.ne_tup {H : Hp} {d a : Addr} {xs : List V} (h : Drw H d) (e : H a = some (.tup xs)) : a ≠ d := by
  obtain ⟨ds, e2⟩ := h
  exact ne_of e e2 (by intro z; cases z)
/-- a lasso: a pair of tuples of ints -/
def Las (H : Hp) (p : Addr) (h l : List Int) : Prop := ∃ a b, H p = some (.tup [.ref a, .ref b]) ∧ H a = some (.tup (h.map V.int)) ∧ H b = some (.tup (l.map V.int))
theorem Las.keep {H H' : Hp} {d p : Addr} {h l : List Int} (k : Kp d H H') (w : Drw H d) (x : Las H p h l) : Las H' p h l := by
  obtain ⟨a, b, e1, e2, e3⟩ := x
  exact ⟨a, b, k _ _ (w.ne_tup e1) e1, k _ _ (w.ne_tup e2) e2, k _ _ (w.ne_tup e3) e3⟩
theorem Las.same {H H' : Hp} {p : Addr} {h l : List Int} (k : Same H H') (x : Las H p h l) : Las H' p h l := by
  obtain ⟨a, b, e1, e2, e3⟩ := x
  exact ⟨a, b, k _ _ e1, k _ _ e2, k _ _ e3⟩
theorem lenI {xs : List Int} (h : xs.length ≤ 1000000) : (xs.map V.int).length < sizeLine := by
  rw [List.length_map]
  exact Nat.lt_of_le_of_lt h (by decide)
theorem ixN_at {n j : Nat} (h : j < n) : ixN n (j : Int) = some j := by
  unfold ixN
  rw [if_pos (by omega), if_pos (by omega)]
  rfl
theorem set_mapI {xs : List Int} {j : Nat} {v : Int} : (xs.map V.int).set j (.int v) = (xs.set j v).map V.int := by rw [List.map_set]
/-- a list or a tuple of ints -/
def SeqI (H : Hp) (a : Addr) (xs : List Int) : Prop := H a = some (.lst (xs.map V.int)) ∨ H a = some (.tup (xs.map V.int))
theorem SeqI.sq {K : PySem.W.Frag} {H : Hp} {a : Addr} {xs : List Int} (h : SeqI H a xs) : SqL K H a (xs.map V.int) ∨ SqT K H a (xs.map V.int) := by
  rcases h with h | h
  · exact .inl (.of h)
  · exact .inr (.of h)
theorem SeqI.same {H H' : Hp} {a : Addr} {xs : List Int} (k : Same H H') (h : SeqI H a xs) : SeqI H' a xs := by
  rcases h with h | h
  · exact .inl (k _ _ h)
  · exact .inr (k _ _ h)
/-- a pair of lists or tuples of ints -/
def Pr (H : Hp) (p : Addr) (h l : List Int) : Prop := ∃ a b, H p = some (.tup [.ref a, .ref b]) ∧ SeqI H a h ∧ SeqI H b l
theorem Las.pr {H : Hp} {p : Addr} {h l : List Int} (x : Las H p h l) : Pr H p h l := by
  obtain ⟨a, b, e1, e2, e3⟩ := x
  exact ⟨a, b, e1, .inr e2, .inr e3⟩
theorem Pr.same {H H' : Hp} {p : Addr} {h l : List Int} (k : Same H H') (x : Pr H p h l) : Pr H' p h l := by
  obtain ⟨a, b, e1, e2, e3⟩ := x
  exact ⟨a, b, k _ _ e1, e2.same k, e3.same k⟩
/-- an item -/
theorem ixq {K : PySem.W.Frag} {H : Hp} {a : Addr} {xs : List Int} {i : Int} {j : Nat} {v : V} {Q : VK} (h : SeqI H a xs) (ei : i = (j : Int)) (e : (xs.map V.int)[j]? = some v) (q : Q v H) : rIx K (.ref a) (.int i) H Q := by
  subst ei
  rcases h with h | h
  · exact .inl ⟨_, _, _, _, rfl, rfl, .of h, atI_nat e, q⟩
  · exact .inr (.inl ⟨_, _, _, _, rfl, rfl, .of h, atI_nat e, q⟩)
theorem ixq_last {K : PySem.W.Frag} {H : Hp} {a : Addr} {xs : List Int} {z : Int} {Q : VK} (h : SeqI H a xs) (e : xs.getLast? = some z) (q : Q (.int z) H) : rIx K (.ref a) (.int (-1)) H Q := by
  obtain ⟨ys, rfl⟩ := List.getLast?_eq_some_iff.mp e
  have g : atI ((ys ++ [z]).map V.int) (-1) = some (.int z) := by
    rw [List.map_append]
    exact atI_last _ _
  rcases h with h | h
  · exact .inl ⟨_, _, _, _, rfl, rfl, .of h, g, q⟩
  · exact .inr (.inl ⟨_, _, _, _, rfl, rfl, .of h, g, q⟩)
theorem at_map {xs : List Int} {j : Nat} (h : j < xs.length) : (xs.map V.int)[j]? = some (.int (xs.getD j 0)) := by
  rw [List.getElem?_map, List.getElem?_eq_getElem h, List.getD_eq_getElem?_getD, List.getElem?_eq_getElem h]
  rfl
/-! slices -/
section
variable {X : Cx} {K : PySem.W.Frag}
def rSlQ (K : PySem.W.Frag) : V → Option Int → Option Int → Hp → VK → Prop := fun x lo hi H Q => rSlL K x lo hi H Q ∨ rSlA K x lo hi H Q
theorem sl_seqK (h : X.K = K) : SlR X (rSlQ K) := by
  subst h
  exact sl_list.or sl_tupA
theorem sl_tupK (h : X.K = K) : SlR X (rSlA K) := by
  subst h
  exact sl_tupA
theorem sl_listK (h : X.K = K) : SlR X (rSlL K) := by
  subst h
  exact sl_list
theorem op_catK (h : X.K = K) : OpR X (binaryOp .Add) (rCatA K) := by
  subst h
  exact op_catA
theorem op_repTK (h : X.K = K) : OpR X (binaryOp .Mult) (rRepT K) := by
  subst h
  exact op_repT
theorem op_eqDK (h : X.K = K) (hu : X.A.units + 64 < cLine) : OpR X (compareOp .Eq) (rEqD K) := by
  subst h
  exact op_eqD hu
theorem op_neDK (h : X.K = K) (hu : X.A.units + 64 < cLine) : OpR X (compareOp .NotEq) (rNeD K) := by
  subst h
  exact op_neD hu
theorem call_minK (h : X.K = K) (hc : X.calm = true) : CallR X (.builtin "min") (rMin K) := by
  subst h
  exact cr_min hc
theorem call_isiK' (h : X.K = K) : CallR X (.builtin "isinstance") (rIsi K) := by
  subst h
  exact call_isi
end
theorem cut_map {xs : List Int} {lo hi : Option Int} : cutV (xs.map V.int) lo hi = ((xs.drop (HT.sIx xs.length 0 lo)).take (HT.sIx xs.length xs.length hi - HT.sIx xs.length 0 lo)).map V.int := by
  unfold cutV
  rw [List.length_map, List.map_take, List.map_drop]
/-- a slice of a tuple -/
theorem slt {K : PySem.W.Frag} {H : Hp} {a : Addr} {xs ys : List Int} {lo hi : Option Int} {Q : VK} (h : TupI H a xs) (e : (xs.drop (HT.sIx xs.length 0 lo)).take (HT.sIx xs.length xs.length hi - HT.sIx xs.length 0 lo) = ys)
    (q : ∀ (H' : Hp) (p : Addr), Same H H' → TupI H' p ys → Q (.ref p) H') : rSlA K (.ref a) lo hi H Q := by
  subst e
  refine ⟨a, _, rfl, .of h, fun w => ?_, fun _ p hp => q _ p (same_new hp) ?_⟩
  · refine q H a (Same.refl H) ?_
    rw [List.length_map] at w
    rw [w.1, w.2, List.drop_zero, Nat.sub_zero, List.take_length]
    exact h
  · unfold TupI
    rw [upd_same, cut_map]
/-- a slice of a list or tuple -/
theorem slq {K : PySem.W.Frag} {H : Hp} {a : Addr} {xs ys : List Int} {lo hi : Option Int} {Q : VK} (h : SeqI H a xs) (e : (xs.drop (HT.sIx xs.length 0 lo)).take (HT.sIx xs.length xs.length hi - HT.sIx xs.length 0 lo) = ys)
    (q : ∀ (H' : Hp) (p : Addr), Same H H' → SeqI H' p ys → Q (.ref p) H') : rSlQ K (.ref a) lo hi H Q := by
  rcases h with h | h
  · subst e
    refine .inl ⟨a, _, rfl, .of h, fun p hp => q _ p (same_new hp) (.inl ?_)⟩
    rw [upd_same, cut_map]
  · exact .inr (slt h e fun H' p s t => q H' p s (.inr t))
theorem cut_to (xs : List Int) (n : Nat) : (xs.drop (HT.sIx xs.length 0 none)).take (HT.sIx xs.length xs.length (some (n : Int)) - HT.sIx xs.length 0 none) = xs.take n := by
  rw [HT.sIx_none, HT.sIx_nat, List.drop_zero, Nat.sub_zero]
  rcases Nat.le_total n xs.length with c | c
  · rw [Nat.min_eq_left c]
  · rw [Nat.min_eq_right c, List.take_length, List.take_of_length_le c]
theorem cut_from (xs : List Int) {n : Nat} (hn : n ≤ xs.length) : (xs.drop (HT.sIx xs.length 0 (some (n : Int)))).take (HT.sIx xs.length xs.length none - HT.sIx xs.length 0 (some (n : Int))) = xs.drop n := by
  rw [HT.sIx_none, HT.sIx_nat, Nat.min_eq_left hn]
  exact List.take_of_length_le (by rw [List.length_drop]; exact Nat.le_refl _)
theorem slt_to {K : PySem.W.Frag} {H : Hp} {a : Addr} {xs : List Int} {k : Int} {n : Nat} {Q : VK} (h : TupI H a xs) (ek : k = (n : Int))
    (q : ∀ (H' : Hp) (p : Addr), Same H H' → TupI H' p (xs.take n) → Q (.ref p) H') : rSlA K (.ref a) none (some k) H Q := by
  subst ek
  exact slt h (cut_to xs n) q
theorem slt_from {K : PySem.W.Frag} {H : Hp} {a : Addr} {xs : List Int} {k : Int} {n : Nat} {Q : VK} (h : TupI H a xs) (ek : k = (n : Int)) (hn : n ≤ xs.length)
    (q : ∀ (H' : Hp) (p : Addr), Same H H' → TupI H' p (xs.drop n) → Q (.ref p) H') : rSlA K (.ref a) (some k) none H Q := by
  subst ek
  exact slt h (cut_from xs hn) q
theorem slq_to {K : PySem.W.Frag} {H : Hp} {a : Addr} {xs : List Int} {k : Int} {n : Nat} {Q : VK} (h : SeqI H a xs) (ek : k = (n : Int))
    (q : ∀ (H' : Hp) (p : Addr), Same H H' → SeqI H' p (xs.take n) → Q (.ref p) H') : rSlQ K (.ref a) none (some k) H Q := by
  subst ek
  exact slq h (cut_to xs n) q
theorem slq_mid {K : PySem.W.Frag} {H : Hp} {a : Addr} {xs : List Int} {k k2 : Int} {n m : Nat} {Q : VK} (h : SeqI H a xs) (ek : k = (n : Int)) (ek2 : k2 = (m : Int)) (hn : n ≤ xs.length) (hm : m ≤ xs.length)
    (q : ∀ (H' : Hp) (p : Addr), Same H H' → SeqI H' p ((xs.drop n).take (m - n)) → Q (.ref p) H') : rSlQ K (.ref a) (some k) (some k2) H Q := by
  subst ek
  subst ek2
  refine slq h ?_ q
  rw [HT.sIx_nat, HT.sIx_nat, Nat.min_eq_left hn, Nat.min_eq_left hm]
/-- tuple(x) -/
theorem tupq {K : PySem.W.Frag} {H : Hp} {a : Addr} {xs : List Int} {Q : VK} (h : SeqI H a xs) (q : ∀ (H' : Hp) (p : Addr), Same H H' → TupI H' p xs → Q (.ref p) H') : rTupOf K [.ref a] H Q := by
  rcases h with h | h
  · exact ⟨a, _, rfl, .inl ⟨.of h, fun p hp => q _ p (same_new hp) upd_same⟩⟩
  · exact ⟨a, _, rfl, .inr ⟨.of h, q H a (Same.refl H) h⟩⟩
/-- x + y of tuples -/
theorem catq {K : PySem.W.Frag} {H : Hp} {a b : Addr} {xs ys : List Int} {Q : VK} (h : TupI H a xs) (g : TupI H b ys) (hl : xs.length + ys.length ≤ 1000000) (q : ∀ (H' : Hp) (p : Addr), Same H H' → TupI H' p (xs ++ ys) → Q (.ref p) H') : rCatA K (.ref a) (.ref b) H Q := by
  refine ⟨a, b, _, _, rfl, rfl, .of h, .of g, ?_, fun z => ?_, fun _ z => ?_, fun _ _ p hp => ?_⟩
  · rw [List.length_map, List.length_map]
    exact Nat.le_trans hl (by decide)
  · have e : xs = [] := List.map_eq_nil_iff.mp z
    refine q H b (Same.refl H) ?_
    rw [e]
    exact g
  · have e : ys = [] := List.map_eq_nil_iff.mp z
    refine q H a (Same.refl H) ?_
    rw [e, List.append_nil]
    exact h
  · refine q _ p (same_new hp) ?_
    unfold TupI
    rw [upd_same, List.map_append]
/-- a slice of a list -/
theorem sll_from {K : PySem.W.Frag} {H : Hp} {a : Addr} {xs : List Int} {k : Int} {n : Nat} {Q : VK} (h : H a = some (.lst (xs.map V.int))) (ek : k = (n : Int)) (hn : n ≤ xs.length)
    (q : ∀ p, H p = none → Q (.ref p) (upd H p (.lst ((xs.drop n).map V.int)))) : rSlL K (.ref a) (some k) none H Q := by
  subst ek
  refine ⟨a, _, rfl, .of h, fun p hp => ?_⟩
  rw [cut_map, cut_from xs hn]
  exact q p hp
theorem sll_to {K : PySem.W.Frag} {H : Hp} {a : Addr} {xs : List Int} {k : Int} {n : Nat} {Q : VK} (h : H a = some (.lst (xs.map V.int))) (ek : k = (n : Int))
    (q : ∀ p, H p = none → Q (.ref p) (upd H p (.lst ((xs.take n).map V.int)))) : rSlL K (.ref a) none (some k) H Q := by
  subst ek
  refine ⟨a, _, rfl, .of h, fun p hp => ?_⟩
  rw [cut_map, cut_to xs n]
  exact q p hp
/-! == of data -/
theorem eqvAll_int : ∀ xs ys : List Int, PyData.eqvAll (xs.map PyData.int) (ys.map PyData.int) = decide (xs = ys)
  | [], [] => by simp [PyData.eqvAll]
  | [], y :: ys => by simp [PyData.eqvAll]
  | x :: xs, [] => by simp [PyData.eqvAll]
  | x :: xs, y :: ys => by
    rw [List.map_cons, List.map_cons, PyData.eqvAll, eqvAll_int xs ys, PyData.eqv]
    by_cases c : x = y
    · by_cases d : xs = ys
      · simp [c, d]
      · simp [c, d]
    · simp [c]
theorem eqv_tup (xs ys : List Int) : PyData.eqv (.tuple (xs.map PyData.int)) (.tuple (ys.map PyData.int)) = decide (xs = ys) := by
  rw [PyData.eqv]
  exact eqvAll_int xs ys
theorem eqv_lst (xs ys : List Int) : PyData.eqv (.list (xs.map PyData.int)) (.list (ys.map PyData.int)) = decide (xs = ys) := by
  rw [PyData.eqv]
  exact eqvAll_int xs ys
theorem layAll : ∀ xs : List Int, PyData.canLayAll0 (xs.map PyData.int) = true
  | [] => rfl
  | x :: xs => by
    rw [List.map_cons, PyData.canLayAll0, layAll xs]
    rfl
theorem depAll : ∀ xs : List Int, PyData.depthAll (xs.map PyData.int) = 0
  | [] => by simp [PyData.depthAll]
  | x :: xs => by
    rw [List.map_cons, PyData.depthAll, depAll xs]
    simp [PyData.depth]
theorem shaped_tup (xs : List Int) : SeqAt.shaped (.tuple (xs.map PyData.int)) = true := by
  unfold SeqAt.shaped
  rw [PyData.canLay0, layAll, PyData.depth, depAll]
  rfl
theorem shaped_lst (xs : List Int) : SeqAt.shaped (.list (xs.map PyData.int)) = true := by
  unfold SeqAt.shaped
  rw [PyData.canLay0, layAll, PyData.depth, depAll]
  rfl
theorem dpAll_int {K : PySem.W.Frag} {H : Hp} : ∀ xs : List Int, DpAll K H (xs.map V.int) (xs.map PyData.int)
  | [] => .nil
  | x :: xs => .cons (.int x) (dpAll_int xs)
theorem dp_lst {K : PySem.W.Frag} {H : Hp} {a : Addr} {xs : List Int} (h : H a = some (.lst (xs.map V.int))) : Dp K H (.ref a) (.list (xs.map PyData.int)) := .lst (.of h) (dpAll_int xs)
theorem dp_tup {K : PySem.W.Frag} {H : Hp} {a : Addr} {xs : List Int} (h : TupI H a xs) : Dp K H (.ref a) (.tuple (xs.map PyData.int)) := .tup (.of h) (dpAll_int xs)
theorem ite_ne {x y : Int} {A B : Prop} (h1 : x ≠ y → A) (h2 : x = y → B) : if (!decide (V.int x = V.int y)) = true then A else B := by
  by_cases c : x = y
  · rw [c, decide_eq_true rfl]
    exact iteF (h2 c)
  · rw [decide_eq_false (fun z => c (V.int.inj z))]
    exact iteT (h1 c)
theorem ite_eq {x y : Int} {A B : Prop} (h1 : x = y → A) (h2 : x ≠ y → B) : if decide (V.int x = V.int y) = true then A else B := by
  by_cases c : x = y
  · rw [c, decide_eq_true rfl]
    exact iteT (h1 c)
  · rw [decide_eq_false (fun z => c (V.int.inj z))]
    exact iteF (h2 c)
theorem ite_lt {x y : Int} {A B : Prop} (h1 : x < y → A) (h2 : y ≤ x → B) : if decide (x < y) = true then A else B := by
  by_cases c : x < y
  · rw [decide_eq_true c]
    exact iteT (h1 c)
  · rw [decide_eq_false c]
    exact iteF (h2 (by omega))
/-! ### the letters of a word -/
def wat (h l : List Int) (t : Nat) : Int := if t < h.length then h.getD t 0 else l.getD ((t - h.length) % l.length) 0
theorem wat_head {h l : List Int} {t : Nat} (c : t < h.length) : (h.map V.int)[t]? = some (.int (wat h l t)) := by
  unfold wat
  rw [if_pos c, List.getElem?_map, List.getElem?_eq_getElem c, List.getD_eq_getElem?_getD, List.getElem?_eq_getElem c]
  rfl
theorem wat_loop {h l : List Int} {t : Nat} (c : ¬ t < h.length) (n : l ≠ []) : (l.map V.int)[(t - h.length) % l.length]? = some (.int (wat h l t)) := by
  have hl : 0 < l.length := List.length_pos_iff.mpr n
  have c2 : (t - h.length) % l.length < l.length := Nat.mod_lt _ hl
  unfold wat
  rw [if_neg c, List.getElem?_map, List.getElem?_eq_getElem c2, List.getD_eq_getElem?_getD, List.getElem?_eq_getElem c2]
  rfl
theorem ix_mod {t n m : Nat} (h : n ≤ t) : ((t : Int) - (n : Int)) % (m : Int) = (((t - n) % m : Nat) : Int) := by
  have e : ((t : Int) - (n : Int)) = ((t - n : Nat) : Int) := by omega
  rw [e]
  rfl
/-! ### promises of the helpers -/
def spTake : Sp := fun vs H Q _ => ∃ (d : Addr) (n : Int), vs = [.ref d, .int n] ∧ Drw H d ∧ 0 < n ∧
  ∀ (r : Int) (ds : List Int), 0 ≤ r → r < n → Q (.int r) (upd H d (.lst (ds.map V.int)))
def spDraws (K : PySem.W.Frag) : Sp := fun vs H Q _ => ∃ (a : Addr) (ns : List Int) (c : Nat), vs = [.ref a, .int c] ∧ SqL K H a (ns.map V.int) ∧ c ≤ 1000 ∧
  ∀ (H' : Hp) (d : Addr), Same H H' → H d = none → Drw H' d → Q (.ref d) H'
def spAt : Sp := fun vs H Q _ => ∃ (p : Addr) (h l : List Int) (t : Nat), vs = [.ref p, .int t] ∧ Pr H p h l ∧ l ≠ [] ∧ Q (.int (wat h l t)) H
def spLasso : Sp := fun vs H Q _ => ∃ (d : Addr) (n : Int) (m : Nat), vs = [.ref d, .int n, .int m] ∧ Drw H d ∧ 0 < n ∧ 0 < m ∧ m ≤ 1000 ∧
  ∀ (H' : Hp) (p : Addr) (h l : List Int), Kp d H H' → Drw H' d → Las H' p h l → h.length ≤ m → l ≠ [] → l.length ≤ m → (∀ x ∈ h, 0 ≤ x ∧ x < n) → (∀ x ∈ l, 0 ≤ x ∧ x < n) → Q (.ref p) H'
/-- v says where f and g first differ below n -/
def IsDiff (f g : Nat → Int) (n : Nat) (v : V) : Prop := (v = .non ∧ ∀ t < n, f t = g t) ∨ ∃ t, t < n ∧ v = .int (t : Nat) ∧ f t ≠ g t ∧ ∀ s < t, f s = g s
theorem IsDiff.uniq {f g : Nat → Int} {n : Nat} {v u : V} (a : IsDiff f g n v) (b : IsDiff f g n u) : v = u := by
  rcases a with ⟨rfl, a⟩ | ⟨t, ht, rfl, a1, a2⟩
  · rcases b with ⟨rfl, b⟩ | ⟨s, hs, rfl, b1, b2⟩
    · rfl
    · exact absurd (a s hs) b1
  · rcases b with ⟨rfl, b⟩ | ⟨s, hs, rfl, b1, b2⟩
    · exact absurd (b t ht) a1
    · rcases Nat.lt_trichotomy t s with c | c | c
      · exact absurd (b2 t c) a1
      · rw [c]
      · exact absurd (a2 s c) b1
theorem IsDiff.swap {f g : Nat → Int} {n : Nat} {v : V} (a : IsDiff f g n v) : IsDiff g f n v := by
  rcases a with ⟨rfl, a⟩ | ⟨t, ht, rfl, a1, a2⟩
  · exact .inl ⟨rfl, fun t h => (a t h).symm⟩
  · exact .inr ⟨t, ht, rfl, a1.symm, fun s h => (a2 s h).symm⟩
def dfn (h1 l1 h2 l2 : List Int) : Nat := max h1.length h2.length + l1.length + l2.length
def spFd : Sp := fun vs H Q _ => ∃ (p q : Addr) (h1 l1 h2 l2 : List Int), vs = [.ref p, .ref q] ∧ Las H p h1 l1 ∧ Las H q h2 l2 ∧ l1 ≠ [] ∧ l2 ≠ [] ∧ dfn h1 l1 h2 l2 ≤ 1000000 ∧
  ∀ v, IsDiff (wat h1 l1) (wat h2 l2) (dfn h1 l1 h2 l2) v → Q v H
theorem max_if (a b : Nat) : (if ((b : Nat) : Int) > (a : Int) then (b : Int) else (a : Int)) = ((max a b : Nat) : Int) := by
  by_cases h : ((b : Nat) : Int) > (a : Int)
  · rw [if_pos h]
    omega
  · rw [if_neg h]
    omega
/-- the letters of a list, by places -/
def lw (l : List Int) : Nat → Int := fun i => l.getD i 0
def spPeriod : Sp := fun vs H Q _ => ∃ (a : Addr) (l : List Int), vs = [.ref a] ∧ SeqI H a l ∧ l ≠ [] ∧ l.length ≤ 1000000 ∧
  ∀ (H' : Hp) (r : Nat), Same H H' → Wd.Least (lw l) l.length r → Q (.int r) H'
/-- the normal form (h', l') of (h, l) -/
structure Short (h l h' l' : List Int) : Prop where
  ne : l' ≠ []
  same : ∀ t, wat h' l' t = wat h l t
  hl : h'.length ≤ h.length
  ll : l'.length ≤ l.length
  last : h' ≠ [] → h'.getLast? ≠ l'.getLast?
  prim : ∀ p, 0 < p → p < l'.length → p ∣ l'.length → ∃ i, i + p < l'.length ∧ lw l' i ≠ lw l' (i + p)
  memH : ∀ x ∈ h', x ∈ h
  memL : ∀ x ∈ l', x ∈ l
/-- the letter of the repeated word at any whole number of turns from where it begins -/
def bk (l : List Int) (r : Nat) (z : Int) : Int := lw l ((z % (r : Int)).toNat)
def rot (l : List Int) (r c : Nat) : List Int := (l.drop c).take (r - c) ++ l.take c
theorem rot_len {l : List Int} {r c : Nat} (hc : c < r) (hr : r ≤ l.length) : (rot l r c).length = r := by
  unfold rot
  rw [List.length_append, List.length_take, List.length_drop, List.length_take]
  omega
theorem lw_get {l : List Int} {i : Nat} (h : i < l.length) : l[i]? = some (lw l i) := by
  unfold lw
  rw [List.getD_eq_getElem?_getD, List.getElem?_eq_getElem h]
  rfl
theorem lw_of {l : List Int} {i : Nat} {x : Int} (h : l[i]? = some x) : lw l i = x := by
  unfold lw
  rw [List.getD_eq_getElem?_getD, h]
  rfl
theorem rot_at {l : List Int} {r c j : Nat} (hc : c < r) (hr : r ≤ l.length) (hj : j < r) : lw (rot l r c) j = lw l ((j + c) % r) := by
  apply lw_of
  unfold rot
  have e1 : ((l.drop c).take (r - c)).length = r - c := by
    rw [List.length_take, List.length_drop]
    omega
  rcases Nat.lt_or_ge j (r - c) with h | h
  · rw [List.getElem?_append_left (by rw [e1]; exact h), List.getElem?_take, if_pos h, List.getElem?_drop, Nat.mod_eq_of_lt (by omega), Nat.add_comm c j]
    exact lw_get (by omega)
  · rw [List.getElem?_append_right (by rw [e1]; exact h), e1, List.getElem?_take, if_pos (by omega)]
    have e2 : (j + c) % r = j - (r - c) := by
      rw [Nat.mod_eq_sub_mod (by omega), Nat.mod_eq_of_lt (by omega)]
      omega
    rw [e2]
    exact lw_get (by omega)
theorem bk_shift {l : List Int} {r : Nat} {a b z : Int} (h : a = b + r * z) : bk l r a = bk l r b := by
  unfold bk
  rw [h, Int.add_mul_emod_self_left]
theorem bk_nat {l : List Int} {r t : Nat} : bk l r (t : Int) = lw l (t % r) := rfl
theorem least_le {w : Nat → Int} {n r : Nat} (hn : 0 < n) (L : Wd.Least w n r) : r ≤ n := Nat.le_of_dvd hn L.dvd
/-- the letters of l repeated, by the least repetition -/
theorem cyc_least {l : List Int} {r : Nat} (hn : 0 < l.length) (L : Wd.Least (lw l) l.length r) (i : Nat) : lw l (i % l.length) = bk l r (i : Int) := by
  have h1 : Wd.cyc (lw l) l.length i = Wd.cyc (lw l) l.length (i % r) := L.rp.mod
  have h2 : Wd.cyc (lw l) l.length (i % r) = lw l (i % r) := Wd.cyc_lt (Nat.lt_of_lt_of_le (Nat.mod_lt _ L.pos) (least_le hn L))
  rw [bk_nat, ← h2, ← h1]
  rfl
theorem cut_lt {r : Nat} (hr : 0 < r) (z : Int) : (z % (r : Int)).toNat < r := by
  have h1 := Int.emod_nonneg z (show (r : Int) ≠ 0 by omega)
  have h2 := Int.emod_lt_of_pos z (show (0 : Int) < (r : Int) by omega)
  omega
theorem cut_int {r : Nat} (hr : 0 < r) (z : Int) : (((z % (r : Int)).toNat : Nat) : Int) = z - r * (z / r) := by
  have h1 := Int.emod_nonneg z (show (r : Int) ≠ 0 by omega)
  rw [Int.toNat_of_nonneg h1, Int.emod_def]
theorem rot_bk {l : List Int} {r : Nat} (hr0 : 0 < r) (hr : r ≤ l.length) (z : Int) (j : Nat) : lw (rot l r (z % (r : Int)).toNat) (j % r) = bk l r ((j : Int) + z) := by
  rw [rot_at (cut_lt hr0 z) hr (Nat.mod_lt _ hr0), Nat.mod_add_mod]
  have h : bk l r (((j + (z % (r : Int)).toNat : Nat)) : Int) = bk l r ((j : Int) + z) := bk_shift (z := -(z / r)) (by
    rw [Int.natCast_add, cut_int hr0, Int.mul_neg]
    omega)
  rw [← h]
  rfl
theorem short_of {h l : List Int} {r k : Nat} (hne : l ≠ []) (L : Wd.Least (lw l) l.length r) (hk : k ≤ h.length)
    (hB : ∀ t, k ≤ t → t < h.length → lw h t = bk l r ((t : Int) - (h.length : Int))) (hX : k = 0 ∨ lw h (k - 1) ≠ bk l r ((k : Int) - 1 - (h.length : Int))) :
    Short h l (h.take k) (rot l r (((k : Int) - (h.length : Int)) % (r : Int)).toNat) := by
  have hn : 0 < l.length := List.length_pos_iff.mpr hne
  have hr0 := L.pos
  have hr := least_le hn L
  have hlen := rot_len (cut_lt hr0 ((k : Int) - (h.length : Int))) hr
  have htk : (h.take k).length = k := by
    rw [List.length_take]
    omega
  refine ⟨fun z => ?_, fun t => ?_, by rw [htk]; exact hk, by rw [hlen]; exact hr, fun hh => ?_, fun p hp hpl hpd => ?_, fun x hx => List.mem_of_mem_take hx, fun x hx => ?_⟩
  · rw [z] at hlen
    have : (0 : Nat) = r := hlen
    omega
  · unfold wat
    rw [htk, hlen]
    by_cases c : t < k
    · rw [if_pos c, if_pos (by omega), List.getD_eq_getElem?_getD, List.getD_eq_getElem?_getD, List.getElem?_take, if_pos c]
    · rw [if_neg c]
      have e1 := rot_bk (l := l) hr0 hr ((k : Int) - (h.length : Int)) (t - k)
      have e2 : ((t - k : Nat) : Int) + ((k : Int) - (h.length : Int)) = (t : Int) - (h.length : Int) := by omega
      rw [e2] at e1
      show lw _ _ = _
      rw [e1]
      by_cases d : t < h.length
      · rw [if_pos d]
        exact (hB t (by omega) d).symm
      · rw [if_neg d]
        have e3 : (t : Int) - (h.length : Int) = ((t - h.length : Nat) : Int) := by omega
        rw [e3]
        exact (cyc_least hn L _).symm
  · have hk0 : k ≠ 0 := fun z => hh (by rw [z]; rfl)
    rcases hX with z | z
    · exact absurd z hk0
    · rw [List.getLast?_eq_getElem?, List.getLast?_eq_getElem?, htk, hlen]
      rw [List.getElem?_take, if_pos (by omega), lw_get (show k - 1 < h.length by omega), lw_get (show r - 1 < (rot l r _).length by rw [hlen]; omega)]
      intro q
      refine z ?_
      rw [Option.some.inj q]
      have e1 := rot_bk (l := l) hr0 hr ((k : Int) - (h.length : Int)) (r - 1)
      rw [Nat.mod_eq_of_lt (show r - 1 < r by omega)] at e1
      rw [e1]
      exact bk_shift (z := 1) (by omega)
  · rw [hlen] at hpl hpd ⊢
    apply Classical.byContradiction
    intro hno
    have hall : ∀ i, i + p < r → lw (rot l r (((k : Int) - (h.length : Int)) % (r : Int)).toNat) i = lw (rot l r (((k : Int) - (h.length : Int)) % (r : Int)).toNat) (i + p) := fun i hi =>
      Classical.byContradiction fun q => hno ⟨i, hi, q⟩
    have hrp := Wd.rp_of hp hpd hr0 hall
    have key : ∀ i, Wd.cyc (lw l) l.length i = Wd.cyc (lw (rot l r (((k : Int) - (h.length : Int)) % (r : Int)).toNat)) r (i + (r - (((k : Int) - (h.length : Int)) % (r : Int)).toNat)) := by
      intro i
      have hc := cut_lt hr0 ((k : Int) - (h.length : Int))
      have a1 : Wd.cyc (lw l) l.length i = bk l r (i : Int) := cyc_least hn L i
      have a2 := rot_at hc hr (Nat.mod_lt (i + (r - (((k : Int) - (h.length : Int)) % (r : Int)).toNat)) hr0)
      rw [a1]
      show _ = lw _ (_ % r)
      rw [a2, Nat.mod_add_mod, show i + (r - (((k : Int) - (h.length : Int)) % (r : Int)).toNat) + (((k : Int) - (h.length : Int)) % (r : Int)).toNat = i + r by omega, Nat.add_mod_right]
      rfl
    have hR : Wd.Rp (lw l) l.length p := fun i => by
      rw [key, key, Nat.add_right_comm]
      exact hrp _
    have := L.min p hp (Nat.dvd_trans hpd L.dvd) hR
    omega
  · unfold rot at hx
    rcases List.mem_append.mp hx with z | z
    · exact List.mem_of_mem_drop (List.mem_of_mem_take z)
    · exact List.mem_of_mem_take z
theorem rp_mod {w : Nat → Int} {n p q : Nat} (hp : Wd.Rp w n p) (hq : Wd.Rp w n q) : Wd.Rp w n (q % p) := fun i => by
  have a := hp.mul (q / p) (i + q % p)
  rw [Nat.mul_comm, Nat.add_assoc, Nat.mod_add_div] at a
  rw [← a]
  exact hq i
theorem rp_gcd {w : Nat → Int} {n : Nat} (p q : Nat) : Wd.Rp w n p → Wd.Rp w n q → Wd.Rp w n (Nat.gcd p q) := by
  induction p, q using Nat.gcd.induction with
  | H0 q => intro _ hq; rw [Nat.gcd_zero_left]; exact hq
  | H1 p q hp ih => intro h1 h2; rw [Nat.gcd_rec]; exact ih (rp_mod h1 h2) h1
/-- the normal form -/
structure Nrm (h l : List Int) : Prop where
  ne : l ≠ []
  last : h ≠ [] → h.getLast? ≠ l.getLast?
  prim : ∀ p, 0 < p → p < l.length → p ∣ l.length → ∃ i, i + p < l.length ∧ lw l i ≠ lw l (i + p)
theorem Short.nrm {h l h' l' : List Int} (s : Short h l h' l') : Nrm h' l' := ⟨s.ne, s.last, s.prim⟩
theorem Nrm.pos {h l : List Int} (N : Nrm h l) : 0 < l.length := List.length_pos_iff.mpr N.ne
theorem wat_cyc {h l : List Int} {t : Nat} (c : h.length ≤ t) : wat h l t = Wd.cyc (lw l) l.length (t - h.length) := by
  unfold wat
  rw [if_neg (by omega)]
  rfl
/-- every period that the word has from some turn on is a multiple of the loop's length -/
theorem Nrm.dvd {h l : List Int} (N : Nrm h l) {p M : Nat} (hP : ∀ t, M ≤ t → wat h l (t + p) = wat h l t) : l.length ∣ p := by
  have hr := N.pos
  have hRp : Wd.Rp (lw l) l.length p := fun i => by
    have self := Wd.rp_self (lw l) l.length
    have e1 := self.mul M i
    have e2 := self.mul M (i + p)
    have hM : M ≤ M * l.length := Nat.le_mul_of_pos_right M hr
    have q := hP (h.length + (i + M * l.length)) (by omega)
    rw [wat_cyc (by omega), wat_cyc (by omega)] at q
    rw [show h.length + (i + M * l.length) + p - h.length = i + p + M * l.length by omega, show h.length + (i + M * l.length) - h.length = i + M * l.length by omega, e1, e2] at q
    exact q
  have hg := rp_gcd p l.length hRp (Wd.rp_self (lw l) l.length)
  have gd : Nat.gcd p l.length ∣ l.length := Nat.gcd_dvd_right p l.length
  have gp : 0 < Nat.gcd p l.length := Nat.gcd_pos_of_pos_right p hr
  have gl := Nat.le_of_dvd hr gd
  rcases Nat.lt_or_ge (Nat.gcd p l.length) l.length with c | c
  · obtain ⟨i, hi, hne⟩ := N.prim _ gp c gd
    refine absurd ?_ hne
    have := hg i
    rw [Wd.cyc_lt hi, Wd.cyc_lt (by omega)] at this
    exact this.symm
  · have e : Nat.gcd p l.length = l.length := by omega
    rw [← e]
    exact Nat.gcd_dvd_left p l.length
theorem wat_per {h l : List Int} {t : Nat} (c : h.length ≤ t) : wat h l (t + l.length) = wat h l t := by
  rw [wat_cyc c, wat_cyc (by omega), show t + l.length - h.length = (t - h.length) + l.length by omega]
  exact Wd.rp_self (lw l) l.length _
theorem last_at {l : List Int} (n : l ≠ []) : l.getLast? = some (lw l (l.length - 1)) := by
  have := List.length_pos_iff.mpr n
  rw [List.getLast?_eq_getElem?]
  exact lw_get (by omega)
theorem Nrm.head_le {h l g m : List Int} (N : Nrm h l) (hs : ∀ t, wat h l t = wat g m t) (e : l.length = m.length) : h.length ≤ g.length := by
  rcases Nat.lt_or_ge g.length h.length with c | c
  · exfalso
    have hne : h ≠ [] := List.length_pos_iff.mp (by omega)
    refine N.last hne ?_
    rw [last_at hne, last_at N.ne]
    congr 1
    have hp := N.pos
    have a1 : wat h l (h.length - 1) = lw h (h.length - 1) := by
      unfold wat
      rw [if_pos (by omega)]
      rfl
    have a2 : wat h l (h.length - 1 + l.length) = lw l (l.length - 1) := by
      rw [wat_cyc (by omega), show h.length - 1 + l.length - h.length = l.length - 1 by omega, Wd.cyc_lt (by omega)]
    rw [← a1, ← a2, hs, hs, e]
    exact (wat_per (by omega)).symm
  · exact c
theorem Nrm.uniq {h l g m : List Int} (N : Nrm h l) (M : Nrm g m) (hs : ∀ t, wat h l t = wat g m t) : h = g ∧ l = m := by
  have d1 : l.length ∣ m.length := N.dvd (M := g.length) fun t ht => by
    rw [hs, hs]
    exact wat_per ht
  have d2 : m.length ∣ l.length := M.dvd (M := h.length) fun t ht => by
    rw [← hs, ← hs]
    exact wat_per ht
  have e : l.length = m.length := Nat.dvd_antisymm d1 d2
  have e2 : h.length = g.length := Nat.le_antisymm (N.head_le hs e) (M.head_le (fun t => (hs t).symm) e.symm)
  refine ⟨List.ext_getElem e2 fun i h1 h2 => ?_, List.ext_getElem e fun i h1 h2 => ?_⟩
  · have := hs i
    unfold wat at this
    rw [if_pos h1, if_pos h2, List.getD_eq_getElem?_getD, List.getD_eq_getElem?_getD, List.getElem?_eq_getElem h1, List.getElem?_eq_getElem h2] at this
    exact this
  · have := hs (h.length + i)
    rw [wat_cyc (by omega), wat_cyc (by omega), show h.length + i - h.length = i by omega, show h.length + i - g.length = i by omega, Wd.cyc_lt h1, Wd.cyc_lt h2] at this
    have a1 := lw_get h1
    have a2 := lw_get h2
    rw [List.getElem?_eq_getElem h1] at a1
    rw [List.getElem?_eq_getElem h2] at a2
    rw [Option.some.inj a1, Option.some.inj a2, this]
theorem at_last {l : List Int} (n : l ≠ []) : atI (l.map V.int) (-1) = some (.int (lw l (l.length - 1))) := by
  have hp := List.length_pos_iff.mpr n
  have e : l.map V.int = (l.dropLast.map V.int) ++ [.int (l.getLast n)] := by
    rw [← List.map_singleton, ← List.map_append, List.dropLast_concat_getLast]
  rw [e, atI_last]
  have q := last_at n
  rw [List.getLast?_eq_getLast n] at q
  rw [Option.some.inj q]
/-! repetition of a text -/
theorem flat_at {w : List Int} : ∀ (k i : Nat), i < k * w.length → (List.replicate k w).flatten[i]? = w[i % w.length]?
  | 0, i, h => by
    rw [Nat.zero_mul] at h
    exact absurd h (Nat.not_lt_zero i)
  | k + 1, i, h => by
    rw [List.replicate_succ, List.flatten_cons]
    rcases Nat.lt_or_ge i w.length with c | c
    · rw [List.getElem?_append_left c, Nat.mod_eq_of_lt c]
    · rw [List.getElem?_append_right c, flat_at k (i - w.length) (by rw [Nat.succ_mul] at h; omega), ← Nat.mod_eq_sub_mod c]
theorem flat_per {l : List Int} {p k : Nat} (hp : 0 < p) (hpl : p ≤ l.length) (e : l = (List.replicate k (l.take p)).flatten) (hk : k * p = l.length) : ∀ i, i + p < l.length → lw l i = lw l (i + p) := by
  intro i hi
  have el : (l.take p).length = p := by
    rw [List.length_take]
    omega
  have at_ : ∀ j, j < l.length → l[j]? = (l.take p)[j % p]? := fun j hj => by
    have h0 := flat_at (w := l.take p) k j (by rw [el, hk]; exact hj)
    rw [← e, el] at h0
    exact h0
  have h1 := at_ i (by omega)
  have h2 := at_ (i + p) hi
  rw [Nat.add_mod_right, ← h1, lw_get hi, lw_get (show i < l.length by omega)] at h2
  exact (Option.some.inj h2).symm
def spShort : Sp := fun vs H Q _ => ∃ (a b : Addr) (h l : List Int), vs = [.ref a, .ref b] ∧ SeqI H a h ∧ SeqI H b l ∧ l ≠ [] ∧ h.length ≤ 100000 ∧ l.length ≤ 100000 ∧
  ∀ (H' : Hp) (p : Addr) (h' l' : List Int), Same H H' → Las H' p h' l' → Short h l h' l' → Q (.ref p) H'
/-- what suffix hands back -/
def Suf (h l : List Int) (t : Nat) (h' l' : List Int) : Prop := Nrm h' l' ∧ (∀ i, wat h' l' i = wat h l (t + i)) ∧ h'.length ≤ h.length ∧ l'.length ≤ l.length ∧ (∀ x ∈ h', x ∈ h ∨ x ∈ l) ∧ ∀ x ∈ l', x ∈ l
def spSuffix : Sp := fun vs H Q _ => ∃ (p : Addr) (h l : List Int) (t : Nat), vs = [.ref p, .int t] ∧ Las H p h l ∧ l ≠ [] ∧ h.length ≤ 50000 ∧ l.length ≤ 50000 ∧
  ∀ (H' : Hp) (p' : Addr) (h' l' : List Int), Same H H' → Las H' p' h' l' → Suf h l t h' l' → Q (.ref p') H'
def spMake : Sp := fun vs H Q _ => ∃ (a b : Addr) (h l : List Int), vs = [.ref a, .ref b] ∧ H a = some (.lst (h.map V.int)) ∧ H b = some (.lst (l.map V.int)) ∧ l ≠ [] ∧ h.length ≤ 100000 ∧ l.length ≤ 100000 ∧ (∀ x ∈ h, 0 ≤ x) ∧ (∀ x ∈ l, 0 ≤ x) ∧
  ∀ (H' : Hp) (p : Addr) (h' l' : List Int), Same H H' → Las H' p h' l' → Short h l h' l' → Q (.ref p) H'
theorem suf_drop {h l : List Int} {t : Nat} (c : t < h.length) (i : Nat) : wat (h.drop t) l i = wat h l (t + i) := by
  unfold wat
  rw [List.length_drop]
  by_cases d : t + i < h.length
  · rw [if_pos d, if_pos (by omega), List.getD_eq_getElem?_getD, List.getD_eq_getElem?_getD, List.getElem?_drop]
  · rw [if_neg d, if_neg (by omega), show t + i - h.length = i - (h.length - t) by omega]
theorem suf_turn {h l : List Int} {t : Nat} (hn : l ≠ []) (c : h.length ≤ t) (i : Nat) : wat [] (l.drop ((t - h.length) % l.length) ++ l.take ((t - h.length) % l.length)) i = wat h l (t + i) := by
  have hp : 0 < l.length := List.length_pos_iff.mpr hn
  have hc := Nat.mod_lt (t - h.length) hp
  have e : l.drop ((t - h.length) % l.length) ++ l.take ((t - h.length) % l.length) = rot l l.length ((t - h.length) % l.length) := by
    have e3 : (l.drop ((t - h.length) % l.length)).take (l.length - (t - h.length) % l.length) = l.drop ((t - h.length) % l.length) := List.take_of_length_le (by rw [List.length_drop]; exact Nat.le_refl _)
    unfold rot
    rw [e3]
  rw [e, wat_cyc (Nat.zero_le _), wat_cyc (show h.length ≤ t + i by omega), rot_len hc (Nat.le_refl _)]
  show lw _ (_ % _) = lw _ (_ % _)
  rw [rot_at hc (Nat.le_refl _) (Nat.mod_lt _ hp), Nat.mod_add_mod, Nat.add_mod_mod]
  congr 2
  show i - 0 + _ = _
  omega
def spInts : Sp := fun vs H Q _ => ∃ (a : Addr) (xs : List Int) (lo hi : Int), vs = [.ref a, .int lo, .int hi] ∧ TupI H a xs ∧ (∀ x ∈ xs, lo ≤ x ∧ x < hi) ∧ Q (.bl true) H
def spNormal : Sp := fun vs H Q _ => ∃ (p : Addr) (h l : List Int), vs = [.ref p] ∧ Las H p h l ∧ Nrm h l ∧ l.length ≤ 1000 ∧ ∀ H', Same H H' → Q (.bl true) H'
def spIsLasso : Sp := fun vs H Q _ => ∃ (p : Addr) (h l : List Int) (n : Int), vs = [.ref p, .int n] ∧ Las H p h l ∧ Nrm h l ∧ l.length ≤ 1000 ∧ (∀ x ∈ h, 0 ≤ x ∧ x < n) ∧ (∀ x ∈ l, 0 ≤ x ∧ x < n) ∧ ∀ H', Same H H' → Q (.bl true) H'
/-! the same word in other forms -/
theorem wat_mem {h l : List Int} (n : l ≠ []) (t : Nat) : wat h l t ∈ h ∨ wat h l t ∈ l := by
  have hl : 0 < l.length := List.length_pos_iff.mpr n
  unfold wat
  by_cases c : t < h.length
  · rw [if_pos c, List.getD_eq_getElem?_getD, List.getElem?_eq_getElem c]
    exact .inl (List.getElem_mem c)
  · have c2 := Nat.mod_lt (t - h.length) hl
    rw [if_neg c, List.getD_eq_getElem?_getD, List.getElem?_eq_getElem c2]
    exact .inr (List.getElem_mem c2)
theorem range_getD {f : Nat → Int} {n t : Nat} (c : t < n) : ((List.range n).map f).getD t 0 = f t := by
  rw [List.getD_eq_getElem?_getD, List.getElem?_map, List.getElem?_range c]
  rfl
theorem wat_form {h l : List Int} {m k : Nat} (n : l ≠ []) (hk : 0 < k) (t : Nat) :
    wat ((List.range (h.length + m)).map (wat h l)) ((List.range (k * l.length)).map fun t => wat h l (h.length + m + t)) t = wat h l t := by
  have hl : 0 < l.length := List.length_pos_iff.mpr n
  have hkl : 0 < k * l.length := Nat.mul_pos hk hl
  rw [show wat ((List.range (h.length + m)).map (wat h l)) ((List.range (k * l.length)).map fun t => wat h l (h.length + m + t)) t
      = if t < ((List.range (h.length + m)).map (wat h l)).length then ((List.range (h.length + m)).map (wat h l)).getD t 0 else ((List.range (k * l.length)).map fun t => wat h l (h.length + m + t)).getD ((t - ((List.range (h.length + m)).map (wat h l)).length) % ((List.range (k * l.length)).map fun t => wat h l (h.length + m + t)).length) 0 from rfl]
  rw [List.length_map, List.length_range, List.length_map, List.length_range]
  by_cases c : t < h.length + m
  · rw [if_pos c, range_getD c]
  · rw [if_neg c, range_getD (Nat.mod_lt _ hkl), wat_cyc (by omega), wat_cyc (by omega)]
    show lw l (_ % _) = lw l (_ % _)
    congr 1
    have e1 : h.length + m + (t - (h.length + m)) % (k * l.length) - h.length = m + (t - (h.length + m)) % (k * l.length) := by omega
    have e2 : t - h.length = m + (t - (h.length + m)) := by omega
    rw [e1, e2, ← Nat.add_mod_mod, Nat.mod_mod_of_dvd _ ⟨k, Nat.mul_comm k l.length⟩, Nat.add_mod_mod]
theorem wat_front (f h l : List Int) (i : Nat) : wat (f ++ h) l (f.length + i) = wat h l i := by
  unfold wat
  rw [List.length_append]
  by_cases c : i < h.length
  · rw [if_pos c, if_pos (by omega), List.getD_eq_getElem?_getD, List.getD_eq_getElem?_getD, List.getElem?_append_right (by omega), Nat.add_sub_cancel_left]
  · rw [if_neg c, if_neg (by omega), show f.length + i - (f.length + h.length) = i - h.length by omega]
def dLas (h l : List Int) : PyData := .tuple [.tuple (h.map PyData.int), .tuple (l.map PyData.int)]
theorem dp_las {K : PySem.W.Frag} {H : Hp} {p : Addr} {h l : List Int} (x : Las H p h l) : Dp K H (.ref p) (dLas h l) := by
  obtain ⟨a, b, e1, e2, e3⟩ := x
  exact .tup (.of e1) (.cons (dp_tup e2) (.cons (dp_tup e3) .nil))
theorem shaped_las (h l : List Int) : SeqAt.shaped (dLas h l) = true := by
  unfold SeqAt.shaped dLas
  rw [PyData.canLay0, PyData.canLayAll0, PyData.canLayAll0, PyData.canLayAll0, PyData.canLay0, layAll, PyData.canLay0, layAll, PyData.depth, PyData.depthAll, PyData.depthAll, PyData.depthAll, PyData.depth, depAll, PyData.depth, depAll]
  rfl
theorem eqv_las (h l : List Int) : PyData.eqv (dLas h l) (dLas h l) = true := by
  unfold dLas
  rw [PyData.eqv, PyData.eqvAll, PyData.eqvAll, PyData.eqvAll, eqv_tup, eqv_tup]
  simp
def spCell (K : PySem.W.Frag) : Sp := fun vs H Q _ => ∃ (a : Addr) (ns : List Int) (k : Nat), vs = [.ref a, .int k] ∧ SqL K H a (ns.map V.int) ∧ ∀ v : Int, Q (.int v) H
def spNegX (C : Addr) : Sp := fun vs H _ E => ∃ (p : Addr) (t : Int), vs = [.ref p, .int t] ∧ t < 0 ∧ E (.ref C) none H
def spRefuses : Sp := fun vs H Q _ => ∃ (p : Addr) (t : Int), vs = [.ref p, .int t] ∧ t < 0 ∧ Q (.bl true) H
def spSame : Sp := fun vs H Q _ => ∃ (p q : Addr) (h l h2 l2 : List Int), vs = [.ref p, .ref q] ∧ Pr H p h l ∧ Pr H q h2 l2 ∧ l ≠ [] ∧ l2 ≠ [] ∧ dfn h l h2 l2 ≤ 1000000 ∧ (∀ t, wat h l t = wat h2 l2 t) ∧ Q (.bl true) H
def spMakeX (cE cL : Addr) : Sp := fun vs H Q E => ∃ (a b : Addr) (h l : List Int), vs = [.ref a, .ref b] ∧ H a = some (.lst (h.map V.int)) ∧ H b = some (.lst (l.map V.int)) ∧ h.length ≤ 100000 ∧ l.length ≤ 100000 ∧
  (l = [] → E (.ref cE) none H) ∧ (l ≠ [] → (∃ x, (x ∈ h ∨ x ∈ l) ∧ x < 0) → E (.ref cL) none H) ∧
  (l ≠ [] → (∀ x, x ∈ h ∨ x ∈ l → 0 ≤ x) → ∀ (H' : Hp) (p : Addr) (h' l' : List Int), Same H H' → Las H' p h' l' → Short h l h' l' → Q (.ref p) H')
def spOut : Sp := fun vs H Q _ => ∃ (a b : Addr) (h l : List Int), vs = [.ref a, .ref b] ∧ H a = some (.lst (h.map V.int)) ∧ H b = some (.lst (l.map V.int)) ∧ h.length ≤ 100000 ∧ l.length ≤ 100000 ∧
  (l = [] → ∀ (H' : Hp) (p : Addr), Same H H' → H' p = some (.tup [.str "empty", .bl true]) → Q (.ref p) H') ∧
  (l ≠ [] → (∃ x, (x ∈ h ∨ x ∈ l) ∧ x < 0) → ∀ (H' : Hp) (p : Addr), Same H H' → H' p = some (.tup [.str "letter", .bl true]) → Q (.ref p) H') ∧
  (l ≠ [] → (∀ x, x ∈ h ∨ x ∈ l → 0 ≤ x) → ∀ (H' : Hp) (p q : Addr) (h' l' : List Int), Same H H' → H' p = some (.tup [.str "lasso", .ref q]) → Las H' q h' l' → Short h l h' l' → Q (.ref p) H')
theorem neg_cases (h l : List Int) : (∃ x, (x ∈ h ∨ x ∈ l) ∧ x < 0) ∨ ∀ x, x ∈ h ∨ x ∈ l → 0 ≤ x := by
  by_cases c : ∃ x, (x ∈ h ∨ x ∈ l) ∧ x < 0
  · exact .inl c
  · exact .inr fun x hx => by
      rcases Int.lt_or_le x 0 with z | z
      · exact absurd ⟨x, hx, z⟩ c
      · exact z
def spIsInt : Sp := fun vs H Q _ => ∃ (i : Int), vs = [.int i] ∧ Q (.bl true) H
end Bx
/-! ### own errors, two levels below ValueError -/
namespace Bx
open PySem PySem.Spec PyProof.Rows L2
abbrev veB : List Value := [.type "ValueError", .type "Exception", .type "BaseException", .type "object"]
structure ErrC (K : PySem.W.Frag) (mg : Str → Option Value) (x : Str) (C : Addr) : Prop where
  g : mg x = some (.ref C)
  ex : PySem.W.excIn K C veB "ValueError.__new__" = true
  kp : PySem.W.keepIn K (.ref C) = true
  ty : PySem.W.typeIn K (.ref C) = some (.type "type")
  sf : PySem.W.subIn K (.ref C) (.ref C) = some true
  ec : ExcC K C
theorem ErrC.exm {K : PySem.W.Frag} {mg : Str → Option Value} {x : Str} {C : Addr} {cls : Value} {b : Bool} (e : ErrC K mg x C) (h : PySem.W.subIn K cls (.ref C) = some b) : PySem.W.exmOne K cls (.ref C) = some b := PySem.W.exm_ref e.ec.hs e.ec.hd e.ty h
theorem ErrC.me {K : PySem.W.Frag} {mg : Str → Option Value} {x : Str} {C : Addr} (e : ErrC K mg x C) : PySem.W.exmOne K (.ref C) (.ref C) = some true := e.exm e.sf
/-- raise X('..') -/
theorem ErrC.made {X : Cx} {C : Addr} {x m : Str} {j : Nat} {p p2 pos : Pos} (e : ErrC X.K X.mg x C) (hg : Gl X x) (hd : (x == ("__debug__" : Str)) = false := by decide) : PMk X (.Call (.Name x p) [.Constant (.str m) j p2] [] pos) (fun _ H Q => Q (.ref C) none H) :=
  pmk_own PySem.F.excBase_ValueError e.ex e.g e.kp (raises_own e.ec.hs e.ty) hg hd
/-- isinstance(e, c), e the exception that the suite holds -/
def rIsEx (K : PySem.W.Frag) (a : Addr) (cls : Value) (d : Option Addr) : List V → Hp → VK → Prop := fun xs H Q => ∃ D : Addr, cls = .ref D ∧ d = none ∧ ExcC K D ∧ rIsE K D a xs H Q
theorem call_isEx {X : Cx} {K : PySem.W.Frag} {a : Addr} {cls : Value} {d : Option Addr} {oe : Obj} {pn : List (Addr × Obj)} (h : X.K = K) (hz : Zc cls d oe) (hf : ∃ vs, oe.data = .fields vs) : CallR (X.suite a ((a, oe) :: pn)) (.builtin "isinstance") (rIsEx K a cls d) := by
  subst h
  intro pins s σ H xs us Q I r hw
  obtain ⟨D, rfl, rfl, C, hw⟩ := hw
  exact call_isE C hz hf pins s σ H xs us Q I r hw
/-- a def that may raise, by its name -/
structure CalX (P : Program) (w : World) (K : PySem.W.Frag) (mg : Str → Option Value) (base : Heap) (k : Nat) (x : Str) (sp : Sp) : Prop where
  ex : ∃ (f : Addr) (fd : FuncData) (ps : List Str), FnOk P w K mg base (L2.CX P w) k f fd ps sp ∧ mg x = some (.ref f) ∧ PySem.W.keepIn K (.ref f) = true ∧ Binds K fd ps []
theorem pe_cx {X : Cx} {k j : Nat} {x : Str} {sp : Sp} {W : WX} {p pos : Pos} {e : Expr} {es : List Expr} {t : TA} (c : CalX X.prog X.w X.K X.mg X.base k x sp) (hr : Room j X.A) (hk : k ≤ j) (tk : Takes X W) (hg : Gl X x) (ha : PA X (e :: es) t)
    (hdb : (x == ("__debug__" : Str)) = false := by decide) (he : starEach (e :: es) X.env = (false, eval e X.env) :: starEach es X.env := by rfl) (hpl : (backTo pos (starEach es X.env)).any (·.1) = false := by rfl) :
    PE X (.Call (.Name x p) (e :: es) [] pos) (tCallS sp (WE W) t) := by
  obtain ⟨f, fd, ps, F, hm, kp, b⟩ := c.ex
  exact pe_callS F (hr.mono hk) hg hm kp b (fun σ => passAt tk σ) ha hdb he hpl
end Bx
/-! ### several clauses, each with its name: own rule -/
namespace Bx
open PySem PySem.Spec PyProof.Rows L2
/-- what the clauses wish, one after the other: (class, the name's slot, the suite's reading) -/
def wAll (K : PySem.W.Frag) (Wo : WX) (D : Ends) : List (Value × Nat × (Addr → Value → Option Addr → TS)) → WX
  | [] => Wo
  | (c, i, ts) :: r => fun cls d σ H => ∃ b, PySem.W.exmOne K cls c = some b ∧
    (b = true → ∀ a, H a = none → ts a cls d { nx := fun σ' H' => D.nx (σ'.set i none) H', rt := D.rt, bk := fun σ' H' => D.bk (σ'.set i none) H', ct := fun σ' H' => D.ct (σ'.set i none) H' } (σ.set i (some (.ref a))) H) ∧
    (b = false → wAll K Wo D r cls d σ H)
inductive Clauses (Y : Cx) : List ExceptHandler → List (Value × Nat × (Addr → Value → Option Addr → TS)) → Prop
  | nil : Clauses Y [] []
  | cons {x n : Str} {c : Value} {i : Nat} {ts : Addr → Value → Option Addr → TS} {b0 : Stmt} {suite : List Stmt} {p p' : Pos} {cs : List ExceptHandler} {l : List (Value × Nat × (Addr → Value → Option Addr → TS))}
      (hc : Names Y x c) (hi : Y.N[i]? = some n) (hl : Y.env.kindOf n = some .local)
      (su : ∀ (a : Addr) (oe : Obj) (cls : Value) (d : Option Addr) (pn : List (Addr × Obj)), Zc cls d oe → (∃ vs, oe.data = .fields vs) → PSs (Y.suite a ((a, oe) :: pn)) (b0 :: suite) (ts a cls d)) (r : Clauses Y cs l) :
      Clauses Y (.ExceptHandler (some (.Name x p)) (some n) (b0 :: suite) p' :: cs) ((c, i, ts) :: l)
theorem ps_try_all {Y : Cx} {body : List Stmt} {c0 : ExceptHandler} {cs : List ExceptHandler} {l : List (Value × Nat × (Addr → Value → Option Addr → TS))} {pos : Pos} {tb : WX → TS} {Wo : WX}
    (ks : Y.stack = Y.env :: Y.outer) (kf : Y.env.frame = some Y.env.locals) (kN : Y.N.Nodup) (tk : Takes Y Wo)
    (kb : ∀ (W : WX) (pn : List (Addr × Obj)) (xe : Value → Shared → Prop), Takes (Y.tr pn xe) W → PassesOwn (model Y.prog Y.w) Y.A Y.env xe → PSs (Y.tr pn xe) body (tb W))
    (kh : Clauses Y (c0 :: cs) l) : PS Y (.Try body (c0 :: cs) [] [] pos) (fun D σ H => tb (wAll Y.K Wo D l) D σ H) := by
  refine ⟨fun pins u σ H D I hw => ?_⟩
  have okY := I.ok
  have fr := okY.frames
  rw [ks] at fr
  refine wpAny_Try_except ?_
  refine wpAny_mono ((kb (wAll Y.K Wo D l) (Y.pn ++ pins) (fun e u1 => wpAny (model Y.prog Y.w) Y.A (noteFrame e Y.env) (fun _ u2 => wpAny (model Y.prog Y.w) Y.A (setFlight e none) (fun _ u3 =>
    wpAny (model Y.prog Y.w) Y.A (handleBy e Y.env (c0 :: cs)) (SP Y pins D) Y.xe u3) Y.xe u2) Y.xe u1) (fun v g xx => ?_) PassesOwn.looking).run [] u σ H D (I.toTry _) hw) (fun f u1 q => ?_) (fun e u1 q => q)
  · obtain ⟨a, B, sI, pins1, σ1, H1, cls, d, rfl, Jt, nb, up, sk, na, os, ag, w⟩ := xx
    have J : Inv Y pins σ1 H1 sI := Jt.ofTry okY
    have sk1 : Sky B (Y.env :: Y.outer) a (Zc cls d) Y.env.locals g.heap := by rw [← ks]; exact sk
    show wpAny (model Y.prog Y.w) Y.A (noteFrame (.ref a) Y.env) _ _ _
    refine Sky.land Zc.steady fr kf sk1 fun g3 f3 u3 => ?_
    have I3 : Inv Y pins σ1 H1 { g with heap := g3 } := J.landed nb f3.1 (up.trans u3) os ag
    obtain ⟨o3, w3, at3, z3, dt3⟩ := f3.there
    have apart : ∀ {t : Heap} {o : Obj} {vs : Array Value}, t.FunFrames B (Y.env :: Y.outer) → t.get? a = some o → o.data = .fields vs → a ∉ frs (Y.env :: Y.outer) := fun {t o vs} ff e dd hm => by
      obtain ⟨_, o2, e2, q2⟩ := ff.mem hm
      rw [e] at e2
      cases e2
      exact q2 _ dd
    have n0 := apart f3.2.2.1 at3 dt3
    have nL : a ≠ Y.env.locals := fun z => n0 (List.mem_filterMap.mpr ⟨Y.env, List.mem_cons_self, by rw [kf, z]⟩)
    have nF : a ∉ Y.fs := fun hm => by
      obtain ⟨e, he, q⟩ := List.mem_filterMap.mp hm
      exact n0 (List.mem_filterMap.mpr ⟨e, List.mem_cons_of_mem _ he, q⟩)
    have T3 := I3.suite at3 dt3 na nL nF
    have all : ∀ {cs2 : List ExceptHandler} {l2 : List (Value × Nat × (Addr → Value → Option Addr → TS))}, Clauses Y cs2 l2 → wAll Y.K Wo D l2 cls d σ1 H1 →
        wpAny (model Y.prog Y.w) Y.A (handleBy (.ref a) Y.env cs2) (SP Y pins D) Y.xe { g with heap := g3 } := by
      intro cs2 l2 hk
      induction hk with
      | nil =>
        intro w
        refine wpAny_handleBy_nil ?_
        obtain ⟨_, _, _, oe, vs, T, oT, t2, he, hz, hd, h1, _⟩ := id f3
        unfold PySem.passOn
        refine wpAny_bind (wpAny_field he hd h1 ?_)
        rw [if_neg (show ¬ ((Value.ref T == Value.none) = true) from by simp)]
        have away : wpAny (model Y.prog Y.w) Y.A (setFlight (.ref a) Y.env.frame) (fun _ u4 => wpAny (model Y.prog Y.w) Y.A (throw (.ref a) : Sem Flow) (SP Y pins D) Y.xe u4) Y.xe { g with heap := g3 } := by
          rw [kf]
          refine HandSPX.setFlight_upZ f3 fun g4 q4 u4 => wpAny_throw (tk _ _ ?_)
          exact ⟨a, B, sI, pins, σ1, H1, cls, d, rfl, J, nb, (up.trans u3).trans u4, .inr (.inr (by rw [ks]; exact q4)), na, os, ag, w⟩
        first
          | exact wpAny_bind (wpAny_pure (wpAny_bind away))
          | exact wpAny_bind away
      | @cons x n c i ts b0 suite p p' cs3 l3 hc hi hl su r ih =>
        intro w
        obtain ⟨b, e1, yes, no⟩ := w
        refine wpAny_handleBy_cons (codeAny_handlers_test ?_) (by intro q; cases q)
        have LT : PySem.W.Looks (model Y.prog Y.w) g3 (typeOf (.ref a)) cls := fun A Q E s k q => wpAny_typeOf_ref (k _ _ at3) (by rw [z3.1]; exact q)
        have LM := PySem.W.exm_one (M := model Y.prog Y.w) (I3.kIn) LT e1
        have test : ∀ {Q : Value → Shared → Prop} {E : Value → Shared → Prop}, Q c { g with heap := g3 } → wpAny (model Y.prog Y.w) (Y.A.mark (some (.ref a))) (eval (.Name x p) Y.env) Q E { g with heap := g3 } := fun {Q E} q => by
          obtain ⟨hg, hdb, hm | ⟨hm, hv, hnn⟩⟩ := hc
          · exact ld_glob (X := Y.suite a ((a, o3) :: (Y.pn ++ pins))) T3 hg hm q hdb
          · exact ld_blt (X := Y.suite a ((a, o3) :: (Y.pn ++ pins))) T3 hg hm hv q hnn hdb
        refine test (LM.here ?_)
        cases b with
        | true =>
          refine codeAny_handlers_suite_as ?_
          refine HandSPX.lands_againZ f3 fun g4 f4 u4 => ?_
          have I4 : Inv Y pins σ1 H1 { g with heap := g4 } := J.landed nb f4.1 ((up.trans u3).trans u4) os ag
          obtain ⟨o4, w4, at4, z4, dt4⟩ := f4.there
          have T4 := I4.suite at4 dt4 na nL nF
          refine store_ok (X := Y.suite a ((a, o4) :: (Y.pn ++ pins))) (v := .ref a) T4 kN hi (.inl hl) rfl (fun u5 T5 => ?_) (.inr hl)
          refine wpAny_mono ((su a o4 cls d (Y.pn ++ pins) z4 ⟨_, dt4⟩).run [] u5 _ H1 _ T5 (yes rfl a na)) (fun f u6 q => ?_) (fun _ _ z => False.elim z)
          have fin : ∀ {σ6 : L2.St} {H6 : Hp} {Q : Shared → Prop}, Inv (Y.suite a ((a, o4) :: (Y.pn ++ pins))) [] σ6 H6 u6 → (∀ u7, Inv Y pins (σ6.set i none) H6 u7 → Q u7) →
              wpAny (model Y.prog Y.w) Y.A (do bindName Y.env n .none; unbindBehindTheSuite Y.env n p') (fun _ u7 => Q u7) Y.xe u6 := fun {σ6 H6 Q} T6 hq => gone_ok (T6.unsuite okY) kN hi hl hq
          cases f with
          | next =>
            obtain ⟨_, _, T6, q6⟩ := q
            exact fin T6 fun _ I7 => ⟨_, _, I7, q6⟩
          | brk =>
            obtain ⟨_, _, T6, q6⟩ := q
            exact fin T6 fun _ I7 => ⟨_, _, I7, q6⟩
          | cont =>
            obtain ⟨_, _, T6, q6⟩ := q
            exact fin T6 fun _ I7 => ⟨_, _, I7, q6⟩
          | ret v =>
            obtain ⟨_, _, _, T6, r6, q6⟩ := q
            exact fin T6 fun _ I7 => ⟨_, _, _, I7, r6, q6⟩
        | false =>
          show wpAny _ Y.A (handleBy (.ref a) Y.env cs3) _ _ _
          exact ih (no rfl)
    exact all kh w
  · cases f with
    | next =>
      obtain ⟨_, _, J1, q1⟩ := q
      exact wpAny_execs_nil ⟨_, _, J1.ofTry okY, q1⟩
    | brk =>
      obtain ⟨_, _, J1, q1⟩ := q
      exact ⟨_, _, J1.ofTry okY, q1⟩
    | cont =>
      obtain ⟨_, _, J1, q1⟩ := q
      exact ⟨_, _, J1.ofTry okY, q1⟩
    | ret v =>
      obtain ⟨_, _, _, J1, r1, q1⟩ := q
      exact ⟨_, _, _, J1.ofTry okY, r1, q1⟩
end Bx
/-! ### max of a tuple of ints, lcm: own rules -/
namespace MaxT
open PySem PySem.W PyProof.Rows
section
variable {prog : Program} {w : World} {A : Around} {E : Value → Shared → Prop} {s : Shared}
theorem walkT {l : Addr} {xs : Array (Int × Tok)} {Q : Value → Shared → Prop} (hh : A.handled = none) (ht : s.heap.IsTuple l (intItems xs)) (hne : 0 < xs.size)
    (h : ∀ v g tk, (intItems xs)[argBest (fun i j => decide (numAt xs i > numAt xs j)) (xs.size - 1)]? = some v → (∀ b o, s.heap.get? b = some o → g.get? b = some o) → Q v { s with heap := g, toks := tk }) :
    wpAny (model prog w) A (call (.builtin "max") [.ref l]) Q E s := by
  have ll : l < s.heap.objs.size := by
    obtain ⟨_, e, _⟩ := ht
    exact Heap.lt_size e
  refine call_max_walk (wpAny_pyIter_tuple ht ?_)
  refine ⟨_, _, _, _, _, _, _, rfl, Walks.tuple (A := A.in1) hh _ l (Nat.ne_of_lt ll) (intItems xs), ⟨⟨_, Heap.get?_push_size _ rfl, rfl, rfl⟩, ht.push _⟩, fun c hc => ?_, by simpa [intItems] using hne, CmpOf.ints_gt (numAt xs) (fun _ _ => intItems_at), fun v g tk hP hk => ?_⟩
  · show c < (s.heap.push _).objs.size
    rw [Heap.size_push]
    rcases List.mem_cons.mp hc with rfl | hc
    · exact Nat.lt_succ_self _
    · rcases List.mem_cons.mp hc with rfl | hc
      · exact Nat.lt_succ_of_lt ll
      · cases hc
  · refine h v g tk (by simpa [intItems] using hP) fun b o e => hk b o (fun hm => ?_) (Heap.get?_push_of_some _ e)
    have e1 : b = s.heap.objs.size := List.mem_singleton.mp hm
    rw [e1] at e
    exact absurd (Heap.lt_size e) (Nat.lt_irrefl _)
theorem rawT {l : Addr} {its : List Value} {ns : List Int} {Q : Value → Shared → Prop} (hh : A.handled = none) (hl : IsTup s.heap l its.toArray) (hi : IntsAre its ns) (hne : ns ≠ [])
    (h : ∀ (g : Heap) (tk : Nat) (m : Int) (t' : Tok), (∀ b o, s.heap.get? b = some o → g.get? b = some o) → m ∈ ns → (∀ y ∈ ns, y ≤ m) → Q (.int m t') { s with heap := g, toks := tk }) :
    wpAny (model prog w) A (call (.builtin "max") [.ref l]) Q E s := by
  obtain ⟨xs, e⟩ := hi.allInts.items
  have hn : numsOf (intItems xs).toList = ns := by rw [← e]; exact hi.numsOf
  rw [PySem.nums_intItems] at hn
  subst hn
  rw [e] at hl
  have c : 0 < xs.size := by
    rcases Nat.eq_zero_or_pos xs.size with z | z
    · refine absurd ?_ hne
      have : xs = #[] := Array.eq_empty_of_size_eq_zero z
      rw [this]
      rfl
    · exact z
  refine walkT hh hl c fun v g tk p1 keep => ?_
  obtain ⟨u, rfl⟩ := intItems_at p1
  obtain ⟨a1, a2⟩ := argBest_gt (numAt xs) (xs.size - 1)
  refine h g tk _ u keep ?_ fun y hy => ?_
  · rw [PySem.numAt_eq]
    refine PySem.getD_mem ?_
    rw [List.length_map, Array.length_toList]
    exact Nat.lt_of_le_of_lt a1 (by omega)
  · obtain ⟨j, hj, rfl⟩ := PySem.mem_getD hy
    rw [List.length_map, Array.length_toList] at hj
    rw [← PySem.numAt_eq]
    exact a2 j (by omega)
end
end MaxT
namespace Bx
open PySem PySem.Spec PyProof.Rows L2
def rMaxT (K : PySem.W.Frag) : List V → Hp → VK → Prop := fun xs H Q => ∃ (a : Addr) (ns : List Int), xs = [.ref a] ∧ SqT K H a (ns.map V.int) ∧ ns ≠ [] ∧ ∀ m, m ∈ ns → (∀ y ∈ ns, y ≤ m) → Q (.int m) H
theorem call_maxT {X : Cx} {K : PySem.W.Frag} (h : X.K = K) (hc : X.calm = true) : CallR X (.builtin "max") (rMaxT K) := by
  subst h
  intro pins s σ H xs us Q I r hw
  obtain ⟨a, ns, rfl, hs, hne, q⟩ := hw
  obtain ⟨its, rv, ht, _⟩ := I.tuple hs
  rw [Vals.ref1 r]
  exact MaxT.rawT (I.ok.hd hc) ht rv.ints hne fun g tk m t' hk h1 h2 => ⟨.int m, H, I.kept hk, ⟨_, rfl⟩, q m h1 h2⟩
theorem call_maxK {X : Cx} {K : PySem.W.Frag} (h : X.K = K) (hc : X.calm = true) : CallR X (.builtin "max") (rMax K) := by
  subst h
  exact cr_max hc
def spCheckX (cL : Addr) : Sp := fun vs H Q E => ∃ (p : Addr) (h l : List Int) (n : Int), vs = [.ref p, .int n] ∧ Las H p h l ∧ l ≠ [] ∧ h.length ≤ 1000 ∧ l.length ≤ 1000 ∧
  ((∃ x, (x ∈ h ∨ x ∈ l) ∧ n ≤ x) → ∀ H', Same H H' → E (.ref cL) none H') ∧ ((∀ x, x ∈ h ∨ x ∈ l → x < n) → ∀ H', Same H H' → Q .non H')
end Bx
/-! ### lists of lists, instances made in a try: own rules -/
namespace Bx
open PySem PySem.Spec PyProof.Rows L2
section
variable {X : Cx}
theorem pi_or {tg iter : Expr} {w1 w2 : TI} (h1 : PI X tg iter w1) (h2 : PI X tg iter w2) : PI X tg iter (fun σ H R => w1 σ H R ∨ w2 σ H R) := ⟨fun pins s σ H R I h => by
  rcases h with h | h
  · exact h1.run pins s σ H R I h
  · exact h2.run pins s σ H R I h⟩
theorem passF {P : Program} {w : World} : Passes (L2.CX P w) X (fun _ _ _ => False) := fun _ _ _ _ _ _ _ h => by
  obtain ⟨_, _, _, _, _, _, _, _, _, _, _, _, z⟩ := h
  exact z.elim
/-- a new instance of an own class whose __init__ may raise -/
structure MakX (P : Program) (w : World) (K : PySem.W.Frag) (mg : Str → Option Value) (base : Heap) (k : Nat) (x : Str) (C : Addr) (sp : Sp) : Prop where
  ex : ∃ (f : Addr) (fd : FuncData) (ps : List Str), Mk K C f ∧ FnOk P w K mg base (L2.CX P w) k f fd ps sp ∧ mg x = some (.ref C) ∧ Binds K fd ps []
def tMakX (C : Addr) (sp : Sp) (E : L2.St → XK) (t : TA) : TE := fun σ H Q => t σ H fun vs H1 => ∀ x dx, H1 x = none → H1 dx = none → dx ≠ x → sp (.ref x :: vs) (upd (upd H1 dx (.own x)) x (.ins C dx [])) (fun v H2 => v = .non ∧ Q (.ref x) H2) (E σ)
theorem made_at {k : Nat} {f C : Addr} {fd : FuncData} {ps : List Str} {sp : Sp} {E : XK} {pins : List (Addr × Obj)} {σ : L2.St} {H : Hp} {u : Shared} {Q : VK} {us : List Value} {vs : List V} (M : Mk X.K C f) (F : FnOk X.prog X.w X.K X.mg X.base (L2.CX X.prog X.w) k f fd ps sp) (hr : Room (k + 1) X.A) (hb : Binds X.K fd ps [])
    (hx : PassesAt (L2.CX X.prog X.w) X σ E) (I : Inv X pins σ H u) (r : Vals vs us)
    (h : ∀ x dx, H x = none → H dx = none → dx ≠ x → sp (.ref x :: vs) (upd (upd H dx (.own x)) x (.ins C dx [])) (fun v H2 => v = .non ∧ Q (.ref x) H2) E) :
    wpAny (model X.prog X.w) X.A (call (.ref C) us) (EP X pins σ Q) X.xe u := by
  have q0 := h (u.heap.objs.size + 1) u.heap.objs.size (I.hok.fresh (Nat.le_succ _)) (I.hok.fresh (Nat.le_refl _)) (Nat.ne_of_lt (Nat.lt_succ_self _))
  have J := Inv.made (C := C) I
  have r2 : Vals (V.ref (u.heap.objs.size + 1) :: vs) (Value.ref (u.heap.objs.size + 1) :: us) := .cons rfl r
  have hl : (Value.ref (u.heap.objs.size + 1) :: us ++ []).length = ps.length := by
    have e := r2.length
    rw [F.len _ _ _ _ q0] at e
    rw [List.append_nil]
    exact e.symm
  refine wpAny_call (make_map (f := f) I.kIn M.makes M.init (beq_iff_eq.mp M.fn) (codeAny_mono (F.run _ X.stack _ _ ⟨Value.ref (u.heap.objs.size + 1) :: us, []⟩ (Value.ref (u.heap.objs.size + 1) :: us) _ _ E (hr.make C us [])
    (J.env0.make C us []) (by have q := hb _ (Value.ref (u.heap.objs.size + 1) :: us) J.kIn hl; rw [List.append_nil] at q; exact q) r2 q0) fun r u' hq => ?_))
  cases r with
  | error e => exact hx pins _ _ e u' J hq
  | ok fl =>
    cases fl with
    | ret v =>
      obtain ⟨y, G, J3, ry, ey, qy⟩ := J.after hq
      subst ey
      exact ⟨ry, ⟨V.ref (u.heap.objs.size + 1), G, J3, rfl, qy⟩⟩
    | next => exact False.elim hq
    | brk => exact False.elim hq
    | cont => exact False.elim hq
theorem pe_makeX {k j : Nat} {C : Addr} {x : Str} {sp : Sp} {W : WX} {p pos : Pos} {e : Expr} {es : List Expr} {t : TA} (c : MakX X.prog X.w X.K X.mg X.base k x C sp) (hr : Room j X.A) (hk : k + 1 ≤ j) (tk : Takes X W) (hg : Gl X x) (ha : PA X (e :: es) t)
    (hdb : (x == ("__debug__" : Str)) = false := by decide) (he : starEach (e :: es) X.env = (false, eval e X.env) :: starEach es X.env := by rfl) (hpl : (backTo pos (starEach es X.env)).any (·.1) = false := by rfl) :
    PE X (.Call (.Name x p) (e :: es) [] pos) (tMakX C sp (WE W) t) := by
  obtain ⟨f, fd, ps, M, F, hm, b⟩ := c.ex
  refine ⟨fun pins u σ H Q I hw => ?_⟩
  refine wpAny_Call_Name_kw (ld_glob I hg hm ?_ hdb)
  refine PySem.W.callWith_K (h₀ := X.base) I.ok.mod.kin M.kp (thn (ha.run pos pins u σ H _ I hw) fun us u1 ⟨vs, H1, I1, rv, qv⟩ => ⟨I1.kIn, ?_⟩) he hpl
  exact made_at M F (hr.mono hk) b (passAt tk σ) I1 rv qv
theorem pe_makeN {k j : Nat} {C : Addr} {x : Str} {sp : Sp} {p pos : Pos} {e : Expr} {es : List Expr} {t : TA} (c : MakX X.prog X.w X.K X.mg X.base k x C sp) (hr : Room j X.A) (hk : k + 1 ≤ j) (hg : Gl X x) (ha : PA X (e :: es) t)
    (hdb : (x == ("__debug__" : Str)) = false := by decide) (he : starEach (e :: es) X.env = (false, eval e X.env) :: starEach es X.env := by rfl) (hpl : (backTo pos (starEach es X.env)).any (·.1) = false := by rfl) :
    PE X (.Call (.Name x p) (e :: es) [] pos) (tMakX C sp (fun _ => fun _ _ _ => False) t) := by
  obtain ⟨f, fd, ps, M, F, hm, b⟩ := c.ex
  refine ⟨fun pins u σ H Q I hw => ?_⟩
  refine wpAny_Call_Name_kw (ld_glob I hg hm ?_ hdb)
  refine PySem.W.callWith_K (h₀ := X.base) I.ok.mod.kin M.kp (thn (ha.run pos pins u σ H _ I hw) fun us u1 ⟨vs, H1, I1, rv, qv⟩ => ⟨I1.kIn, ?_⟩) he hpl
  exact made_at M F (hr.mono hk) b (fun pins G v e v' J q => passF pins σ G v e v' J q) I1 rv qv
end
/-! rows of ints -/
def RowsA (mk : List V → HO) (H : Hp) : List Addr → List (List Int) → Prop
  | [], [] => True
  | a :: as, r :: rs => H a = some (mk (r.map V.int)) ∧ RowsA mk H as rs
  | _, _ => False
def RowsQ (H : Hp) : List Addr → List (List Int) → Prop
  | [], [] => True
  | a :: as, r :: rs => SeqI H a r ∧ RowsQ H as rs
  | _, _ => False
theorem RowsA.keep {mk : List V → HO} {H H' : Hp} : ∀ {as : List Addr} {rs : List (List Int)}, (∀ b o, b ∈ as → H b = some o → H' b = some o) → RowsA mk H as rs → RowsA mk H' as rs
  | [], [], _, _ => True.intro
  | a :: as, r :: rs, k, h => ⟨k a _ List.mem_cons_self h.1, RowsA.keep (fun b o hb => k b o (List.mem_cons_of_mem _ hb)) h.2⟩
  | [], _ :: _, _, h => h.elim
  | _ :: _, [], _, h => h.elim
theorem RowsA.same {mk : List V → HO} {H H' : Hp} {as : List Addr} {rs : List (List Int)} (k : Same H H') (h : RowsA mk H as rs) : RowsA mk H' as rs := h.keep fun b o _ e => k b o e
theorem RowsA.len {mk : List V → HO} {H : Hp} : ∀ {as : List Addr} {rs : List (List Int)}, RowsA mk H as rs → as.length = rs.length
  | [], [], _ => rfl
  | a :: as, r :: rs, h => congrArg (· + 1) h.2.len
  | [], _ :: _, h => h.elim
  | _ :: _, [], h => h.elim
theorem RowsA.snoc {mk : List V → HO} {H : Hp} {a : Addr} {r : List Int} (ha : H a = some (mk (r.map V.int))) : ∀ {as : List Addr} {rs : List (List Int)}, RowsA mk H as rs → RowsA mk H (as ++ [a]) (rs ++ [r])
  | [], [], _ => ⟨ha, True.intro⟩
  | b :: as, q :: rs, h => ⟨h.1, h.2.snoc ha⟩
  | [], _ :: _, h => h.elim
  | _ :: _, [], h => h.elim
theorem RowsA.get {mk : List V → HO} {H : Hp} : ∀ {as : List Addr} {rs : List (List Int)} {i : Nat} {a : Addr}, RowsA mk H as rs → as[i]? = some a → ∃ r, rs[i]? = some r ∧ H a = some (mk (r.map V.int))
  | [], _, _, _, _, e => by simp at e
  | b :: as, [], _, _, h, _ => h.elim
  | b :: as, q :: rs, 0, a, h, e => by
    have : b = a := Option.some.inj e
    subst this
    exact ⟨q, rfl, h.1⟩
  | b :: as, q :: rs, i + 1, a, h, e => RowsA.get (i := i) h.2 e
theorem RowsA.q1 {H : Hp} : ∀ {as : List Addr} {rs : List (List Int)}, RowsA .lst H as rs → RowsQ H as rs
  | [], [], _ => True.intro
  | a :: as, r :: rs, h => ⟨.inl h.1, h.2.q1⟩
  | [], _ :: _, h => h.elim
  | _ :: _, [], h => h.elim
theorem RowsA.q2 {H : Hp} : ∀ {as : List Addr} {rs : List (List Int)}, RowsA .tup H as rs → RowsQ H as rs
  | [], [], _ => True.intro
  | a :: as, r :: rs, h => ⟨.inr h.1, h.2.q2⟩
  | [], _ :: _, h => h.elim
  | _ :: _, [], h => h.elim
theorem RowsQ.same {H H' : Hp} (k : Same H H') : ∀ {as : List Addr} {rs : List (List Int)}, RowsQ H as rs → RowsQ H' as rs
  | [], [], _ => True.intro
  | a :: as, r :: rs, h => ⟨h.1.same k, h.2.same k⟩
  | [], _ :: _, h => h.elim
  | _ :: _, [], h => h.elim
theorem RowsQ.len {H : Hp} : ∀ {as : List Addr} {rs : List (List Int)}, RowsQ H as rs → as.length = rs.length
  | [], [], _ => rfl
  | a :: as, r :: rs, h => congrArg (· + 1) h.2.len
  | [], _ :: _, h => h.elim
  | _ :: _, [], h => h.elim
theorem RowsQ.get {H : Hp} : ∀ {as : List Addr} {rs : List (List Int)} {i : Nat} {a : Addr}, RowsQ H as rs → as[i]? = some a → ∃ r, rs[i]? = some r ∧ SeqI H a r
  | [], _, _, _, _, e => by simp at e
  | b :: as, [], _, _, h, _ => h.elim
  | b :: as, q :: rs, 0, a, h, e => by
    have : b = a := Option.some.inj e
    subst this
    exact ⟨q, rfl, h.1⟩
  | b :: as, q :: rs, i + 1, a, h, e => RowsQ.get (i := i) h.2 e
/-- a list or a tuple of any values -/
def SeqV (H : Hp) (a : Addr) (xs : List V) : Prop := H a = some (.lst xs) ∨ H a = some (.tup xs)
theorem SeqV.same {H H' : Hp} {a : Addr} {xs : List V} (k : Same H H') (h : SeqV H a xs) : SeqV H' a xs := by
  rcases h with h | h
  · exact .inl (k _ _ h)
  · exact .inr (k _ _ h)
theorem SeqV.sq {K : PySem.W.Frag} {H : Hp} {a : Addr} {xs : List V} (h : SeqV H a xs) : SqL K H a xs ∨ SqT K H a xs := by
  rcases h with h | h
  · exact .inl (.of h)
  · exact .inr (.of h)
def iSeq (K : PySem.W.Frag) (te : TE) : TI := fun σ H R => iList K te σ H R ∨ iTup K te σ H R
theorem pi_listK {X : Cx} {K : PySem.W.Frag} {tg e : Expr} {te : TE} (h : X.K = K) (he : PE X e te) : PI X tg e (iList K te) := by
  subst h
  exact pi_list he
theorem pi_tupK {X : Cx} {K : PySem.W.Frag} {tg e : Expr} {te : TE} (h : X.K = K) (he : PE X e te) : PI X tg e (iTup K te) := by
  subst h
  exact pi_tup he
theorem pi_seq {X : Cx} {K : PySem.W.Frag} {tg e : Expr} {te : TE} (h : X.K = K) (he : PE X e te) : PI X tg e (iSeq K te) := by
  subst h
  exact pi_or (pi_list he) (pi_tup he)
theorem for_seq {K : PySem.W.Frag} {i : Nat} {a : Addr} {xs : List V} {g : TG} {tb : TS} {D : Ends} {σ : L2.St} {H : Hp} (hv : σ[i]? = some (some (.ref a))) (hq : SeqV H a xs) (Pv : Nat → L2.St → Hp → Prop) (h0 : Pv 0 σ H) (hS : ∀ i σ' H', Pv i σ' H' → Same H H')
    (hs : ∀ i x σ H, xs[i]? = some x → Pv i σ H → g x σ H fun σ2 H2 => tb { D with nx := Pv (i + 1), ct := Pv (i + 1), bk := D.nx } σ2 H2) (hd : ∀ σ H, Pv xs.length σ H → D.nx σ H) : tFor (iSeq K (tVar i)) g tb D σ H := by
  rcases hq with h | h
  · exact .inl ⟨_, hv, a, rfl, ⟨_, .of h⟩, for_list Pv h0 (fun i σ' H' _ p => .of (hS i σ' H' p _ _ h)) hs hd⟩
  · exact .inr ⟨_, hv, a, rfl, ⟨_, .of h⟩, for_tup Pv h0 (fun i σ' H' _ p => .of (hS i σ' H' p _ _ h)) hs hd⟩
/-- a list of lists of ints -/
def LL (H : Hp) (r : Addr) (as : List Addr) (rows : List (List Int)) : Prop := H r = some (.lst (as.map V.ref)) ∧ RowsA .lst H as rows
def Vld (L s : Int) (ps : List Int) (rows : List (List Int)) : Prop := 1 ≤ L ∧ rows ≠ [] ∧ ps.length = rows.length ∧ (0 ≤ s ∧ s < (rows.length : Int)) ∧ (∀ r ∈ rows, (r.length : Int) = L ∧ ∀ x ∈ r, 0 ≤ x ∧ x < (rows.length : Int)) ∧ ∀ p ∈ ps, 0 ≤ p
/-- the fields of a parity automaton, as they are stored -/
def pf (L s : Int) (pt rt : Addr) : List (Str × V) := putF "rows" (.ref rt) (putF "priorities" (.ref pt) (putF "start" (.int s) (putF "letters" (.int L) [])))
theorem putF_len (f : Str) (v : V) : ∀ fs : List (Str × V), (putF f v fs).length ≤ fs.length + 1
  | [] => Nat.le_refl _
  | (g, x) :: r => by
    unfold putF
    by_cases c : g = f
    · rw [if_pos c]
      exact Nat.le_succ _
    · rw [if_neg c]
      exact Nat.succ_le_succ (putF_len f v r)
theorem pf_L (L s : Int) (pt rt : Addr) : (pf L s pt rt).lookup ("letters" : Str) = some (.int L) := by
  unfold pf
  rw [lookup_putF, if_neg (by decide +kernel), lookup_putF, if_neg (by decide +kernel), lookup_putF, if_neg (by decide +kernel), lookup_putF, if_pos rfl]
theorem pf_s (L s : Int) (pt rt : Addr) : (pf L s pt rt).lookup ("start" : Str) = some (.int s) := by
  unfold pf
  rw [lookup_putF, if_neg (by decide +kernel), lookup_putF, if_neg (by decide +kernel), lookup_putF, if_pos rfl]
theorem pf_p (L s : Int) (pt rt : Addr) : (pf L s pt rt).lookup ("priorities" : Str) = some (.ref pt) := by
  unfold pf
  rw [lookup_putF, if_neg (by decide +kernel), lookup_putF, if_pos rfl]
theorem pf_r (L s : Int) (pt rt : Addr) : (pf L s pt rt).lookup ("rows" : Str) = some (.ref rt) := by
  unfold pf
  rw [lookup_putF, if_pos rfl]
/-- a parity automaton at x -/
def ParAt (C : Addr) (H : Hp) (x : Addr) (L s : Int) (ps : List Int) (rows : List (List Int)) : Prop := ∃ (dx pt rt : Addr) (as : List Addr), H x = some (.ins C dx (pf L s pt rt)) ∧ TupI H pt ps ∧ H rt = some (.tup (as.map V.ref)) ∧ RowsA .tup H as rows
theorem ParAt.same {C : Addr} {H H' : Hp} {x : Addr} {L s : Int} {ps : List Int} {rows : List (List Int)} (k : Same H H') (h : ParAt C H x L s ps rows) : ParAt C H' x L s ps rows := by
  obtain ⟨dx, pt, rt, as, e1, e2, e3, e4⟩ := h
  exact ⟨dx, pt, rt, as, k _ _ e1, k _ _ e2, k _ _ e3, e4.same k⟩
/-- what the class has -/
structure ParC (K : PySem.W.Frag) (C : Addr) : Prop where
  cl : Cls K C
  nL : NoAttr K C "letters"
  nS : NoAttr K C "start"
  nP : NoAttr K C "priorities"
  nR : NoAttr K C "rows"
def spCheckS (cI : Addr) : Sp := fun vs H Q E => ∃ (z n : Int), vs = [.int z, .int n] ∧ (¬ (0 ≤ z ∧ z < n) → E (.ref cI) none H) ∧ ((0 ≤ z ∧ z < n) → Q .non H)
def spInitP (C cI : Addr) : Sp := fun vs H Q E => ∃ (x p r dx : Addr) (L s : Int) (ps : List Int) (as : List Addr) (rows : List (List Int)), vs = [.ref x, .int L, .int s, .ref p, .ref r] ∧ H x = some (.ins C dx []) ∧ H p = some (.lst (ps.map V.int)) ∧ SeqV H r (as.map V.ref) ∧ RowsQ H as rows ∧
  rows.length ≤ 1000 ∧ ps.length ≤ 1000 ∧ (∀ q ∈ rows, q.length ≤ 1000) ∧ (¬ Vld L s ps rows → E (.ref cI) none H) ∧ (Vld L s ps rows → ∀ H', Kp x H H' → ParAt C H' x L s ps rows → Q .non H')
end Bx
namespace Bx
open PySem PySem.Spec PyProof.Rows L2
theorem lc_seq {K : PySem.W.Frag} {i : Nat} {a : Addr} {xs : List V} {g : TG} {tt : TT} {te : TE} {vs : List Nat} {σ : L2.St} {H : Hp} {Q : VK} (hv : σ[i]? = some (some (.ref a))) (hq : SeqV H a xs) (Pv : Addr → Nat → Hp → Prop) (h0 : ∀ D, H D = none → Pv D 0 (upd H D (.lst [])))
    (hS : ∀ D j H', H D = none → Pv D j H' → Same H H')
    (hs : ∀ D, H D = none → ∀ i x H', xs[i]? = some x → Pv D i H' → g x (wipe σ vs) H' fun σ2 H2 => wipe σ2 vs = wipe σ vs ∧ tt σ2 H2 fun b H3 => if b = true then te σ2 H3 fun y H4 => ∃ acc, H4 D = some (.lst acc) ∧ acc.length < sizeLine ∧ Pv D (i + 1) (upd H4 D (.lst (acc ++ [y]))) else Pv D (i + 1) H3)
    (hd : ∀ D H', H D = none → Pv D xs.length H' → Q (.ref D) H') : tLc (iSeq K (tVar i)) g tt te vs σ H Q := by
  rcases hq with h | h
  · exact .inl ⟨_, hv, a, rfl, ⟨_, .of h⟩, fun D hD => lc_list (Pv D) (h0 D hD) (fun i H' _ p => .of (hS D i H' hD p _ _ h)) (hs D hD) (fun H' p => hd D H' hD p)⟩
  · exact .inr ⟨_, hv, a, rfl, ⟨_, .of h⟩, fun D hD => lc_tup (Pv D) (h0 D hD) (fun i H' _ p => .of (hS D i H' hD p _ _ h)) (hs D hD) (fun H' p => hd D H' hD p)⟩
theorem rowsUpd {H : Hp} {x : Addr} {o : HO} (hx : ∀ ys, H x ≠ some (.tup ys)) : ∀ {as : List Addr} {rs : List (List Int)}, RowsA .tup H as rs → RowsA .tup (upd H x o) as rs
  | [], [], _ => True.intro
  | a :: as, r :: rs, h => ⟨by
      have h1 := h.1
      rw [upd_ne (fun z => by rw [z] at h1; exact hx _ h1)]
      exact h1, rowsUpd hx h.2⟩
  | [], _ :: _, h => h.elim
  | _ :: _, [], h => h.elim
theorem refs_get {as : List Addr} {i : Nat} {v : V} (h : (as.map V.ref)[i]? = some v) : ∃ a, as[i]? = some a ∧ v = .ref a := by
  rw [List.getElem?_map] at h
  cases e : as[i]? with
  | none => rw [e] at h; cases h
  | some z => rw [e] at h; exact ⟨z, rfl, (Option.some.inj h).symm⟩
theorem ints_get {xs : List Int} {i : Nat} {v : V} (h : (xs.map V.int)[i]? = some v) : ∃ x, xs[i]? = some x ∧ v = .int x := by
  rw [List.getElem?_map] at h
  cases e : xs[i]? with
  | none => rw [e] at h; cases h
  | some z => rw [e] at h; exact ⟨z, rfl, (Option.some.inj h).symm⟩
theorem take_get {α : Type} {xs : List α} {i : Nat} {x : α} (h : xs[i]? = some x) : xs.take (i + 1) = xs.take i ++ [x] := by
  rw [List.take_add_one, h]
  rfl
theorem pl_next {f : Str} {v : V} {fs : List (Str × V)} {n : Nat} (h : fs.length ≤ n) : (putF f v fs).length ≤ n + 1 := Nat.le_trans (putF_len f v fs) (Nat.succ_le_succ h)
theorem pl_lt {fs : List (Str × V)} {n : Nat} (h : fs.length ≤ n) (k : n < 1000) : fs.length < 1000 := Nat.lt_of_le_of_lt h k
theorem pl_0 : ([] : List (Str × V)).length ≤ 0 := Nat.le_refl _
theorem fld_def {Kf : PySem.W.Frag} {ta tv : TE} {f : Str} {D : Ends} {σ : L2.St} {H : Hp} (h : tv σ H fun y H1 => ta σ H1 fun x H2 => ∃ a C dx fs, x = .ref a ∧ H2 a = some (.ins C dx fs) ∧ Cls Kf C ∧ NoAttr Kf C f ∧ fs.length < 1000 ∧ D.nx σ (upd H2 a (.ins C dx (putF f y fs)))) : sFld Kf ta tv f D σ H := h
theorem cb1_def {r : List V → Hp → VK → Prop} {te : TE} {σ : L2.St} {H : Hp} {Q : VK} (h : te σ H fun v H1 => r [v] H1 Q) : tCB r (tCons te tNil) σ H Q := h
theorem rows_some {mk : List V → HO} {H : Hp} : ∀ {as : List Addr} {rs : List (List Int)} {a : Addr}, RowsA mk H as rs → a ∈ as → ∃ o, H a = some o
  | [], _, _, _, h => by simp at h
  | b :: as, [], _, h, _ => h.elim
  | b :: as, r :: rs, a, h, m => by
    rcases List.mem_cons.mp m with z | z
    · rw [z]
      exact ⟨_, h.1⟩
    · exact rows_some h.2 z
theorem LL.same {H H' : Hp} {r : Addr} {as : List Addr} {rows : List (List Int)} (k : Same H H') (h : LL H r as rows) : LL H' r as rows := ⟨k _ _ h.1, h.2.same k⟩
def exS (d : Scope) : Expr → Scope
  | .ListComp _ _ s _ => s
  | .Call _ (.ListComp _ _ s _ :: _) _ _ => s
  | _ => d
def stS (d : Scope) (i : Nat) (b : List Stmt) : Scope := match b[i]? with
  | some (.Return (some e) _) => exS d e
  | some (.Assign _ e _) => exS d e
  | _ => d
/-- ascending numbers below n -/
def Asc (n : Int) (xs : List Int) : Prop := xs.Pairwise (· < ·) ∧ ∀ x ∈ xs, 0 ≤ x ∧ x < n
/-- rows of rows of ints -/
def CubB (mk : List V → HO) (H : Hp) : List Addr → List (List Addr) → List (List (List Int)) → Prop
  | [], [], [] => True
  | a :: as, bs :: bss, r :: rs => (H a = some (mk (bs.map V.ref)) ∧ RowsA mk H bs r) ∧ CubB mk H as bss rs
  | _, _, _ => False
theorem cub_keep {mk : List V → HO} {H H' : Hp} : ∀ {as : List Addr} {bss : List (List Addr)} {c : List (List (List Int))}, (∀ b o, (b ∈ as ∨ ∃ bs ∈ bss, b ∈ bs) → H b = some o → H' b = some o) → CubB mk H as bss c → CubB mk H' as bss c
  | [], [], [], _, _ => True.intro
  | a :: as, bs :: bss, r :: rs, k, h => ⟨⟨k a _ (.inl List.mem_cons_self) h.1.1, h.1.2.keep fun b o hb => k b o (.inr ⟨bs, List.mem_cons_self, hb⟩)⟩, cub_keep (fun b o hb => k b o (by
      rcases hb with z | ⟨q, z, y⟩
      · exact .inl (List.mem_cons_of_mem _ z)
      · exact .inr ⟨q, List.mem_cons_of_mem _ z, y⟩)) h.2⟩
  | [], [], _ :: _, _, h => h.elim
  | [], _ :: _, _, _, h => h.elim
  | _ :: _, [], _, _, h => h.elim
  | _ :: _, _ :: _, [], _, h => h.elim
theorem cub_same {mk : List V → HO} {H H' : Hp} {as : List Addr} {bss : List (List Addr)} {c : List (List (List Int))} (s : Same H H') (h : CubB mk H as bss c) : CubB mk H' as bss c := cub_keep (fun b o _ e => s b o e) h
theorem cub_len {mk : List V → HO} {H : Hp} : ∀ {as : List Addr} {bss : List (List Addr)} {c : List (List (List Int))}, CubB mk H as bss c → as.length = c.length ∧ bss.length = c.length
  | [], [], [], _ => ⟨rfl, rfl⟩
  | a :: as, bs :: bss, r :: rs, h => ⟨congrArg (· + 1) (cub_len h.2).1, congrArg (· + 1) (cub_len h.2).2⟩
  | [], [], _ :: _, h => h.elim
  | [], _ :: _, _, h => h.elim
  | _ :: _, [], _, h => h.elim
  | _ :: _, _ :: _, [], h => h.elim
theorem cub_snoc {mk : List V → HO} {H : Hp} {a : Addr} {bs : List Addr} {r : List (List Int)} (h1 : H a = some (mk (bs.map V.ref))) (h2 : RowsA mk H bs r) : ∀ {as : List Addr} {bss : List (List Addr)} {c : List (List (List Int))}, CubB mk H as bss c → CubB mk H (as ++ [a]) (bss ++ [bs]) (c ++ [r])
  | [], [], [], _ => ⟨⟨h1, h2⟩, True.intro⟩
  | b :: as, cs :: bss, q :: rs, h => ⟨h.1, cub_snoc h1 h2 h.2⟩
  | [], [], _ :: _, h => h.elim
  | [], _ :: _, _, h => h.elim
  | _ :: _, [], _, h => h.elim
  | _ :: _, _ :: _, [], h => h.elim
theorem cub_get {mk : List V → HO} {H : Hp} : ∀ {as : List Addr} {bss : List (List Addr)} {c : List (List (List Int))} {i : Nat} {a : Addr}, CubB mk H as bss c → as[i]? = some a → ∃ bs r, bss[i]? = some bs ∧ c[i]? = some r ∧ H a = some (mk (bs.map V.ref)) ∧ RowsA mk H bs r
  | [], _, _, _, _, _, e => by simp at e
  | a :: as, bs :: bss, r :: rs, 0, b, h, e => by
    have : a = b := Option.some.inj e
    subst this
    exact ⟨bs, r, rfl, rfl, h.1.1, h.1.2⟩
  | a :: as, bs :: bss, r :: rs, i + 1, b, h, e => cub_get (i := i) h.2 e
  | _ :: _, [], _, _, _, h, _ => h.elim
  | _ :: _, _ :: _, [], _, _, h, _ => h.elim
theorem cub_some {mk : List V → HO} {H : Hp} : ∀ {as : List Addr} {bss : List (List Addr)} {c : List (List (List Int))} {b : Addr}, CubB mk H as bss c → (b ∈ as ∨ ∃ bs ∈ bss, b ∈ bs) → ∃ o, H b = some o
  | [], [], _, _, _, h => by
    rcases h with h | ⟨_, h, _⟩
    · simp at h
    · simp at h
  | a :: as, bs :: bss, r :: rs, b, h, m => by
    rcases m with m | ⟨q, m, y⟩
    · rcases List.mem_cons.mp m with z | z
      · rw [z]; exact ⟨_, h.1.1⟩
      · exact cub_some h.2 (.inl z)
    · rcases List.mem_cons.mp m with z | z
      · rw [z] at y; exact rows_some h.1.2 y
      · exact cub_some h.2 (.inr ⟨q, z, y⟩)
  | [], _ :: _, _, _, h, _ => h.elim
  | _ :: _, [], _, _, h, _ => h.elim
  | _ :: _, _ :: _, [], _, h, _ => h.elim
/-- an object that is not one of the rows may change -/
theorem cub_tup {H : Hp} {x : Addr} {o : HO} (hx : ∀ ys, H x ≠ some (.tup ys)) : ∀ {as : List Addr} {bss : List (List Addr)} {c : List (List (List Int))}, CubB .tup H as bss c → CubB .tup (upd H x o) as bss c
  | [], [], [], _ => True.intro
  | a :: as, bs :: bss, r :: rs, h => ⟨⟨by
      have h1 := h.1.1
      rw [upd_ne (fun z => by rw [z] at h1; exact hx _ h1)]
      exact h1, rowsUpd hx h.1.2⟩, cub_tup hx h.2⟩
  | [], [], _ :: _, h => h.elim
  | [], _ :: _, _, h => h.elim
  | _ :: _, [], _, h => h.elim
  | _ :: _, _ :: _, [], h => h.elim
theorem rows_kp {mk : List V → HO} {H H' : Hp} {x : Addr} (hx : ∀ ys, H x ≠ some (mk ys)) (k : Kp x H H') : ∀ {as : List Addr} {rs : List (List Int)}, RowsA mk H as rs → RowsA mk H' as rs
  | [], [], _ => True.intro
  | a :: as, r :: rs, h => ⟨k _ _ (fun z => by have h1 := h.1; rw [z] at h1; exact hx _ h1) h.1, rows_kp hx k h.2⟩
  | [], _ :: _, h => h.elim
  | _ :: _, [], h => h.elim
theorem cub_kp {mk : List V → HO} {H H' : Hp} {x : Addr} (hx : ∀ ys, H x ≠ some (mk ys)) (k : Kp x H H') : ∀ {as : List Addr} {bss : List (List Addr)} {c : List (List (List Int))}, CubB mk H as bss c → CubB mk H' as bss c
  | [], [], [], _ => True.intro
  | a :: as, bs :: bss, r :: rs, h => ⟨⟨k _ _ (fun z => by have h1 := h.1.1; rw [z] at h1; exact hx _ h1) h.1.1, rows_kp hx k h.1.2⟩, cub_kp hx k h.2⟩
  | [], [], _ :: _, h => h.elim
  | [], _ :: _, _, h => h.elim
  | _ :: _, [], _, h => h.elim
  | _ :: _, _ :: _, [], h => h.elim
def bf (L : Int) (it at_ rt : Addr) : List (Str × V) := putF "rows" (.ref rt) (putF "accepting" (.ref at_) (putF "initial" (.ref it) (putF "letters" (.int L) [])))
theorem bf_L (L : Int) (a b c : Addr) : (bf L a b c).lookup ("letters" : Str) = some (.int L) := by
  unfold bf
  rw [lookup_putF, if_neg (by decide +kernel), lookup_putF, if_neg (by decide +kernel), lookup_putF, if_neg (by decide +kernel), lookup_putF, if_pos rfl]
theorem bf_i (L : Int) (a b c : Addr) : (bf L a b c).lookup ("initial" : Str) = some (.ref a) := by
  unfold bf
  rw [lookup_putF, if_neg (by decide +kernel), lookup_putF, if_neg (by decide +kernel), lookup_putF, if_pos rfl]
theorem bf_a (L : Int) (a b c : Addr) : (bf L a b c).lookup ("accepting" : Str) = some (.ref b) := by
  unfold bf
  rw [lookup_putF, if_neg (by decide +kernel), lookup_putF, if_pos rfl]
theorem bf_r (L : Int) (a b c : Addr) : (bf L a b c).lookup ("rows" : Str) = some (.ref c) := by
  unfold bf
  rw [lookup_putF, if_pos rfl]
def AutAt (C : Addr) (H : Hp) (x : Addr) (L : Int) (ini acc : List Int) (c : List (List (List Int))) : Prop := ∃ (dx it at_ rt : Addr) (as : List Addr) (bss : List (List Addr)), H x = some (.ins C dx (bf L it at_ rt)) ∧ TupI H it ini ∧ TupI H at_ acc ∧ H rt = some (.tup (as.map V.ref)) ∧ CubB .tup H as bss c
theorem aut_same {C : Addr} {H H' : Hp} {x : Addr} {L : Int} {ini acc : List Int} {c : List (List (List Int))} (k : Same H H') (h : AutAt C H x L ini acc c) : AutAt C H' x L ini acc c := by
  obtain ⟨dx, it, at_, rt, as, bss, e1, e2, e3, e4, e5⟩ := h
  exact ⟨dx, it, at_, rt, as, bss, k _ _ e1, k _ _ e2, k _ _ e3, k _ _ e4, cub_same k e5⟩
structure AutC (K : PySem.W.Frag) (C : Addr) : Prop where
  cl : Cls K C
  nL : NoAttr K C "letters"
  nI : NoAttr K C "initial"
  nA : NoAttr K C "accepting"
  nR : NoAttr K C "rows"
  c1 : PySem.W.findIn K (.ref C) "__class__" = some (some (.builtin "object.__class__"))
  c2 : PySem.W.specialIn K (.builtin "object.__class__") "__get__" = some (some (.builtin "getset_descriptor.__get__"))
  c3 : PySem.W.takesIn K (.builtin "object.__class__") = some true
  c4 : PySem.W.mroIn K C (.type "object") = some true
  c5 : PySem.W.kitOne K (.ref C) (.ref C) = some true
def VldB (L : Int) (ini acc : List Int) (c : List (List (List Int))) : Prop := 1 ≤ L ∧ c ≠ [] ∧ Asc c.length ini ∧ Asc c.length acc ∧ ∀ r ∈ c, (r.length : Int) = L ∧ ∀ e ∈ r, Asc c.length e
/-- a list of lists of lists -/
def LC (H : Hp) (r : Addr) (as : List Addr) (bss : List (List Addr)) (c : List (List (List Int))) : Prop := H r = some (.lst (as.map V.ref)) ∧ CubB .lst H as bss c
def spChecks (cI : Addr) : Sp := fun vs H Q E => ∃ (a : Addr) (xs : List Int) (n : Int), vs = [.ref a, .int n] ∧ H a = some (.lst (xs.map V.int)) ∧ (¬ Asc n xs → E (.ref cI) none H) ∧ (Asc n xs → Q .non H)
def spInitB (C cI : Addr) : Sp := fun vs H Q E => ∃ (x i a r dx : Addr) (L : Int) (ini acc : List Int) (as : List Addr) (bss : List (List Addr)) (c : List (List (List Int))), vs = [.ref x, .int L, .ref i, .ref a, .ref r] ∧ H x = some (.ins C dx []) ∧ H i = some (.lst (ini.map V.int)) ∧ H a = some (.lst (acc.map V.int)) ∧ LC H r as bss c ∧
  c.length ≤ 1000 ∧ (∀ r ∈ c, r.length ≤ 1000) ∧ (¬ VldB L ini acc c → E (.ref cI) none H) ∧ (VldB L ini acc c → ∀ H', Kp x H H' → AutAt C H' x L ini acc c → Q .non H')
end Bx

/-! ### own rules: a list extended by a tuple; a tuple's slice with a step -/
namespace Tx
open PySem PySem.Spec PyProof.Rows L2
section
variable {prog : Program} {w : World} {A : Around} {E : Value → Shared → Prop} {s : Shared}
set_option maxRecDepth 8000 in
theorem ext_tup (l b : Addr) (xs ys : Array Value) (n m : Nat) (dd : Option Addr) (sl : Array (Option Value)) (h0 : ¬(!xs.isEmpty && Builtin.List.listTooLong (xs.size + ys.size)) = true) (h1 : xs.size ≤ sizeLine) (h2 : xs.size + ys.size ≤ sizeLine + 1) :
    Meets (Builtin.«list.extend» ⟨[.ref l, .ref b], []⟩) (fun _ R s => s.heap.get? l = some { cls := .type "list", data := .seq xs n } ∧ s.heap.get? b = some { cls := .type "tuple", dict := dd, data := .seq ys m, slots := sl } ∧
      R (.ok (.ret Value.none)) { s with heap := s.heap.update l (Obj.mapSeq fun x => x ++ ys), toks := s.toks }) := .of_wp fun prog w A R s h => by
  obtain ⟨hp, g, d, tk, os⟩ := s
  obtain ⟨hl, hb, h⟩ := h
  have q1 := AutoSeq1.idx_int
  have q2 := AutoSeq1.sub_tuple_tuple
  have q3 := AutoSeq1.sub_list_list
  have q4 := AutoSeq1.sub_tuple_list
  have q5 := AutoSeq1.sub_list_tuple
  have hz : (xs ++ ys).size ≤ sizeLine + 1 := by
    rw [Array.size_append]
    exact h2
  wp_walk using (wpAny_updateSeq hl rfl (hz := h1) (_hz' := hz)), AutoSeq1.wpAny_loadPart' hl, AutoSeq1.wpAny_loadPart' hb
  exact ⟨_, rfl, h⟩
end
section
variable {X : Cx} {K : PySem.W.Frag}
def rExtT (K : PySem.W.Frag) : V → List V → Hp → VK → Prop := fun x vs H Q => ∃ l b xs zs, x = .ref l ∧ vs = [.ref b] ∧ H l = some (.lst xs) ∧ SqT K H b zs ∧ xs.length + zs.length ≤ sizeLine ∧ Q .non (upd H l (.lst (xs ++ zs)))
theorem mt_extT (hK : X.K = K) : MtM X "list.extend" (rExtT K) := by
  subst hK
  intro pins s σ H x vs v us Q I rx rv ⟨l, b, xs, zs, ex, ev, hH, hB, hz, q⟩
  subst ex
  subst ev
  cases rx
  obtain ⟨u, rfl, ru⟩ := rv.one
  cases ru
  obtain ⟨z, its, n, r, hl, e⟩ := I.lstM hH
  obtain ⟨its2, r2, ⟨⟨oc, od, ob, os⟩, e2, ec, m, eb⟩, z2⟩ := I.tuple hB
  have hl2 := r2.length
  dsimp only at ec eb
  subst ec
  subst eb
  have hs : its.toArray.size + its2.toArray.size ≤ sizeLine := by
    rw [List.size_toArray, List.size_toArray]
    omega
  refine call_meets F.slot_list_extend ⟨_, e, rfl⟩ F.entry_list_extend (F.args_list_extend_2 _ _) (ext_tup l b its.toArray its2.toArray n m od os (fun c => ?_) (by omega) (by omega)) ⟨e, e2, ?_⟩
  · rw [notLongL hs, Bool.and_false] at c
    cases c
  · refine ⟨.non, _, I.lset (its' := its ++ its2) hH e (by simp) (r.append r2) ?_, rfl, q⟩
    rw [List.length_append]
    omega
/-- the items that a slice with a step picks -/
def pk3 {α : Type} (xs : List α) (lo hi : Option Int) (c : Int) : List α :=
  (List.range (Builtin.Slice.slicePlaces (Builtin.Slice.sliceAdjust lo hi c xs.length).1 (Builtin.Slice.sliceAdjust lo hi c xs.length).2 c)).filterMap fun (k : Nat) => xs[((Builtin.Slice.sliceAdjust lo hi c xs.length).1 + (k : Int) * c).toNat]?
theorem pk3_vals {xs : List V} {us : List Value} (r : Vals xs us) (lo hi : Option Int) (c : Int) : Vals (pk3 xs lo hi c) (pk3 us lo hi c) := by
  unfold pk3
  rw [r.length]
  generalize List.range (Builtin.Slice.slicePlaces (Builtin.Slice.sliceAdjust lo hi c us.length).1 (Builtin.Slice.sliceAdjust lo hi c us.length).2 c) = ks
  generalize (Builtin.Slice.sliceAdjust lo hi c us.length).1 = b
  induction ks with
  | nil => exact .nil
  | cons k ks ih =>
    rw [List.filterMap_cons, List.filterMap_cons]
    cases e : xs[(b + (k : Int) * c).toNat]? with
    | none =>
      have : us[(b + (k : Int) * c).toNat]? = none := by
        rw [List.getElem?_eq_none_iff] at e ⊢
        rw [← r.length]
        exact e
      rw [this]
      exact ih
    | some x =>
      obtain ⟨u, e2, ru⟩ := Vals.get r e
      rw [e2]
      exact .cons ru ih
theorem pk3_len {α : Type} (xs : List α) (lo hi : Option Int) (c : Int) : (pk3 xs lo hi c).length ≤ Builtin.Slice.slicePlaces (Builtin.Slice.sliceAdjust lo hi c xs.length).1 (Builtin.Slice.sliceAdjust lo hi c xs.length).2 c := by
  unfold pk3
  refine Nat.le_trans (List.length_filterMap_le _ _) ?_
  rw [List.length_range]
  exact Nat.le_refl _
end
section
variable {prog : Program} {w : World} {A : Around} {E : Value → Shared → Prop} {s : Shared}
theorem applied3 {sl : Addr} {vl vu vs : Value} {lo hi : Option Int} {c : Int} {n : Nat} {Q : Int × Int × Nat → Shared → Prop} (hs : s.heap.IsSliceOf sl vl vu vs) (pl : IsPart vl lo) (pu : IsPart vu hi) (ps : IsPart vs (some c)) (hc : c ≠ 0)
    (h : Q ((Builtin.Slice.sliceAdjust lo hi c n).1, c, Builtin.Slice.slicePlaces (Builtin.Slice.sliceAdjust lo hi c n).1 (Builtin.Slice.sliceAdjust lo hi c n).2 c) s) :
    wpAny (model prog w) A (Builtin.Slice.sliceApplied (.ref sl) (pure (n : Int))) Q E s := by
  obtain ⟨ob, g1, _, g3⟩ := id hs
  unfold Builtin.Slice.sliceApplied Builtin.Slice.sliceFields
  refine wpAny_bind (wpAny_bind (wpAny_field g1 g3 (x := vl) rfl (wpAny_bind (wpAny_field g1 g3 (x := vu) rfl (wpAny_bind (wpAny_field g1 g3 (x := vs) rfl (wpAny_pure ?_)))))))
  refine wpAny_bind (HT.slicePart_ ps ?_)
  show wpAny _ _ (if (c == 0) = true then _ else _) _ _ s
  rw [if_neg (by simpa using hc)]
  refine wpAny_bind (HT.slicePart_ pl (wpAny_bind (HT.slicePart_ pu (wpAny_bind (wpAny_pure ?_)))))
  show wpAny _ _ (match Builtin.Slice.sliceAdjust lo hi c (n : Int) with | (lo, hi) => pure (lo, c, Builtin.Slice.slicePlaces lo hi c)) _ _ s
  exact wpAny_pure h
theorem item3 {t sl : Addr} {items : List Value} {vl vu vs : Value} {lo hi : Option Int} {c : Int} {Q : Value → Shared → Prop} (ht : IsTup s.heap t items.toArray) (hs : s.heap.IsSliceOf sl vl vu vs) (pl : IsPart vl lo) (pu : IsPart vu hi) (ps : IsPart vs (some c)) (hc : c ≠ 0)
    (h1 : c ≠ 1) (h : Q (.ref s.heap.objs.size) { s with heap := s.heap.push { cls := .type "tuple", data := .seq (pk3 items lo hi c).toArray } }) (hz : (pk3 items lo hi c).length ≤ sizeLine) :
    wpAny (model prog w) A (getItem (.ref t) (.ref sl)) Q E s := by
  have fits : sizeOk (.seq (pk3 items lo hi c).toArray) := by
    show (pk3 items lo hi c).toArray.size ≤ sizeLine
    rw [List.size_toArray]
    exact hz
  have isl : s.TypeIs (.ref sl) "slice" := by
    obtain ⟨ob, g1, g2, _⟩ := id hs
    exact ⟨ob, g1, g2⟩
  unfold getItem
  try with_reducible refine wpAny_holding ?_
  first | refine wpAny_bind (wpAny_pure ?_) | skip
  refine wpAny_bind (wpAny_sequenceKey ht.typeIs (by decide) (wpAny_bind (wpAny_callSpecial?_slot (name := Str.ofString "__getitem__") ht.typeIs slot_tuple_getitem (wpAny_call_entry slot_tuple_getitem ht.typeIs entry_tuple_getitem ?_ (args_tuple_getitem _ _)))))
  show wpAny _ _ (Builtin.Tuple.tupleItemsOf (.ref t) >>= _) _ _ s
  refine wpAny_bind (tupleItemsOf_ ht (wpAny_bind (wpAny_typeOf isl ?_)))
  rw [if_pos (by decide)]
  refine wpAny_bind (applied3 hs pl pu ps hc ?_)
  have no : ¬ (((Builtin.Slice.sliceAdjust lo hi c items.toArray.size).1 == 0 && c == 1 && (Builtin.Slice.slicePlaces (Builtin.Slice.sliceAdjust lo hi c items.toArray.size).1 (Builtin.Slice.sliceAdjust lo hi c items.toArray.size).2 c) == items.toArray.size) = true) := fun q => by
    rw [Bool.and_eq_true, Bool.and_eq_true] at q
    exact h1 (eq_of_beq q.1.2)
  have e : ((List.range (Builtin.Slice.slicePlaces (Builtin.Slice.sliceAdjust lo hi c items.toArray.size).1 (Builtin.Slice.sliceAdjust lo hi c items.toArray.size).2 c)).filterMap fun (k : Nat) => items.toArray[((Builtin.Slice.sliceAdjust lo hi c items.toArray.size).1 + (k : Int) * c).toNat]?) = pk3 items lo hi c := by
    unfold pk3
    rw [List.size_toArray]
    simp only [List.getElem?_toArray]
  show wpAny _ _ (if ((Builtin.Slice.sliceAdjust lo hi c items.toArray.size).1 == 0 && c == 1 && (Builtin.Slice.slicePlaces (Builtin.Slice.sliceAdjust lo hi c items.toArray.size).1 (Builtin.Slice.sliceAdjust lo hi c items.toArray.size).2 c) == items.toArray.size) = true then _ else _) _ _ s
  rw [if_neg no, e]
  first
    | exact wpAny_bind (m := Builtin.Tuple.tupleExact _) (wpAny_newObj_type (wpAny_pure ⟨_, rfl, wpAny_pure h⟩) fits)
    | exact wpAny_bind (m := Builtin.Tuple.tupleExact _) (wpAny_newObj_type (wpAny_bind (wpAny_pure (wpAny_pure ⟨_, rfl, wpAny_pure h⟩))) fits)
    | exact wpAny_bind (wpAny_bind (m := Builtin.Tuple.tupleExact _) (wpAny_newObj_type (wpAny_pure (wpAny_pure ⟨_, rfl, wpAny_pure h⟩)) fits))
    | exact wpAny_bind (wpAny_bind (m := Builtin.Tuple.tupleExact _) (wpAny_newObj_type (wpAny_pure ⟨_, rfl, wpAny_pure h⟩) fits))
end
section
variable {X : Cx} {K : PySem.W.Frag} {e s3 : Expr} {lo hi : Option Expr} {te : TE} {tl th t3 : TO} {p3 pos : Pos}
def tSl3 (K : PySem.W.Frag) (te : TE) (tl th t3 : TO) : TE := fun σ H Q => te σ H fun x H1 => tl σ H1 fun l H2 => th σ H2 fun u H3 => t3 σ H3 fun c H4 => ∃ a xs k, x = .ref a ∧ c = some k ∧ SqT K H4 a xs ∧ k ≠ 0 ∧ k ≠ 1 ∧ (pk3 xs l u k).length ≤ sizeLine ∧
  ∀ p, H4 p = none → Q (.ref p) (upd H4 p (.tup (pk3 xs l u k)))
theorem pe_sl3 (hK : X.K = K) (he : PE X e te) (hl : PO X lo tl) (hu : PO X hi th) (h3 : PO X (some s3) t3) (ho : ∀ a b : Addr, ∃ ops, subscripted (Expr.Slice lo hi (some s3) p3) false (.ref a) (.ref b) = operate ops (getItem (.ref a) (.ref b)) := by exact fun _ _ => ⟨_, rfl⟩) : PE X (.Subscript e (.Slice lo hi (some s3) p3) pos) (tSl3 K te tl th t3) := by
  subst hK
  refine ⟨fun pins s σ H Q I h => Subscript_ (thn (he.run pins s σ H _ I h) fun v s1 ⟨x, H1, I1, r1, q1⟩ => wpAny_Slice (thn (hl.run pins s1 σ H1 _ I1 q1) fun vl s2 ⟨l, H2, I2, pl, q2⟩ => thn (hu.run pins s2 σ H2 _ I2 q2) fun vu s4 ⟨u, H3, I3, pu, q3⟩ =>
    thn (h3.run pins s4 σ H3 _ I3 q3) fun vc s5 ⟨c, H4, I4, pc, q4⟩ => ?_))⟩
  obtain ⟨a, xs, k, ex, ec, hx, k0, k1, hz, q⟩ := q4
  subst ex
  subst ec
  cases r1
  have I5 : Inv X pins σ H4 { s5 with heap := s5.heap.push { cls := .type "slice", data := .fields #[vl, vu, vc] } } := I4.kept (t' := s5.toks) fun b ob q => Heap.get?_push_of_some _ q
  obtain ⟨its, r, ht, _⟩ := I5.tuple hx
  have rv := pk3_vals r l u k
  show wpAny (model X.prog X.w) X.A (subscriptTail e (.Slice lo hi (some s3) p3) (.ref a) (.ref s5.heap.objs.size)) (EP X pins σ Q) X.xe { s5 with heap := s5.heap.push { cls := .type "slice", data := .fields #[vl, vu, vc] } }
  obtain ⟨ops, hops⟩ := ho a s5.heap.objs.size
  refine tail_any (ops := ops) ht.typeIs (slot_tuple_getitem.lookup) ?_ hops
  refine item3 ht (Heap.IsSliceOf.new _ vl vu vc) pl pu pc k0 k1 ?_ (by rw [← rv.length]; exact hz)
  refine ⟨.ref _, _, I5.laid (t' := s5.toks) (o := .tup (pk3 xs l u k)) (fun b ob q => Heap.get?_push_of_some _ q) (Nat.le_refl _) ?_, rfl, q _ (I5.hok.fresh (Nat.le_refl _))⟩
  exact ⟨hz, _, rv, IsTup.new _ _⟩
end
end Tx

/-! ### own rules: set(xs), xs a list of ints; sorted of it -/
namespace Tz
open PySem PySem.Spec PyProof.Rows L2
section
variable {P : Program} {w : World} {A : Around} {E : Value → Shared → Prop} {s : Shared}
/-- the new set, empty -/
abbrev nul (w : World) : Obj := { cls := .type "set", dict := none, data := .set #[] 0 (.fresh 0 0 (!w.params.followText "set-order")) }
/-- what the filling leaves behind -/
def Filled (w : World) (s : Shared) (ns : List Int) (s2 : Shared) : Prop := ∃ h' tk c, s2 = { s with heap := h', toks := tk } ∧ SetR w h' s.heap.objs.size (fun j => decide (j ∈ ns)) c ∧ c ≤ ns.length ∧ ∀ b o, s.heap.get? b = some o → h'.get? b = some o
theorem set_of_list {l : Addr} {items : Array Value} (ns : List Int) {Q : Value → Shared → Prop} (hh : A.handled = none) (hl : s.heap.IsList l items) (hit : IntsAre items.toList ns) (hb : ns.length + 1 < scanBound)
    (h : ∀ s2, Filled w s ns s2 → Q (.ref s.heap.objs.size) s2) : wpAny (model P w) A (call (.type "set") [.ref l]) Q E s := by
  have hisz : items.size = ns.length := by
    have q := IntsAre.length hit
    rwa [Array.length_toList] at q
  have hS : (s.heap.push (nul w)).get? s.heap.objs.size = some (nul w) := Heap.get?_push_size _ rfl
  have hlt : l < s.heap.objs.size := by
    obtain ⟨o, ho, _⟩ := hl
    exact Heap.lt_size ho
  obtain ⟨c, tl, hmro⟩ := F.called_set.mro
  have m1 := F.called_set.made
  have m2 := F.called_set.sub
  refine wpAny_call (codeAny_of_tree ?_)
  show wpAny _ _ (callAny (.type "set") _) _ _ _
  refine wpAny_pure ⟨Code.quiet_builtin _ (by decide +kernel), codeAny_builtin F.entry_type_call ?_⟩
  rw [Around.under_plain (weight_type_call_type "set" [.ref l] []) rfl]
  have m3 := F.called_set.notType
  have m4 := F.called_set.canCreate
  have m5 := F.typeCall_set_1 (.ref l)
  repeat (any_goals (first | assumption | wp_step))
  refine codeAny_mono (code_set_led1 (.ref l) (E := E) (Q₁ := fun obj s1 => obj = .ref s.heap.objs.size ∧ s1 = { s with heap := s.heap.push (nul w) }) ⟨rfl, rfl⟩) fun r s1 hr => ?_
  cases r with
  | error e => exact hr
  | ok fl =>
    cases fl with
    | next => exact hr.elim
    | brk => exact hr.elim
    | cont => exact hr.elim
    | ret obj =>
      obtain ⟨rfl, rfl⟩ := hr
      have hT : Shared.TypeIs { s with heap := s.heap.push (nul w) } (.ref s.heap.objs.size) "set" := ⟨_, hS, rfl⟩
      have m6 := F.called_set.init.lookup
      have m7 := F.called_set.init.bind (.ref s.heap.objs.size)
      repeat (any_goals (first | assumption | wp_step))
      refine codeAny_mono (codeAny_call_builtin (R := wants (fun r s2 => r = .none ∧ Filled w s ns s2) E) F.called_set.init.plain F.entry_set_init (check_set_init_1 hT ?_)) fun r2 s2 hr2 => ?_
      · obtain ⟨ol, hol, hcl, nl, hdl⟩ := hl
        obtain ⟨ocls, odict, odata, oslots⟩ := ol
        simp only at hcl hdl
        subst hcl
        subst hdl
        have hol' := Heap.get?_push_of_some (nul w) hol
        have q1 := F.sub_list_set
        have q2 := F.sub_list_frozenset
        have q3 : (Value.type "list" == Value.type "dict") = false := by decide
        have hl1 : (s.heap.push (nul w)).IsList l items := ⟨_, hol', rfl, nl, rfl⟩
        unfold Builtin.«set.__init__» noKeywords Builtin.Frozenset.updateFrom
        generalize hPI : pyIter = PI
        wp_walk
        subst hPI
        refine wpAny_pyIter_list hl1 ?_
        refine wpAny_bind (wpAny_runValue ?_)
        have hh3 : A.in1.in1.in1.handled = none := by simp [hh]
        have n1 : l ≠ (s.heap.push (nul w)).objs.size := by
          rw [Heap.size_push]
          exact Nat.ne_of_lt (Nat.lt_succ_of_lt hlt)
        have n2 : s.heap.objs.size ∉ [(s.heap.push (nul w)).objs.size, l] := by
          rw [Heap.size_push]
          simp only [List.mem_cons, List.not_mem_nil, or_false, not_or]
          exact ⟨Nat.ne_of_lt (Nat.lt_succ_self _), Nat.ne_of_gt hlt⟩
        have vals : ∀ (i : Nat) (v : Value), items[i]? = some v → ∃ k t, ns[i]? = some k ∧ v = .int k t := fun i v hv => by
          have hi : i < ns.length := by rw [← hisz]; exact (Array.getElem?_eq_some_iff.mp hv).1
          obtain ⟨t, e⟩ := PyProof.Rows.IntsAre.int_at hit i v (by rw [Array.getElem?_toList]; exact hv)
          exact ⟨ns[i], t, List.getElem?_eq_getElem hi, by rw [e, List.getD_eq_getElem?_getD, List.getElem?_eq_getElem hi]; rfl⟩
        refine set_update_ints ((Walks.list hh3 _ l n1 items).toS) s.heap.objs.size n2 ns hisz hb vals (items.size - 0) 0 _ (by omega) (Nat.zero_le _)
          ⟨⟨_, Heap.get?_push_size _ rfl, rfl, rfl⟩, (hl1.push _)⟩ ⟨0, Nat.le_refl 0, setR_new_at (Heap.get?_push_of_some _ hS)⟩ fun s' c' hm hc' hS' => ?_
        obtain ⟨h', g2, d', tk', os'⟩ := s'
        obtain rfl : g2 = s.gens := hm.gens
        obtain rfl : d' = s.drawn := hm.drawn
        obtain rfl : os' = s.os := hm.os
        show wpAny _ _ _ _ _ _
        refine wpAny_pure ?_
        show wpAny _ _ (ret Value.none) _ _ _
        rw [hisz] at hc'
        refine wpAny_pure ⟨rfl, h', tk', c', rfl, hS', hc', fun b o e => ?_⟩
        have b0 : b < s.heap.objs.size := Heap.lt_size e
        refine hm.heap b o ?_ (Heap.get?_push_of_some _ (Heap.get?_push_of_some _ e))
        rw [Heap.size_push]
        simp only [List.mem_cons, List.not_mem_nil, or_false, not_or]
        exact ⟨Nat.ne_of_lt b0, Nat.ne_of_lt (Nat.lt_succ_of_lt b0)⟩
      · cases r2 with
        | error e => exact hr2
        | ok fl2 =>
          cases fl2 with
          | next => exact hr2.elim
          | brk => exact hr2.elim
          | cont => exact hr2.elim
          | ret r =>
            obtain ⟨rfl, hf⟩ := hr2
            have hf2 := hf
            obtain ⟨h', tk, c, rfl, _⟩ := hf2
            repeat (any_goals (first | assumption | wp_step))
            exact h _ hf
end
section
variable {X : Cx} {K : PySem.W.Frag} {w : World}
/-- set(xs), xs a list of ints -/
def rSetLI (K : PySem.W.Frag) (w : World) : List V → Hp → VK → Prop := fun xs H Q => ∃ (l : Addr) (ns : List Int), xs = [V.ref l] ∧ SqL K H l (ns.map V.int) ∧ ns.length + 1 < scanBound ∧
  ∀ p c, H p = none → c ≤ ns.length → Q (.ref p) (upd H p (SetO w p (fun j => decide (j ∈ ns)) c))
theorem cr_setLI (h : X.K = K) (hw : X.w = w) (hc : X.calm = true) : CallR X (.type "set") (rSetLI K w) := by
  subst h
  subst hw
  intro pins s σ H xs us Q I r h
  obtain ⟨l, ns, rfl, hl, hb, q⟩ := h
  rw [Vals.ref1 r]
  obtain ⟨its, rv, pl, hz⟩ := I.list hl
  refine set_of_list (P := X.prog) (w := X.w) ns (I.ok.hd hc) pl.isList rv.ints hb fun s2 hf => ?_
  obtain ⟨h', tk, c, rfl, R, hcl, hk⟩ := hf
  exact ⟨.ref _, upd H s.heap.objs.size (SetO X.w s.heap.objs.size (fun j => decide (j ∈ ns)) c), I.laid (t' := tk) hk (Nat.le_refl _) (setO_new R), rfl, q _ c (I.hok.fresh (Nat.le_refl _)) hcl⟩
theorem cr_sortedSet' (hw : X.w = w) (hc : X.calm = true) : CallR X (.builtin "sorted") (rSortedSet w) := by
  subst hw
  exact cr_sortedSet hc
end
end Tz

namespace Bx
open PySem PySem.Spec PyProof.Rows L2
def mf (I O L : Int) (ot rt : Addr) : List (Str × V) := putF "rows" (.ref rt) (putF "opening" (.ref ot) (putF "lead" (.int L) (putF "outputs" (.int O) (putF "inputs" (.int I) []))))
theorem mf_I (I O L : Int) (a b : Addr) : (mf I O L a b).lookup ("inputs" : Str) = some (.int I) := by
  unfold mf
  rw [lookup_putF, if_neg (by decide +kernel), lookup_putF, if_neg (by decide +kernel), lookup_putF, if_neg (by decide +kernel), lookup_putF, if_neg (by decide +kernel), lookup_putF, if_pos rfl]
theorem mf_O (I O L : Int) (a b : Addr) : (mf I O L a b).lookup ("outputs" : Str) = some (.int O) := by
  unfold mf
  rw [lookup_putF, if_neg (by decide +kernel), lookup_putF, if_neg (by decide +kernel), lookup_putF, if_neg (by decide +kernel), lookup_putF, if_pos rfl]
theorem mf_L (I O L : Int) (a b : Addr) : (mf I O L a b).lookup ("lead" : Str) = some (.int L) := by
  unfold mf
  rw [lookup_putF, if_neg (by decide +kernel), lookup_putF, if_neg (by decide +kernel), lookup_putF, if_pos rfl]
theorem mf_o (I O L : Int) (a b : Addr) : (mf I O L a b).lookup ("opening" : Str) = some (.ref a) := by
  unfold mf
  rw [lookup_putF, if_neg (by decide +kernel), lookup_putF, if_pos rfl]
theorem mf_r (I O L : Int) (a b : Addr) : (mf I O L a b).lookup ("rows" : Str) = some (.ref b) := by
  unfold mf
  rw [lookup_putF, if_pos rfl]
structure MchC (K : PySem.W.Frag) (C : Addr) : Prop where
  cl : Cls K C
  nI : NoAttr K C "inputs"
  nO : NoAttr K C "outputs"
  nL : NoAttr K C "lead"
  no : NoAttr K C "opening"
  nr : NoAttr K C "rows"
/-- rows of pairs -/
structure RP (mk : List V → HO) (H : Hp) (as : List Addr) (c : List (List (Int × Int))) : Prop where
  len : as.length = c.length
  g : ∀ (i : Nat) (a : Addr), as[i]? = some a → ∃ (bs : List Addr) (row : List (Int × Int)), c[i]? = some row ∧ H a = some (mk (bs.map V.ref)) ∧ bs.length = row.length ∧ ∀ (j : Nat) (b : Addr), bs[j]? = some b → ∃ t l, row[j]? = some (t, l) ∧ H b = some (.tup [.int t, .int l])
theorem RP.same {mk : List V → HO} {H H' : Hp} {as : List Addr} {c : List (List (Int × Int))} (s : Same H H') (h : RP mk H as c) : RP mk H' as c := ⟨h.len, fun i a e => by
  obtain ⟨bs, row, h1, h2, h3, h4⟩ := h.g i a e
  exact ⟨bs, row, h1, s _ _ h2, h3, fun j b hb => by obtain ⟨t, l, h5, h6⟩ := h4 j b hb; exact ⟨t, l, h5, s _ _ h6⟩⟩⟩
def LPr (H : Hp) (r : Addr) (as : List Addr) (c : List (List (Int × Int))) : Prop := H r = some (.lst (as.map V.ref)) ∧ RP .lst H as c
theorem LPr.same {H H' : Hp} {r : Addr} {as : List Addr} {c : List (List (Int × Int))} (s : Same H H') (h : LPr H r as c) : LPr H' r as c := ⟨s _ _ h.1, h.2.same s⟩
def MchAt (C : Addr) (H : Hp) (x : Addr) (I O L : Int) (op : List Int) (c : List (List (Int × Int))) : Prop := ∃ (dx ot rt : Addr) (as : List Addr), H x = some (.ins C dx (mf I O L ot rt)) ∧ TupI H ot op ∧ H rt = some (.tup (as.map V.ref)) ∧ RP .tup H as c
theorem mch_same {C : Addr} {H H' : Hp} {x : Addr} {I O L : Int} {op : List Int} {c : List (List (Int × Int))} (s : Same H H') (h : MchAt C H x I O L op c) : MchAt C H' x I O L op c := by
  obtain ⟨dx, ot, rt, as, e1, e2, e3, e4⟩ := h
  exact ⟨dx, ot, rt, as, s _ _ e1, s _ _ e2, s _ _ e3, e4.same s⟩
/-- objects that are no lists stay where only lists change -/
theorem RP.keepT {H H' : Hp} {as : List Addr} {c : List (List (Int × Int))} (k : ∀ b xs, H b = some (.tup xs) → H' b = some (.tup xs)) (h : RP .tup H as c) : RP .tup H' as c := ⟨h.len, fun i a e => by
  obtain ⟨bs, row, h1, h2, h3, h4⟩ := h.g i a e
  exact ⟨bs, row, h1, k _ _ h2, h3, fun j b hb => by obtain ⟨t, l, h5, h6⟩ := h4 j b hb; exact ⟨t, l, h5, k _ _ h6⟩⟩⟩
/-- what holds of a machine -/
structure Vm (I O L : Int) (op : List Int) (c : List (List (Int × Int))) : Prop where
  i1 : 1 ≤ I
  o1 : 1 ≤ O
  l0 : -3 ≤ L
  l1 : L ≤ 2
  op_len : (op.length : Int) = max 0 (-L)
  ne : c ≠ []
  w : ∀ r ∈ c, (r.length : Int) = I
  st : ∀ r ∈ c, ∀ p ∈ r, 0 ≤ p.1 ∧ p.1 < (c.length : Int)
  op_in : ∀ z ∈ op, 0 ≤ z ∧ z < O
  em : ∀ r ∈ c, ∀ p ∈ r, 0 ≤ p.2 ∧ p.2 < O
end Bx
/-! own rule: a tuple times 1 is that tuple -/
namespace Bx
open PySem PySem.Spec PyProof.Rows L2
theorem mul_one (l : Addr) (items : Array Value) (n : Nat) (dd : Option Addr) (sl : Array (Option Value)) (u : Tok) :
    Meets (Builtin.«tuple.__mul__» ⟨[.ref l, .int 1 u], []⟩) (fun _ R s => s.heap.get? l = some { cls := .type "tuple", dict := dd, data := .seq items n, slots := sl } ∧ R (.ok (.ret (.ref l))) s) := .of_wp fun prog w A R s h => by
  obtain ⟨hp, g, d, tk, os⟩ := s
  obtain ⟨hl, h⟩ := h
  have q1 := AutoSeq1.idx_int
  wp_walk using AutoSeq1.wpAny_loadPart' hl
  repeat (first
    | (refine wpAny_ite_true (decide_eq_true (by simp)) ?_; wp_walk using AutoSeq1.wpAny_loadPart' hl)
    | (refine wpAny_ite_false (decide_eq_false (by simp)) ?_; wp_walk using AutoSeq1.wpAny_loadPart' hl))
  exact ⟨_, rfl, h⟩
def rRep1 (K : PySem.W.Frag) : R2 := fun x y H Q => ∃ l k xs, x = .ref l ∧ y = .int k ∧ SqT K H l xs ∧ xs ≠ [] ∧ 1 ≤ k ∧ k ≤ 1000 ∧ xs.length ≤ 1000 ∧ (k = 1 → Q (.ref l) H) ∧ (2 ≤ k → ∀ p, H p = none → Q (.ref p) (upd H p (.tup (List.replicate k.toNat xs).flatten)))
theorem op_rep1K {X : Cx} {K : PySem.W.Frag} (h : X.K = K) : OpR X (binaryOp .Mult) (rRep1 K) := by
  subst h
  intro pins s σ H x y v u Q I rx ry h
  obtain ⟨l, k, xs, ex, ey, hT, hne, h1, h2, hz, q1, q2⟩ := h
  by_cases c : k = 1
  · subst c
    subst ex
    subst ey
    cases rx
    obtain ⟨t, rfl⟩ := ry
    obtain ⟨its, r, ⟨⟨cls, dd, data, sl⟩, ho, hc, n, hd⟩, _⟩ := I.tuple hT
    simp only at hc hd
    subst hc hd
    refine wpAny_binaryOp_repeat_ref (T := "tuple") (U := "int") (by decide) ⟨_, ho, rfl⟩ (fun s' => typeIs_int s' 1 t) noFill_tuple_mul F.fills_int_mul F.slot_int_rmul repeat_tuple F.slot_int_index.lookup
      (call_meets F.slot_int_rmul (typeIs_int s 1 t) F.entry_int_rmul (F.args_int_rmul_2 _ _) (int_rmul_tuple 1 t l its.toArray n dd sl)
        ⟨ho, rfl, ⟨_, ho, rfl⟩, call_meets F.slot_tuple_mul ⟨_, ho, rfl⟩ F.entry_tuple_mul (F.args_tuple_mul_2 _ _) (mul_one l its.toArray n dd sl t) ⟨ho, ?_⟩⟩)
    exact ⟨.ref l, H, I, rfl, q1 rfl⟩
  · exact op_repT pins s σ H x y v u Q I rx ry ⟨l, k, xs, ex, ey, hT, hne, by omega, h2, hz, q2 (by omega)⟩
end Bx
namespace Bx
open PySem PySem.Spec PyProof.Rows L2
section
variable {X : Cx} {K : PySem.W.Frag}
theorem pe_revLK {e : Expr} {te : TE} {k : Nat} {p1 p2 p3 pos : Pos} (h : X.K = K) (he : PE X e te) : PE X (.Subscript e (.Slice none none (some (.UnaryOp .USub (.Constant (.int 1) k p1) p2)) p3) pos) (tRevL K te) := by
  subst h
  exact pe_revL he
end
section
variable {X : Cx} {k : Nat} {C f : Addr} {fd : FuncData} {ps : List Str} {sp : Sp} {W : WX} {m fl : Str} {p pos apos : Pos} {e o : Expr} {es : List Expr} {ta : TE} {t : TA}
/-- o.f as a target -/
def gFld (K : PySem.W.Frag) (to : TE) (f : Str) : TG := fun v σ H Q => to σ H fun x H2 => ∃ a C dx fs, x = .ref a ∧ H2 a = some (.ins C dx fs) ∧ Cls K C ∧ NoAttr K C f ∧ fs.length < 1000 ∧ Q σ (upd H2 a (.ins C dx (putF f v fs)))
theorem pg_fld (ho : PE X o ta) (ha : ∀ v, assign (.Attribute o fl pos) X.env v = (do
      let ov ← holding [v] (eval o X.env)
      standAt pos.atName
      holding [v, ov] (setAttr ov fl v)
      release [v, ov] []) := by intro _; rfl) : PG X (.Attribute o fl pos) (gFld X.K ta fl) := by
  refine ⟨fun pins s σ H v u Q I r h => ?_⟩
  rw [ha]
  refine wpAny_bind (wpAny_holding (thn (ho.run pins s σ H _ I h) fun ov s1 ⟨x, H1, I1, r1, a, C, dx, fs, ex, ea, c, n, l, q⟩ => ?_))
  subst ex
  obtain rfl : ov = Value.ref a := r1
  refine wpAny_bind (wpAny_standAt (wpAny_bind (wpAny_holding (setattr_ok I1 ea c n l r fun s3 I3 => ?_))))
  exact wpAny_release ⟨σ, _, I3, q⟩
/-- o.m(e) where the method may raise, in a try -/
def tMethX (C : Addr) (m : Str) (sp : Sp) (E : L2.St → XK) (ta : TE) (t : TA) : TE := fun σ H Q => ta σ H fun x H1 => ∃ a dx fs, x = .ref a ∧ H1 a = some (.ins C dx fs) ∧ fs.lookup m = none ∧ t σ H1 fun vs H2 => sp (x :: vs) H2 Q (E σ)
theorem pe_methX {pl : Sem Bool} (he : PE X o ta) (c : Cls X.K C) (hm : Meth X.K C m f) (F : FnOk X.prog X.w X.K X.mg X.base (L2.CX X.prog X.w) k f fd ps sp) (hr : Room k X.A) (hb : Binds X.K fd ps []) (tk : Takes X W) (ha : PA X (e :: es) t)
    (hst : starEach (e :: es) X.env = (false, eval e X.env) :: starEach es X.env := by rfl) (hpl : (backTo pos (starEach es X.env)).any (·.1) = false := by rfl)
    (ht : eval (.Call (.Attribute o m apos) (e :: es) [] pos) X.env = (do
      let ov ← eval o X.env
      standAt apos.atName
      let (f, first) ← holding [ov] (getMethod ov m pl)
      callWith pos f first (backTo pos (starEach (e :: es) X.env)) (backToKw pos (keywordEach [] X.env))) := by rfl) :
    PE X (.Call (.Attribute o m apos) (e :: es) [] pos) (tMethX C m sp (WE W) ta t) := by
  refine ⟨fun pins s σ H Q I h => ?_⟩
  refine PySem.W.methodCall_KW (pl := pl) (thn (he.run pins s σ H _ I h) fun u s1 ⟨x, H1, I1, rx, a, dx, fs, ex, ea, l, q⟩ => ?_) ht
  subst ex
  obtain rfl : u = Value.ref a := rx
  refine getmeth_ok I1 ea c hm l ?_
  refine PySem.W.callWith_K (first := [.ref a]) (h₀ := X.base) I.ok.mod.kin hm.kp (thn (ha.run pos pins s1 σ H1 _ I1 q) fun us s2 ⟨vs, H2, I2, r, q2⟩ => ⟨I2.kIn, ?_⟩) hst hpl
  exact run_fnS (us := .ref a :: us) (vs := .ref a :: vs) F hr hb (passAt tk σ) I2 (.cons rfl r) q2
end
/-- a journal's attributes -/
def jf (ma : Addr) (sp : Int) (tx : Str) (st tu : Int) (an : Addr) : List (Str × V) := [("machine", .ref ma), ("spacing", .int sp), ("text", .str tx), ("state", .int st), ("turns", .int tu), ("answers", .ref an)]
theorem jf_text (ma sp tx st tu an t') : putF "text" (.str t') (jf ma sp tx st tu an) = jf ma sp t' st tu an := by rfl
theorem jf_state (ma sp tx st tu an t') : putF "state" (.int t') (jf ma sp tx st tu an) = jf ma sp tx t' tu an := by rfl
theorem jf_turns (ma sp tx st tu an t') : putF "turns" (.int t') (jf ma sp tx st tu an) = jf ma sp tx st t' an := by rfl
theorem jl_m (ma sp tx st tu an) : (jf ma sp tx st tu an).lookup ("machine" : Str) = some (V.ref ma) := by rfl
theorem jl_sp (ma sp tx st tu an) : (jf ma sp tx st tu an).lookup ("spacing" : Str) = some (V.int sp) := by rfl
theorem jl_tx (ma sp tx st tu an) : (jf ma sp tx st tu an).lookup ("text" : Str) = some (V.str tx) := by rfl
theorem jl_st (ma sp tx st tu an) : (jf ma sp tx st tu an).lookup ("state" : Str) = some (V.int st) := by rfl
theorem jl_tu (ma sp tx st tu an) : (jf ma sp tx st tu an).lookup ("turns" : Str) = some (V.int tu) := by rfl
theorem jl_an (ma sp tx st tu an) : (jf ma sp tx st tu an).lookup ("answers" : Str) = some (V.ref an) := by rfl
theorem jl_hear (ma sp tx st tu an) : (jf ma sp tx st tu an).lookup ("hear" : Str) = none := by rfl
theorem jf_new (ma : Addr) (sp : Int) (tx : Str) (an : Addr) : putF "answers" (.ref an) (putF "turns" (.int 0) (putF "state" (.int 0) (putF "text" (.str tx) (putF "spacing" (.int sp) (putF "machine" (.ref ma) []))))) = jf ma sp tx 0 0 an := by rfl
structure JrnC (K : PySem.W.Frag) (C : Addr) : Prop where
  cl : Cls K C
  nm : NoAttr K C "machine"
  nsp : NoAttr K C "spacing"
  ntx : NoAttr K C "text"
  nst : NoAttr K C "state"
  ntu : NoAttr K C "turns"
  nan : NoAttr K C "answers"
/-- all but some objects stay -/
def Kpl (l : List Addr) (H H' : Hp) : Prop := ∀ b o, b ∉ l → H b = some o → H' b = some o
theorem Kpl.refl (l : List Addr) (H : Hp) : Kpl l H H := fun _ _ _ h => h
theorem Kpl.trans {l : List Addr} {H H1 H2 : Hp} (a : Kpl l H H1) (b : Kpl l H1 H2) : Kpl l H H2 := fun x o n h => b _ _ n (a _ _ n h)
theorem Kpl.same {l : List Addr} {H H1 : Hp} (s : Same H H1) : Kpl l H H1 := fun x o _ h => s _ _ h
theorem Kpl.own {l : List Addr} {H : Hp} {a : Addr} {o : HO} (h : a ∈ l) : Kpl l H (upd H a o) := fun x o' n hx => by rw [upd_ne (fun z => n (by rw [z]; exact h))]; exact hx
theorem Kpl.more {l l' : List Addr} {H H1 : Hp} (k : Kpl l H H1) (h : ∀ a ∈ l, a ∈ l') : Kpl l' H H1 := fun x o n hx => k _ _ (fun z => n (h _ z)) hx
theorem sat {H H' : Hp} {a : Addr} {o : HO} (s : Same H H') (h : H a = some o) : H' a = some o := s _ _ h
end Bx
namespace Dm
open PySem PySem.Builtin TL
def pad (k : Nat) (l : List Nat) : List Nat := List.replicate (k - l.length) 48 ++ l
theorem pad_snoc (k : Nat) (l : List Nat) (c : Nat) : pad (k + 1) (l ++ [c]) = pad k l ++ [c] := by
  unfold pad
  rw [List.length_append, show k + 1 - (l.length + [c].length) = k - l.length by simp only [List.length_singleton]; omega, List.append_assoc]
theorem numL_pad : ∀ (k q r : Nat), 1 ≤ q → r < 10 ^ (k + 1) → numL (q * 10 ^ (k + 1) + r) = numL q ++ pad (k + 1) (numL r)
  | 0, q, r, hq, hr => by
    have hr : r < 10 := by simpa using hr
    rw [numL_step (by omega), show (q * 10 ^ (0 + 1) + r) / 10 = q by omega, show (q * 10 ^ (0 + 1) + r) % 10 = r by omega, numL_lt hr]
    rfl
  | k + 1, q, r, hq, hr => by
    have e1 : q * 10 ^ (k + 1 + 1) + r = (q * 10 ^ (k + 1)) * 10 + r := by rw [Nat.pow_succ 10 (k + 1), Nat.mul_assoc]
    have hp : 1 ≤ 10 ^ (k + 1) := Nat.one_le_iff_ne_zero.mpr (Nat.pos_iff_ne_zero.mp (Nat.pow_pos (by decide)))
    have hq1 : 1 ≤ q * 10 ^ (k + 1) := Nat.mul_le_mul hq hp
    have hr2 : r / 10 < 10 ^ (k + 1) := by
      rw [Nat.pow_succ 10 (k + 1)] at hr
      omega
    rw [e1, numL_step (by omega), show ((q * 10 ^ (k + 1)) * 10 + r) / 10 = q * 10 ^ (k + 1) + r / 10 by omega, show ((q * 10 ^ (k + 1)) * 10 + r) % 10 = r % 10 by omega, numL_pad k q (r / 10) hq hr2]
    by_cases h : r < 10
    · rw [numL_lt h, show r / 10 = 0 by omega, show r % 10 = r by omega, numL_lt (by decide : (0 : Nat) < 10)]
      unfold pad
      simp only [List.length_singleton]
      rw [show k + 1 + 1 - 1 = (k + 1 - 1) + 1 by omega, List.replicate_succ', List.append_assoc, List.append_assoc]
    · rw [numL_step (show 10 ≤ r by omega), pad_snoc, List.append_assoc]
theorem zf {r : Nat} (hr : r < 10 ^ 18) : tl (Txt.zfill (Str.ofString (toString ((r : Nat) : Int))) 18) = pad 18 (numL r) := by
  have hl : (Str.ofString (toString ((r : Nat) : Int))).length = (numL r).length := by rw [len_tl, tl_num]
  have hle := numL_len (by decide : 0 < 18) hr
  unfold Txt.zfill
  rw [hl]
  by_cases h : (18 : Int) ≤ ((numL r).length : Nat)
  · rw [if_pos h, tl_num]
    unfold pad
    rw [show 18 - (numL r).length = 0 by omega]
    rfl
  · rw [if_neg h]
    have hz : ∀ (x : Str) (m : Nat), (∀ c, x.cps[0]? = some c → 48 ≤ c) → tl (zfilled x m) = List.replicate m 48 ++ tl x := by
      intro x m hc
      unfold zfilled
      have hp : tl (Builtin.Str.padded x m 0 48) = List.replicate m 48 ++ tl x := by
        unfold Builtin.Str.padded
        show (Array.replicate m 48 ++ x.cps ++ Array.replicate 0 48).toList = _
        simp [tl]
      split
      · rename_i e; have := hc _ e; omega
      · rename_i e; have := hc _ e; omega
      · exact hp
    rw [hz, tl_num]
    · unfold pad
      rw [show (18 : Int).toNat - (numL r).length = 18 - (numL r).length from rfl]
    · intro c hc
      have : c ∈ numL r := by
        rw [← tl_num]
        have := Array.getElem?_eq_some_iff.mp hc
        obtain ⟨h1, h2⟩ := this
        exact Array.mem_toList_iff.mpr (by rw [← h2]; exact Array.getElem_mem h1)
      exact (numL_digits r c this).1
end Dm
namespace Bx
open PySem PySem.Spec PyProof.Rows L2
/-- for c in text -/
theorem for_str {x : Str} {g : TG} {tb : TS} {D : Ends} {σ : L2.St} {H : Hp} (Pv : Nat → L2.St → Hp → Prop) (h0 : Pv 0 σ H)
    (hs : ∀ i c σ H, x.cps[i]? = some c → Pv i σ H → g (.str ⟨#[c]⟩) σ H fun σ2 H2 => tb { D with nx := Pv (i + 1), ct := Pv (i + 1), bk := D.nx } σ2 H2) (hd : ∀ σ H, Pv x.cps.size σ H → D.nx σ H) :
    ∃ W : Nat → Nat → L2.St → Hp → Prop, (∃ m, W 0 m σ H) ∧ ∀ i m σ H, W i m σ H →
      ((Its x).stop i H ∧ D.nx σ H) ∨ ((Its x).go i H ∧ ∃ N : L2.St → Hp → Prop, (∀ σ' H', N σ' H' → ∃ m', m' < m ∧ W (i + 1) m' σ' H') ∧ ∀ v H', (Its x).yld i H v H' → g v σ H' fun σ2 H2 => tb { D with nx := N, ct := N, bk := D.nx } σ2 H2) := by
  refine ⟨fun i m σ H => m = x.cps.size - i ∧ i ≤ x.cps.size ∧ Pv i σ H, ⟨x.cps.size, by simp, Nat.zero_le _, h0⟩, ?_⟩
  rintro i m σ H ⟨rfl, hi, p⟩
  by_cases hlt : i < x.cps.size
  · refine .inr ⟨hlt, Pv (i + 1), fun σ' H' p' => ⟨x.cps.size - (i + 1), by omega, rfl, hlt, p'⟩, fun v H' y => ?_⟩
    obtain ⟨e, c, hc, rfl⟩ := y
    subst e
    exact hs i c σ _ hc p
  · have e : i = x.cps.size := by omega
    subst e
    exact .inl ⟨Nat.le_refl _, hd _ _ p⟩
end Bx
/-! ### a comprehension that lets an exception out: own rule -/
namespace Lcx
open PySem PySem.Spec PyProof.Rows L2 Bx
/-- an exception in the air of X, whose frame is L0 -/
def XB (X : Cx) (L0 : Addr) (W : WX) (u : Value) (s' : Shared) : Prop :=
  ∃ (a : Addr) (B : Heap) (sI : Shared) (pins : List (Addr × Obj)) (σ : L2.St) (H : Hp) (cls : Value) (d : Option Addr),
    u = .ref a ∧ Inv X pins σ H sI ∧ (∀ b o, sI.heap.get? b = some o → b ∉ frs X.stack → B.get? b = some o) ∧ sI.heap.UpToSlots s'.heap ∧
      Sky B X.stack a (Zc cls d) L0 s'.heap ∧ H a = none ∧ s'.os = sI.os ∧ AllBare s'.gens ∧ W cls d σ H
theorem XB.of_call {X : Cx} {pins : List (Addr × Obj)} {σ : L2.St} {H : Hp} {s s' : Shared} {E : XK} {W : WX} {L0 : Addr} {u : Value} (I : Inv X pins σ H s) (hW : ∀ cls d H', E cls d H' → W cls d σ H') (c : CX X.prog X.w X.stack H s E u s') : XB X L0 W u s' := by
  have x := XE.of_call (W := W) I hW c
  obtain ⟨a0, B0, H0, cls0, d0, e0, fl, _⟩ := c
  obtain ⟨a, B, sI, pins', σ', H', cls, d, e, J, nb, up, sky, r⟩ := x
  refine ⟨a, B, sI, pins', σ', H', cls, d, e, J, nb, up, ?_, r⟩
  rcases sky with h | h | h
  · exact .inl h
  · exact .inr (.inl h)
  · exfalso
    rw [e] at e0
    cases e0
    obtain ⟨oe, vs, T, oT, ts, h1, _, h2, h3, _, _, h4, h5, h6⟩ := fl.2.2.2
    obtain ⟨oe', vs', T', oT', ts', k1, _, k2, k3, _, _, k4, k5, k6⟩ := h.2.2.2
    rw [h1] at k1; cases k1
    rw [h2] at k2; cases k2
    rw [h3] at k3; cases k3
    rw [h4] at k4; cases k4
    rw [h5] at k5; cases k5
    rw [h6] at k6
    simp [rawInt] at k6
section
variable {M : Model} {A : Around} {E : Value → Shared → Prop} {s : Shared} {Z : Obj → Prop} {B : Heap} {env cenv : Env} {outer l : List Env} {L a C : Addr}
theorem note_held {Q : Unit → Shared → Prop} (hZ : HandSPX.Steady Z) (hfr : A.frames = some (env :: outer)) (hf : env.frame = some L) (x : Sky B (env :: outer) a Z L s.heap)
    (hQ : ∀ h', HandSPX.HeldZ B (env :: outer) a Z L h' → s.heap.UpToSlots h' → Q () { s with heap := h' }) : wpAny M A (noteFrame (.ref a) env) Q E s := by
  rcases x with ⟨hB, hn, hl, oe, vs, he, hz, hd, h1⟩ | fl | hh
  · exact HandSPX.look_newZ hZ hfr hl hf he hB hn hd h1 hz hQ
  · exact HandSPX.looks_onZ hZ hfr hf fl hQ
  · exact HandSPX.againZ hf hh.2.2.2 (hQ s.heap hh (Heap.UpToSlots.refl _))
theorem pass_held {what : String} (hf : cenv.frame = some L) (hh : HandSPX.HeldZ B l a Z L s.heap) (hQ : ∀ h', HandSPX.HeldZ B l a Z L h' → s.heap.UpToSlots h' → E (.ref a) { s with heap := h' }) :
    wpAny M A (PySem.passOn what (.ref a) cenv : Sem Value) (fun _ _ => False) E s := by
  obtain ⟨b1, b0, f1, t⟩ := hh
  have t0 := t
  obtain ⟨oe, vs, T, oT, ts, he, hz, hd, h1, r⟩ := t
  unfold PySem.passOn
  refine wpAny_bind (wpAny_field he hd h1 ?_)
  rw [if_neg (show ¬ ((Value.ref T == Value.none) = true) from by simp), hf]
  refine wpAny_bind (HandSPX.setFlight_anyZ (fr := some L) b1 f1 t0 fun h' k1 k2 k3 k4 => ?_)
  exact wpAny_throw (hQ h' ⟨k1, b0, k2, k3⟩ k4)
/-- the ground with another object at C -/
theorem ground_at (B : Heap) {C : Addr} {o o2 : Obj} (h : B.get? C = some o) (hf : o2.isFreed = false) : ∃ B' : Heap, B'.get? C = some o2 ∧ ∀ b, b ≠ C → B'.get? b = B.get? b :=
  ⟨B.update C fun _ => o2, Heap.get?_update_self _ h hf, fun b hb => Heap.get?_update_other _ _ (Ne.symm hb)⟩
theorem frames_at {B B' h h2 : Heap} {oC : Obj} (hC : B.get? C = some oC) (eB : ∀ b, b ≠ C → B'.get? b = B.get? b) (eh : ∀ b, b ≠ C → h2.get? b = h.get? b) : ∀ {l : List Env}, h.FunFrames B l → h2.FunFrames B' l
  | [], _ => trivial
  | e :: r, ⟨k, ⟨L, o, f, n, g, nf⟩, q⟩ => by
    have hne : L ≠ C := fun z => by rw [z, hC] at n; cases n
    exact ⟨k, ⟨L, o, f, by rw [eB _ hne]; exact n, by rw [eh _ hne]; exact g, nf⟩, frames_at hC eB eh q⟩
theorem held_at {B B' h h2 : Heap} {oC oC2 : Obj} (hC : B.get? C = some oC) (hC' : B'.get? C = some oC2) (h2C : h2.get? C = some oC2) (eB : ∀ b, b ≠ C → B'.get? b = B.get? b) (eh : ∀ b, b ≠ C → h2.get? b = h.get? b) (x : HandSPX.HeldZ B l a Z L h) : HandSPX.HeldZ B' l a Z L h2 := by
  obtain ⟨b1, b0, f1, oe, vs, T, oT, ts, he, hz, hd, h1, nT, te, hT, hdT, h3⟩ := x
  have ha : a ≠ C := fun z => by rw [z, hC] at b0; cases b0
  have hTC : T ≠ C := fun z => by rw [z, hC] at nT; cases nT
  refine ⟨fun b o e => ?_, by rw [eB _ ha]; exact b0, frames_at hC eB eh f1, oe, vs, T, oT, ts, by rw [eh _ ha]; exact he, hz, hd, h1, by rw [eB _ hTC]; exact nT, te, by rw [eh _ hTC]; exact hT, hdT, h3⟩
  by_cases c : b = C
  · subst c
    rw [hC'] at e
    rw [h2C]
    exact e
  · rw [eB _ c] at e
    rw [eh _ c]
    exact b1 b o e
end
section
variable {X : Cx}
/-- what a raise in the block owes, where the block's context takes it -/
theorem fails {s3 : Shared} {H3 : Hp} {scope : Scope} {ce : Env} {fp : List Addr} {σ : L2.St} {pins : List (Addr × Obj)} {L0 : Addr} {top : Env} {out : List Env} {W Wo : WX} {u : Value} {s' : Shared}
    (I3 : Inv X pins σ H3 s3) (f3 : ∀ b ∈ fp, FpOk X pins H3 b ∧ b < s3.heap.objs.size) (cL : ce.locals = s3.heap.objs.size) (hcf : ce.frame = some L0) (hst : X.stack = top :: out) (ht : top.frame = some L0)
    (tk : ∀ u s', XB X L0 Wo u s' → X.xe u s') (hW : ∀ cls d σ' H', W cls d σ' H' → Wo cls d σ H') (x : XB (X.blk s3 H3 scope ce fp) L0 W u s') :
    notedBy (model X.prog X.w) X.A ce (CompFails (model X.prog X.w) X.A X.xe ce) u s' := by
  obtain ⟨a, B, sI, pi, σ', H', cls, d, rfl, J, nb, up, sky, na, os, ag, w⟩ := x
  have hfr : X.A.frames = some (top :: out) := by rw [I3.ok.frames, hst]
  have sky : Sky B (top :: out) a (Zc cls d) L0 s'.heap := hst ▸ sky
  show wpAny (model X.prog X.w) X.A (noteFrame (.ref a) ce) _ _ s'
  rw [noteFrame_env _ (hcf.trans ht.symm)]
  refine note_held Zc.steady hfr ht sky fun h1 hh up1 => ?_
  obtain ⟨m, hn, _⟩ := J.loc
  have hn : sI.heap.Ns ce.locals m := hn
  have nC : H' ce.locals = none := J.free
  obtain ⟨oC, _, _, gC, _⟩ := id hn
  have J1 : Inv X pins σ H' sI := I3.call' (ch := fp) J.os J.base J.hok J.bare fun b hb => ⟨(f3 b hb).1.2.2.2.1, (f3 b hb).1.2.1, (f3 b hb).1.2.2.2.2.1, (f3 b hb).1.2.2.2.2.2⟩
  have hCf : FpOk X pins H' ce.locals := I3.fpOk (Nat.le_of_eq cL.symm) nC
  have nfr : ce.locals ∉ frs X.stack := fun z => by
    rcases List.mem_cons.mp (I3.stkSub _ z) with z | z
    · exact hCf.2.1 z
    · exact hCf.2.2.1 z
  have bC : B.get? ce.locals = some oC := nb _ _ gC nfr
  refine ⟨m, hn.upToSlots (up.trans up1), fun h2 m2 hn2 sb => ?_⟩
  obtain ⟨o2, _, _, g2, _⟩ := id hn2
  have nf2 : o2.isFreed = false := (Heap.get?_some_iff.mp g2).2
  obtain ⟨B', eB1, eB2⟩ := ground_at (o2 := o2) B bC nf2
  obtain ⟨G, eG1, eG2⟩ := ground_at (o2 := o2) sI.heap gC nf2
  have hh2 := held_at bC eB1 g2 eB2 (fun b hb => sb.2 b hb) hh
  have J2 : Inv X pins σ H' { sI with heap := G, toks := sI.toks } := J1.turned (fun b o hb e => by rw [eG2 b hb]; exact e) nC hCf.2.1 hCf.2.2.2.1 hCf.2.2.2.2.1 hCf.2.2.2.2.2
  refine pass_held hcf hh2 fun h3 hh3 up3 => tk _ _ ⟨a, B', { sI with heap := G, toks := sI.toks }, pins, σ, H', cls, d, rfl, J2, fun b o e hb => ?_, fun b o e nfd => ?_, .inr (.inr (by rw [hst]; exact hh3)), na, os, ag, hW _ _ _ _ w⟩
  · by_cases c : b = ce.locals
    · subst c
      rw [eG1] at e
      rw [eB1]
      exact e
    · have e : G.get? b = some o := e
      rw [eG2 b c] at e
      rw [eB2 b c]
      exact nb b o e hb
  · by_cases c : b = ce.locals
    · subst c
      have e : G.get? ce.locals = some o := e
      rw [eG1] at e
      exact up3 _ o (by rw [g2]; exact e) nfd
    · have e : G.get? b = some o := e
      rw [eG2 b c] at e
      obtain ⟨sl, q⟩ := (up.trans up1) b o e nfd
      obtain ⟨sl2, q2⟩ := up3 b _ ((sb.2 b c).trans q) nfd
      exact ⟨sl2, q2⟩
/-- the context lets an exception out, whose frame is L0 -/
structure Lets (X : Cx) (L0 : Addr) (W : WX) : Prop where
  st : ∃ top out, X.stack = top :: out ∧ top.frame = some L0
  fr : X.env.frame = some L0
  tk : ∀ u s', XB X L0 W u s' → X.xe u s'
  ig : ∀ cls d σ1 σ2 H, W cls d σ1 H → W cls d σ2 H
theorem Lets.def_ {W : WX} (hs : X.stack = X.env :: X.outer) (hf : X.env.frame = some X.env.locals) (tk : Takes X W) (ig : ∀ cls d σ1 σ2 H, W cls d σ1 H → W cls d σ2 H) : Lets X X.env.locals W :=
  ⟨⟨_, _, hs, hf⟩, hf, fun u s' x => tk u s' x, ig⟩
/-- the block's context -/
abbrev blkX (X : Cx) (L0 : Addr) (W : WX) (s : Shared) (H : Hp) (scope : Scope) (ce : Env) (fp : List Addr) : Cx := (X.blk s H scope ce fp).wish (XB (X.blk s H scope ce fp) L0 W)
theorem Lets.blk {L0 : Addr} {W : WX} (l : Lets X L0 W) (s : Shared) (H : Hp) (scope : Scope) (cl : List (Str × Addr)) (C : Addr) (fp : List Addr) : Lets (blkX X L0 W s H scope (compEnvC scope cl C X.env) fp) L0 W :=
  ⟨l.st, l.fr, fun u s' ⟨a, B, sI, pi, σ, H', cls, d, e, I, r⟩ => ⟨a, B, sI, pi, σ, H', cls, d, e, I.unwish, r⟩, l.ig⟩
/-- a call in the block may raise -/
theorem passB {L0 : Addr} {W : WX} {s : Shared} {H : Hp} {scope : Scope} {ce : Env} {fp : List Addr} : ∀ σ, PassesAt (L2.CX X.prog X.w) (blkX X L0 W s H scope ce fp) σ (WE W σ) := fun _ _ _ _ _ _ I c => XB.of_call (X := X.blk s H scope ce fp) I.unwish (fun _ _ _ h => h) c
theorem pe_cxP {k j : Nat} {x : Str} {sp : Sp} {W : WX} {p pos : Pos} {e : Expr} {es : List Expr} {t : TA} (c : CalX X.prog X.w X.K X.mg X.base k x sp) (hr : Room j X.A) (hk : k ≤ j) (pa : ∀ σ, PassesAt (L2.CX X.prog X.w) X σ (WE W σ)) (hg : Gl X x) (ha : PA X (e :: es) t)
    (hdb : (x == ("__debug__" : Str)) = false := by decide) (he : starEach (e :: es) X.env = (false, eval e X.env) :: starEach es X.env := by rfl) (hpl : (backTo pos (starEach es X.env)).any (·.1) = false := by rfl) :
    PE X (.Call (.Name x p) (e :: es) [] pos) (tCallS sp (WE W) t) := by
  obtain ⟨f, fd, ps, F, hm, kp, b⟩ := c.ex
  exact pe_callS F (hr.mono hk) hg hm kp b pa ha hdb he hpl
theorem core {pins : List (Addr × Obj)} {s : Shared} {σ : L2.St} {H : Hp} {Q : VK} {elt tg iter : Expr} {ifs : List Expr} {scope : Scope} {own : List (Str × Nat)} {pos pos' : Pos} {wi : TI} {g : TG} {tt : TT} {te : TE} {use : Option (Value → Sem Unit)} {Qf : Value → Shared → Prop} {L0 : Addr} {W : WX}
    (hc : X.calm = true) (hN : X.N.Nodup) (I : Inv X pins σ H s) (hi : PI X tg iter wi) (ok : BlkOk X.N X.env.scope scope own) (lets : Lets X L0 W)
    (hg : ∀ s H C cl fp, PG (X.blk s H scope (compEnvC scope cl C X.env) fp) tg g) (ht : ∀ s H C cl fp, PTs (X.blk s H scope (compEnvC scope cl C X.env) fp) ifs tt)
    (he : ∀ s H C cl fp, PE (blkX X L0 W s H scope (compEnvC scope cl C X.env) fp) elt te) (hs : ∀ x, foldedSetIterable iter X.env x = pure x)
    (h : tLc wi g tt te (own.map (·.2)) σ H Q)
    (hRR : ∀ D ce s' m H', Inv X pins σ H' s' → Q (.ref D) H' → s'.heap.Ns ce.locals m → FpOk X pins H' ce.locals → compEnds (model X.prog X.w) X.A X.xe use Qf (.ref D) ce (.ok .next) s') :
    wpAny (model X.prog X.w) X.A (comprehension (.ListComp elt [⟨tg, iter, ifs, 0⟩] scope pos) scope X.env pos' (newList []) false (eval iter X.env) use) Qf X.xe s := by
  have hfree : ∀ y ∈ scope.names, y.2 = .free → ∃ c, X.env.cells.lookup y.1 = some c := fun y hy e => (ok.free y hy e).elim (fun k => I.ok.has _ (.inl k)) fun k => I.ok.has _ (.inr k)
  refine comprehension_at (use := use) rfl hs (closure_ok hfree) ok.kind (fun y hy e => by rw [ok.uniq y hy, e]) (thn (hi.run pins s σ H _ I h) fun xv s1 hx => thn hx fun itv s2 h2 => ?_)
  obtain ⟨it, fp, tn, J, H2, rfl, I2, T, st2, f2, q⟩ := h2
  refine wpAny_newObj_type (newEnv_comp ?_) (by show 0 ≤ sizeLine; decide)
  obtain ⟨D, hD⟩ : ∃ D, D = s2.heap.objs.size := ⟨_, rfl⟩
  obtain ⟨W0, ⟨m0, w0⟩, turn⟩ := q D (I2.hok.fresh (Nat.le_of_eq hD.symm))
  obtain ⟨s3, hs3⟩ : ∃ s3 : Shared, s3 = { s2 with heap := s2.heap.push { cls := .type "list", data := .seq ([] : List Value).toArray } } := ⟨_, rfl⟩
  have h3 : s3.heap = s2.heap.push { cls := .type "list", data := .seq ([] : List Value).toArray } := by rw [hs3]
  have I3 : Inv X pins σ (upd H2 D (.lst [])) s3 := by
    rw [hs3]
    refine I2.laid (t' := s2.toks) (fun b o e => Heap.get?_push_of_some _ e) (Nat.le_of_eq hD.symm) ⟨Nat.zero_le _, [], 0, .nil, ?_⟩
    rw [hD]
    exact Heap.get?_push_size _ rfl
  have sz : ∀ b ∈ fp, b < s2.heap.objs.size := fun b hb => let ⟨o, e, _⟩ := T.obj _ _ st2 b hb; Heap.lt_size e
  have f3 : ∀ b ∈ fp, FpOk X pins (upd H2 D (.lst [])) b ∧ b < s3.heap.objs.size := fun b hb =>
    ⟨⟨by rw [upd_ne (by rw [hD]; exact Nat.ne_of_lt (sz b hb))]; exact (f2 b hb).1, (f2 b hb).2⟩, by rw [h3, Heap.size_push]; exact Nat.lt_succ_of_lt (sz b hb)⟩
  have st3 : tn 0 s3.heap := T.keep _ _ _ st2 fun b _ o e => by rw [h3]; exact Heap.get?_push_of_some _ e
  have I4 := block_start I3 ok hN f3
  obtain ⟨ce, hce⟩ : ∃ ce, ce = compEnvC scope (cellsFrom (s3.heap.objs.size + 1) scope.names (cloFrom X.env.cells scope.names [])) s3.heap.objs.size X.env := ⟨_, rfl⟩
  have pg := hg s3 (upd H2 D (.lst [])) s3.heap.objs.size (cellsFrom (s3.heap.objs.size + 1) scope.names (cloFrom X.env.cells scope.names [])) fp
  have pt := ht s3 (upd H2 D (.lst [])) s3.heap.objs.size (cellsFrom (s3.heap.objs.size + 1) scope.names (cloFrom X.env.cells scope.names [])) fp
  have pe := he s3 (upd H2 D (.lst [])) s3.heap.objs.size (cellsFrom (s3.heap.objs.size + 1) scope.names (cloFrom X.env.cells scope.names [])) fp
  rw [← hce] at I4 pg pt pe
  have cL : ce.locals = s3.heap.objs.size := by rw [hce]; rfl
  have cF : ce.frame = some L0 := by rw [hce]; exact lets.fr
  have nfp : ∀ b ∈ fp, (upd H2 D (.lst [])) b = none := fun b hb => (f3 b hb).1.1
  obtain ⟨H3, hH3⟩ : ∃ H3, H3 = upd H2 D (.lst []) := ⟨_, rfl⟩
  rw [← hH3] at I3 I4 pg pt pe w0 nfp f3
  obtain ⟨s4, hs4⟩ : ∃ s4 : Shared, s4 = { s3 with heap := pushCells (s3.heap.push { cls := .type "dict", data := .dict #[] }) scope.names } := ⟨_, rfl⟩
  rw [← hs4] at I4
  have st4 : tn 0 s4.heap := T.keep _ _ _ st3 fun b _ o e => by rw [hs4]; exact pushCells_keeps _ _ _ _ (Heap.get?_push_of_some _ e)
  have stat : ∀ {σ' : L2.St} {H' : Hp} {s' : Shared}, Inv (X.blk s3 H3 scope ce fp) [] σ' H' s' → (∀ b ∈ fp, H' b = none) → ∀ b ∈ fp, FpOk (X.blk s3 H3 scope ce fp) [] H' b := fun {σ' H' s'} I' hn b hb =>
    ⟨hn b hb, (I'.ok.exf b hb).1, I'.ok.exfs b hb, .inl hb, fun x c e => (I'.ok.exf b hb).2 x c e, fun p hp => absurd (show p ∈ ([] : List (Addr × Obj)) ++ [] from hp) (by simp)⟩
  obtain ⟨top, out, hst, htop⟩ := lets.st
  have goal : codeAny (model X.prog X.w) X.A (.compStart (.ListComp elt [⟨tg, iter, ifs, 0⟩] scope pos) 0 (.ref it) (.ref D) ce) (compEnds (model X.prog X.w) X.A X.xe use Qf (.ref D) ce) s4 := by
    have loop : codeAny (model X.prog X.w) X.A (.compLoop (.ListComp elt [⟨tg, iter, ifs, 0⟩] scope pos) 0 (.ref it) (.ref D) ce) (compEnds (model X.prog X.w) X.A X.xe use Qf (.ref D) ce) s4 := by
      refine compLoop_any (fun n s' => ∃ i H', Inv (X.blk s3 H3 scope ce fp) [] (wipe σ (own.map (·.2))) H' s' ∧ tn i s'.heap ∧ (∀ b ∈ fp, H' b = none) ∧ W0 i n H') ?_ m0 ⟨0, H3, I4, st4, nfp, w0⟩
      rintro n s5 ⟨i, H5, I5, st5, n5, w5⟩
      rcases turn i n H5 w5 with ⟨stop, qq⟩ | ⟨go, Nx, hNx, step⟩
      · refine thnF (T.done (X.blk s3 H3 scope ce fp) rfl rfl rfl hc i [] s5 _ H5 (fun _ _ => False) I5 (stat I5 n5) st5 stop) fun r s6 ⟨hr, I6⟩ => ?_
        subst hr
        have I7 : Inv X pins σ H5 s6 := I3.call' (ch := fp) I6.os I6.base I6.hok I6.bare fun b hb => ⟨(f3 b hb).1.2.2.2.1, (f3 b hb).1.2.1, (f3 b hb).1.2.2.2.2.1, (f3 b hb).1.2.2.2.2.2⟩
        have nC : H5 ce.locals = none := I6.free
        obtain ⟨m, hn, _⟩ := I6.loc
        exact hRR D ce s6 m H5 I7 qq hn (I3.fpOk (Nat.le_of_eq cL.symm) nC)
      · refine thnF (T.item (X.blk s3 H3 scope ce fp) rfl rfl rfl hc i [] s5 _ H5 (fun _ _ => False) I5 (stat I5 n5) st5 go) fun r s6 ⟨u, hr, h6⟩ => ?_
        subst hr
        refine thnF h6 fun _ s7 ⟨x, H7, I7, r7, y7, st7, n7⟩ => ?_
        have I7' := I7.pinned (stat I7 n7) (T.obj _ _ st7)
        refine thnF (pg.run _ s7 _ H7 x u _ I7' r7 (step x H7 y7)) fun _ s8 ⟨σ8, H8, I8, hw8, q8⟩ => ?_
        refine thnF (pt.run _ s8 σ8 H8 _ I8 q8) fun b s9 ⟨H9, I9, q9⟩ => ?_
        have fin : ∀ {s' : Shared} {H' : Hp}, Inv (X.blk s3 H3 scope ce fp) ([] ++ pinsAt fp s7.heap) σ8 H' s' → Nx H' → ∃ m, m < n ∧ ∃ i H', Inv (X.blk s3 H3 scope ce fp) [] (wipe σ (own.map (·.2))) H' s' ∧ tn i s'.heap ∧ (∀ b ∈ fp, H' b = none) ∧ W0 i m H' := fun {s' H'} I' nx => by
          obtain ⟨m', hm, w'⟩ := hNx H' nx
          have pin' : ∀ b ∈ fp, ∀ o, s7.heap.get? b = some o → s'.heap.get? b = some o ∧ H' b = none := fun b hb o e =>
            let z := I'.pin (b, o) (List.mem_append_right _ (List.mem_append_right _ (mem_pinsAt hb e)))
            ⟨z.1, z.2.1⟩
          have hl : (wipe σ (own.map (·.2))).length = σ8.length := by rw [← hw8, wipe_length]
          refine ⟨m', hm, i + 1, H', (I'.unpinned (pins := [])).weak hl (fun j v e => ?_), T.keep _ _ _ st7 fun b hb o e => (pin' b hb o e).1, fun b hb => ?_, w'⟩
          · rw [← hw8] at e
            exact (wipe_some e).1
          · obtain ⟨o, e, _⟩ := T.obj _ _ st7 b hb
            exact (pin' b hb o e).2
        cases b with
        | false =>
          simp only [Bool.false_eq_true, if_false] at q9 ⊢
          exact fin I9 q9
        | true =>
          simp only [if_true] at q9 ⊢
          refine wpAny_mono (pe.run _ s9 σ8 H9 _ (I9.wish _) q9) (fun z s10 ⟨yv, H10, I10, r10, acc, hD10, hz10, nx⟩ => ?_) fun e s' x => fails I3 f3 cL cF hst htop lets.tk (fun c d σ' H' w => lets.ig c d σ' σ H' w) x
          exact app_ok (X := X.blk s3 H3 scope ce fp) I10.unwish hD10 hz10 r10 fun s11 I11 => fin I11 nx
    exact codeAny_compStart_list loop (T.self X.A 0 _ _ _ st4 loop)
  subst hs4 hce hs3 hD
  exact goal
/-- as a value -/
theorem pe_lcx {elt tg iter : Expr} {ifs : List Expr} {scope : Scope} {own : List (Str × Nat)} {pos : Pos} {wi : TI} {g : TG} {tt : TT} {te : TE} {L0 : Addr} {W : WX} (lets : Lets X L0 W) (hc : X.calm = true) (hN : X.N.Nodup) (hi : PI X tg iter wi) (ok : BlkOk X.N X.env.scope scope own)
    (hg : ∀ s H C cl fp, PG (X.blk s H scope (compEnvC scope cl C X.env) fp) tg g) (ht : ∀ s H C cl fp, PTs (X.blk s H scope (compEnvC scope cl C X.env) fp) ifs tt)
    (he : ∀ s H C cl fp, PE (blkX X L0 W s H scope (compEnvC scope cl C X.env) fp) elt te) (hs : ∀ x, foldedSetIterable iter X.env x = pure x := by intro _; rfl) :
    PE X (.ListComp elt [⟨tg, iter, ifs, 0⟩] scope pos) (tLc wi g tt te (own.map (·.2))) := by
  refine ⟨fun pins s σ H Q I h => ?_⟩
  rw [eval_ListComp]
  refine core hc hN I hi ok lets hg ht he hs h fun D ce s' m H' I' q hn f => ⟨m, hn, fun h'' sb => ?_⟩
  obtain ⟨f0, f1, f2, f3, f4, f5⟩ := f
  exact ⟨.ref D, H', I'.turned (t' := s'.toks) (fun b o hb e => (sb.2 b hb).trans e) f0 f1 f3 f4 f5, rfl, q⟩
/-- name = [..] on one line, the name a local -/
theorem ps_setLcx {i : Nat} {y : Str} {py : Pos} {elt tg iter : Expr} {ifs : List Expr} {scope : Scope} {own : List (Str × Nat)} {pos spos : Pos} {wi : TI} {g : TG} {tt : TT} {te : TE} {L0 : Addr} {W : WX} (lets : Lets X L0 W) (hc : X.calm = true) (hN : X.N.Nodup) (hy : X.N[i]? = some y) (hyl : X.env.scope.names.lookup y = some .local)
    (hsw : swapsWith (.ListComp elt [⟨tg, iter, ifs, 0⟩] scope pos) (some (.Name y py)) spos.line X.env = pure true) (hi : PI X tg iter wi) (ok : BlkOk X.N X.env.scope scope own)
    (hg : ∀ s H C cl fp, PG (X.blk s H scope (compEnvC scope cl C X.env) fp) tg g) (ht : ∀ s H C cl fp, PTs (X.blk s H scope (compEnvC scope cl C X.env) fp) ifs tt)
    (he : ∀ s H C cl fp, PE (blkX X L0 W s H scope (compEnvC scope cl C X.env) fp) elt te) (hs : ∀ x, foldedSetIterable iter X.env x = pure x := by intro _; rfl) :
    PS X (.Assign [.Name y py] (.ListComp elt [⟨tg, iter, ifs, 0⟩] scope pos) spos) (tAsg (tLc wi g tt te (own.map (·.2))) (gName i)) := by
  refine ⟨fun pins s σ H D I h => ?_⟩
  rw [exec_Assign_Name_used _ _ _ _ hsw]
  refine wpAny_bind (wpAny_standAt (wpAny_bind ?_))
  show wpAny _ X.A (do let _ ← comprehension (.ListComp elt [⟨tg, iter, ifs, 0⟩] scope pos) scope X.env (firstIterPos [⟨tg, iter, ifs, 0⟩] pos) (newList []) false (eval iter X.env) (some (assign (.Name y py) X.env))) _ _ s
  have h : tLc wi g tt te (own.map (·.2)) σ H (fun x H1 => gName i x σ H1 D.nx) := h
  refine wpAny_bind (thn (core (Qf := fun _ s' => SP X pins D .next s') hc hN I hi ok lets hg ht he hs h fun L ce s' m H' I' q hn f => ?_) fun _ s' hq => wpAny_pure (wpAny_pure hq))
  show wpAny _ _ (assign (.Name y py) X.env (.ref L)) _ _ _
  refine wpAny_assign_Name (store_ok2 (v := V.ref L) I' hN hy (.inl hyl) rfl (fun s2 I2 ⟨a, sb, ha⟩ => ?_) (.inr hyl))
  obtain ⟨f0, f1, f2, f3, f4, f5⟩ := f
  have haC : ce.locals ≠ a := ha.elim (fun z => by rw [z]; exact f1) fun z e => f4 y a z e.symm
  exact ⟨m, hn.sameBut sb haC, fun h3 sb3 => ⟨_, H', I2.turned (t' := s2.toks) (fun b o hb e => (sb3.2 b hb).trans e) f0 f1 f3 f4 f5, q⟩⟩
end
end Lcx
/-! ### defs that let out exceptions of which the context is known (for a suite that raises): own rules -/
namespace Nx
open PySem PySem.Spec PyProof.Rows L2 Bx
/-- a def that may raise, by its name; CX: what is known of the exception -/
structure CalC (CX : CXT) (P : Program) (w : World) (K : PySem.W.Frag) (mg : Str → Option Value) (base : Heap) (k : Nat) (x : Str) (sp : Sp) : Prop where
  ex : ∃ (f : Addr) (fd : FuncData) (ps : List Str), FnOk P w K mg base CX k f fd ps sp ∧ mg x = some (.ref f) ∧ PySem.W.keepIn K (.ref f) = true ∧ Binds K fd ps []
theorem pe_cn {X : Cx} {k j : Nat} {x : Str} {sp : Sp} {W : WX} {p pos : Pos} {e : Expr} {es : List Expr} {t : TA} (c : CalC (L2N.CX X.prog X.w) X.prog X.w X.K X.mg X.base k x sp) (hr : Room j X.A) (hk : k ≤ j) (tk : L2N.Takes X W) (hg : Gl X x) (ha : PA X (e :: es) t)
    (hdb : (x == ("__debug__" : Str)) = false := by decide) (he : starEach (e :: es) X.env = (false, eval e X.env) :: starEach es X.env := by rfl) (hpl : (backTo pos (starEach es X.env)).any (·.1) = false := by rfl) :
    PE X (.Call (.Name x p) (e :: es) [] pos) (tCallS sp (WE W) t) := by
  obtain ⟨f, fd, ps, F, hm, kp, b⟩ := c.ex
  exact pe_callS F (hr.mono hk) hg hm kp b (fun σ => L2N.passAt tk σ) ha hdb he hpl
theorem made {X : Cx} {C : Addr} {x m : Str} {j : Nat} {p p2 pos : Pos} (e : ErrC X.K X.mg x C) (hg : Gl X x) (hd : (x == ("__debug__" : Str)) = false := by decide) : L2N.PMk X (.Call (.Name x p) [.Constant (.str m) j p2] [] pos) (fun _ H Q => Q (.ref C) none H) :=
  L2N.pmk_own PySem.F.excBase_ValueError e.ex e.g e.kp (raises_own e.ec.hs e.ty) hg hd
theorem okN {P : Program} {w : World} {K : PySem.W.Frag} {mg : Str → Option Value} {base : Heap} {x qual : Str} {st : Stmt} {f : Addr} {fd : FuncData} {N ps : List Str} {k : Nat} {sp : Sp} (F : L2.Fun K x qual st f fd) (S : FnScope N ps (defScope st)) (len : ∀ vs H Q E, sp vs H Q E → vs.length = ps.length)
    (hbody : ∀ (cdv : Value) (A : Around) (outer : List Env) (s : Shared) (H : Hp) (vs : List V) (Q : VK) (E : XK), Room k (A.deeper (envOfC qual (defScope st) s.heap.objs.size f cdv)) → sp vs H Q E →
      ∃ t, PSs (cxOf (L2N.CX P w) P w K mg base N qual (defScope st) f cdv A outer s H E) (defBody st) t ∧ t { nx := fun _ H' => Q .non H', rt := Q } (start N vs) H) : FnOk P w K mg base (L2N.CX P w) (k + 1) f fd ps sp := by
  obtain ⟨oc, od, kV, doc, pm, an, cdv, ct, osl, rfl, lk, hcd⟩ := F.ex
  exact fn_of lk hcd S len fun A outer s H vs Q E hr hsp => hbody cdv A outer s H vs Q E hr hsp
/-- a new instance of an own class whose __init__ may raise -/
structure MakN (P : Program) (w : World) (K : PySem.W.Frag) (mg : Str → Option Value) (base : Heap) (k : Nat) (x : Str) (C : Addr) (sp : Sp) : Prop where
  ex : ∃ (f : Addr) (fd : FuncData) (ps : List Str), Mk K C f ∧ FnOk P w K mg base (L2N.CX P w) k f fd ps sp ∧ mg x = some (.ref C) ∧ Binds K fd ps []
theorem made_c {X : Cx} {CX : CXT} {k : Nat} {f C : Addr} {fd : FuncData} {ps : List Str} {sp : Sp} {E : XK} {pins : List (Addr × Obj)} {σ : L2.St} {H : Hp} {u : Shared} {Q : VK} {us : List Value} {vs : List V} (M : Mk X.K C f) (F : FnOk X.prog X.w X.K X.mg X.base CX k f fd ps sp) (hr : Room (k + 1) X.A) (hb : Binds X.K fd ps [])
    (hx : PassesAt CX X σ E) (I : Inv X pins σ H u) (r : Vals vs us)
    (h : ∀ x dx, H x = none → H dx = none → dx ≠ x → sp (.ref x :: vs) (upd (upd H dx (.own x)) x (.ins C dx [])) (fun v H2 => v = .non ∧ Q (.ref x) H2) E) :
    wpAny (model X.prog X.w) X.A (call (.ref C) us) (EP X pins σ Q) X.xe u := by
  have q0 := h (u.heap.objs.size + 1) u.heap.objs.size (I.hok.fresh (Nat.le_succ _)) (I.hok.fresh (Nat.le_refl _)) (Nat.ne_of_lt (Nat.lt_succ_self _))
  have J := Inv.made (C := C) I
  have r2 : Vals (V.ref (u.heap.objs.size + 1) :: vs) (Value.ref (u.heap.objs.size + 1) :: us) := .cons rfl r
  have hl : (Value.ref (u.heap.objs.size + 1) :: us ++ []).length = ps.length := by
    have e := r2.length
    rw [F.len _ _ _ _ q0] at e
    rw [List.append_nil]
    exact e.symm
  refine wpAny_call (make_map (f := f) I.kIn M.makes M.init (beq_iff_eq.mp M.fn) (codeAny_mono (F.run _ X.stack _ _ ⟨Value.ref (u.heap.objs.size + 1) :: us, []⟩ (Value.ref (u.heap.objs.size + 1) :: us) _ _ E (hr.make C us [])
    (J.env0.make C us []) (by have q := hb _ (Value.ref (u.heap.objs.size + 1) :: us) J.kIn hl; rw [List.append_nil] at q; exact q) r2 q0) fun r u' hq => ?_))
  cases r with
  | error e => exact hx pins _ _ e u' J hq
  | ok fl =>
    cases fl with
    | ret v =>
      obtain ⟨y, G, J3, ry, ey, qy⟩ := J.after hq
      subst ey
      exact ⟨ry, ⟨V.ref (u.heap.objs.size + 1), G, J3, rfl, qy⟩⟩
    | next => exact False.elim hq
    | brk => exact False.elim hq
    | cont => exact False.elim hq
theorem pe_makn {X : Cx} {k j : Nat} {C : Addr} {x : Str} {sp : Sp} {W : WX} {p pos : Pos} {e : Expr} {es : List Expr} {t : TA} (c : MakN X.prog X.w X.K X.mg X.base k x C sp) (hr : Room j X.A) (hk : k + 1 ≤ j) (tk : L2N.Takes X W) (hg : Gl X x) (ha : PA X (e :: es) t)
    (hdb : (x == ("__debug__" : Str)) = false := by decide) (he : starEach (e :: es) X.env = (false, eval e X.env) :: starEach es X.env := by rfl) (hpl : (backTo pos (starEach es X.env)).any (·.1) = false := by rfl) :
    PE X (.Call (.Name x p) (e :: es) [] pos) (tMakX C sp (WE W) t) := by
  obtain ⟨f, fd, ps, M, F, hm, b⟩ := c.ex
  refine ⟨fun pins u σ H Q I hw => ?_⟩
  refine wpAny_Call_Name_kw (ld_glob I hg hm ?_ hdb)
  refine PySem.W.callWith_K (h₀ := X.base) I.ok.mod.kin M.kp (thn (ha.run pos pins u σ H _ I hw) fun us u1 ⟨vs, H1, I1, rv, qv⟩ => ⟨I1.kIn, ?_⟩) he hpl
  exact made_c M F (hr.mono hk) b (L2N.passAt tk σ) I1 rv qv
/-- X('m') in a suite, for «from None» -/
theorem made5 {X : Cx} {C : Addr} {x m : Str} {j : Nat} {p p2 pos : Pos} (e : ErrC X.K X.mg x C) (hg : Gl X x) (hdb : (x == ("__debug__" : Str)) = false := by decide) : L2H.PMk5 X (.Call (.Name x p) [.Constant (.str m) j p2] [] pos) (fun _ H Q => Q (.ref C) none H) := by
  intro pins s σ H Q I h
  have hargs : PA X [.Constant (.str m) j p2] (tCons (tC (.str m)) tNil) := pa_cons pe_str pa_nil
  refine wpAny_Call_Name_kw (ld_glob I hg e.g ?_ hdb)
  refine PySem.W.callWith_K (h₀ := X.base) I.ok.mod.kin e.kp (thn (hargs.run pos pins s σ H (fun vs H1 => vs = [V.str m] ∧ H = H1) I ⟨rfl, rfl⟩) fun us s1 ⟨vs, H1, I1, r1, ev, eH⟩ => ?_)
  subst ev
  rw [← eH] at I1
  refine ⟨I1.kIn, ?_⟩
  cases r1 with
  | cons ru rn =>
    cases rn
    show wpAny _ _ (call (.ref C) [_]) _ _ _
    obtain ⟨bm, N, nm, qn, bs, hdct, sn, sub, ab, col, dd, k0, k1, k2, k3, k5, mN, hC, hN, hni, T⟩ := exc_obj I1.kIn e.ex
    refine wpAny_call_exc_subT PySem.F.excBase_ValueError T hC hN hni (fun h' e' hm => ?_) (by show 1 ≤ sizeLine; rw [sizeLine_eq]; omega)
    exact L2H.mk_of5 I1 hm (raises_own e.ec.hs e.ty) h (I1.hok.gone hm.new)
end Nx
namespace Ieq
open PySem PySem.Spec PyProof.Rows PySem.SeqAt
section
variable {M : Model} {prog : Program} {w : World} {A : Around} {E : Value → Shared → Prop} {s : Shared} {K : PySem.W.Frag} {x C dx : Addr} {i : Int} {t : Tok} {od : Option Obj}
theorem same_int : isSame (.ref x) (.int i t) = pure false := rfl
theorem obj_int {Q : Fin → Shared → Prop} (q : Q (.done (.ret .notImplemented)) s) : wpAny M A (Builtin.«object.__eq__» ⟨[.ref x, .int i t], []⟩) Q E s := by
  unfold Builtin.«object.__eq__»
  repeat (first | (with_reducible refine wpAny_of_eq same_int ?_) | wp_step)
  exact q
theorem int_ins (hx : s.heap.get? x = some (PySem.W.instObj C dx)) {Q : Fin → Shared → Prop} (q : Q (.done (.ret .notImplemented)) s) : wpAny M A (Builtin.«int.__eq__» ⟨[.int i t, .ref x], []⟩) Q E s := by
  obtain ⟨h, g, d, k, o⟩ := s
  wp_walk using wpAny_loadPart' hx
  exact q
theorem sub_int : PySem.W.subIn K (.type "int") (.ref C) = some false := by
  have e : fastBuiltinMro "int" = some [.type "int", .type "object"] := by decide +kernel
  show ((fastBuiltinMro "int").map fun l => l.contains (.ref C)) = some false
  rw [e]
  first
    | rfl
    | simp
theorem first_int (X : K.In s.heap) (I : PySem.W.InstAt s.heap x (PySem.W.instObj C dx) C od) (hm : PySem.W.mroIn K C (.type "object") = some true) (hs : PySem.W.findIn K (.ref C) "__eq__" = some (some (.builtin "object.__eq__"))) {Q : Option Value → Shared → Prop} (q : Q none s) : wpAny (model prog w) A (tryCompare (.ref x) "__eq__" (.int i t)) Q E s := by
  unfold tryCompare
  refine wpAny_bind (HN.ifBound_objEq X I hs (wpAny_call (codeAny_call_builtin F.cmp_object.eq.plain F.cmpEntry_eq (PySem.W.check_slot F.cmpKind_eq F.cmpSplit_eq (I.type.andThen (PySem.W.looks_mroIn X hm)) (F.cmpArgs_eq _ _) (obj_int ?_)))))
  exact wpAny_pure q
theorem second_int (hx : s.heap.get? x = some (PySem.W.instObj C dx)) {Q : Option Value → Shared → Prop} (q : Q none s) : wpAny (model prog w) A (tryCompare (.int i t) "__eq__" (.ref x)) Q E s :=
  wpAny_tryCompare_declines (typeIs_int s i t) F.slot_int_eq_refl (wpAny_call (codeAny_call_builtin F.slot_int_eq_refl.plain F.entry_int_eq (F.slot_int_eq_refl.check _ _ _ _ _ _ _ _ (typeIs_int s i t) (F.args_int_eq_2 _ _) (int_ins hx ⟨rfl, q⟩))))
theorem rc_int (hu : A.units < cLine) (X : K.In s.heap) (I : PySem.W.InstAt s.heap x (PySem.W.instObj C dx) C od) (hm : PySem.W.mroIn K C (.type "object") = some true) (hs : PySem.W.findIn K (.ref C) "__eq__" = some (some (.builtin "object.__eq__"))) {Q : Value → Shared → Prop} (q : Q (.bool false) s) : wpAny (model prog w) A (richCompare .Eq (.ref x) (.int i t)) Q E s := by
  simp only [richCompare, cmpInfo_Eq, oneThing_ref]
  apply wpAny_holding
  apply wpAny_bind
  apply wpAny_cRoomFor hu
  apply wpAny_bind
  apply I.type.here
  apply wpAny_bind
  refine wpAny_typeOf (typeIs_int s i t) ?_
  split
  · refine wpAny_bind (m := isSubtype (.type "int") (.ref C)) ((PySem.W.looks_subIn X sub_int).here ?_)
    simp only [Bool.false_eq_true, Bool.not_false, if_true, if_false]
    refine wpAny_bind (m := tryCompare (.ref x) _ (.int i t)) (first_int X I hm hs ?_)
    refine wpAny_bind (m := tryCompare (.int i t) _ (.ref x)) (second_int I.at_ ?_)
    refine wpAny_bind (wpAny_rule ?_)
    exact wpAny_bind (wpAny_of_eq same_int (wpAny_pure q))
  · rename_i z
    exact absurd (by simp) z
end
section
open L2
variable {X : Cx}
/-- an instance without an own == against a number -/
def rInt (K : PySem.W.Frag) : R2 := fun x y H Q => ∃ (a C dx : Addr) (fs : List (Str × V)) (i : Int), x = .ref a ∧ y = .int i ∧ H a = some (.ins C dx fs) ∧ PySem.W.mroIn K C (.type "object") = some true ∧ PySem.W.findIn K (.ref C) "__eq__" = some (some (.builtin "object.__eq__")) ∧ Q (.bl false) H
theorem op_insInt {K : PySem.W.Frag} (hK : X.K = K) (hu : X.A.units < cLine) : OpR X (compareOp .Eq) (rInt K) := by
  subst hK
  intro pins s σ H x y v u Q I rx ry h
  obtain ⟨a, C, dx, fs, i, rfl, rfl, ha, hm, hs, q⟩ := h
  cases rx
  obtain ⟨t, rfl⟩ := ry
  obtain ⟨mA, O, _⟩ := ins_get I.hok ha
  obtain ⟨od, J, _⟩ := O.look
  exact rc_int hu I.kIn J hm hs ⟨.bl false, H, I, rfl, q⟩
end
end Ieq
local macro_rules | `(tactic| walk_at "hl") => `(tactic| first | assumption | exact L2.upd_same | (refine Bx.sat (by assumption) ?_; walk_at "hl"))
local macro_rules | `(tactic| walk_at "bx") => `(tactic| repeat (first
  | refine ⟨_, rfl, ?_⟩
  | refine ⟨_, _, rfl, rfl, ?_⟩
  | refine ⟨rfl, ?_⟩
  | refine Or.inl ⟨_, rfl, ?_⟩
  | refine ⟨Or.inr ⟨by decide, by decide⟩, ?_⟩
  | refine ⟨Or.inl ⟨by decide, by decide⟩, ?_⟩
  | refine ⟨(show (0 : Int) < _ by decide), ?_⟩
  | refine ⟨⟨by decide, by decide⟩, ?_⟩
  | refine ⟨_, _, rfl, Or.inl (L2.SqL.of (by walk_at "hl")), ?_⟩
  | refine ⟨_, _, rfl, Or.inr (L2.SqT.of (by walk_at "hl")), ?_⟩
  | refine ⟨Or.inl ⟨rfl, _, L2.SqL.of (by walk_at "hl")⟩, ?_⟩
  | refine ⟨_, _, _, rfl, rfl, (by walk_at "hl"), ?_⟩
  | refine ⟨_, _, rfl, rfl, (by walk_at "hl"), ?_⟩
  | refine ⟨_, _, _, _, rfl, rfl, L2.SqT.of (by walk_at "hl"), (by walk_at "hl"), ?_⟩
  | refine ⟨_, _, _, _, rfl, rfl, L2.SqL.of (by walk_at "hl"), (by walk_at "hl"), ?_⟩
  | refine ⟨_, _, rfl, Bx.SeqI.sq (by walk_at "hl"), ?_⟩
  | refine And.intro (by walk_at "hl") ?_))
local macro_rules | `(tactic| walk_at "nl") => `(tactic| ((try unfold L2.tNil); (try unfold L2.tNoPart)))

namespace My
open PySem PySem.Spec PyProof.Rows L2 Bx TL
def topS (i : Nat) : Stmt := PySem.Challenge.pw_reactivesynth_k44_machine_text_refused.main.body.getD i (.Pass ⟨0, 0, 0, 0⟩)
abbrev s_check_rows : Stmt := topS 9
abbrev N_check_rows : List Str := ["rows", "inputs", "row", "target", "_"]
theorem sc_check_rows : FnScope N_check_rows ["rows", "inputs"] (defScope s_check_rows) := ⟨rfl, rfl, rfl, by decide +kernel, rfl, by decide +kernel, by decide +kernel⟩
abbrev s_check_said : Stmt := topS 10
abbrev N_check_said : List Str := ["letters", "outputs", "letter"]
theorem sc_check_said : FnScope N_check_said ["letters", "outputs"] (defScope s_check_said) := ⟨rfl, rfl, rfl, by decide +kernel, rfl, by decide +kernel, by decide +kernel⟩
abbrev s_run : Stmt := topS 11
abbrev N_run : List Str := ["machine", "state", "heard", "emitted", "letter", "said"]
theorem sc_run : FnScope N_run ["machine", "state", "heard"] (defScope s_run) := ⟨rfl, rfl, rfl, by decide +kernel, rfl, by decide +kernel, by decide +kernel⟩
abbrev s_natural : Stmt := topS 14
abbrev N_natural : List Str := ["text", "number", "character"]
theorem sc_natural : FnScope N_natural ["text"] (defScope s_natural) := ⟨rfl, rfl, rfl, by decide +kernel, rfl, by decide +kernel, by decide +kernel⟩
abbrev s_whole : Stmt := topS 15
abbrev N_whole : List Str := ["text", "size"]
theorem sc_whole : FnScope N_whole ["text"] (defScope s_whole) := ⟨rfl, rfl, rfl, by decide +kernel, rfl, by decide +kernel, by decide +kernel⟩
abbrev s_parse_machine : Stmt := topS 17
abbrev N_parse_machine : List Str := ["text", "lines", "inputs", "outputs", "lead", "opening", "rows", "line", "piece"]
theorem sc_parse_machine : FnScope N_parse_machine ["text"] (defScope s_parse_machine) := ⟨rfl, rfl, rfl, by decide +kernel, rfl, by decide +kernel, by decide +kernel⟩
abbrev s_read_sizes : Stmt := topS 18
abbrev N_read_sizes : List Str := ["line", "pieces"]
theorem sc_read_sizes : FnScope N_read_sizes ["line"] (defScope s_read_sizes) := ⟨rfl, rfl, rfl, by decide +kernel, rfl, by decide +kernel, by decide +kernel⟩
abbrev s_read_opening : Stmt := topS 19
abbrev N_read_opening : List Str := ["line", "pieces", "piece"]
theorem sc_read_opening : FnScope N_read_opening ["line"] (defScope s_read_opening) := ⟨rfl, rfl, rfl, by decide +kernel, rfl, by decide +kernel, by decide +kernel⟩
abbrev s_read_move : Stmt := topS 20
abbrev N_read_move : List Str := ["piece", "parts"]
theorem sc_read_move : FnScope N_read_move ["piece"] (defScope s_read_move) := ⟨rfl, rfl, rfl, by decide +kernel, rfl, by decide +kernel, by decide +kernel⟩
abbrev s_read_natural : Stmt := topS 21
abbrev N_read_natural : List Str := ["text"]
theorem sc_read_natural : FnScope N_read_natural ["text"] (defScope s_read_natural) := ⟨rfl, rfl, rfl, by decide +kernel, rfl, by decide +kernel, by decide +kernel⟩
abbrev s_checked : Stmt := topS 22
abbrev N_checked : List Str := ["number"]
theorem sc_checked : FnScope N_checked ["number"] (defScope s_checked) := ⟨rfl, rfl, rfl, by decide +kernel, rfl, by decide +kernel, by decide +kernel⟩
abbrev s_law_draws : Stmt := topS 24
abbrev N_law_draws : List Str := ["script", "count", "cells", "found", "mixed", "k", "j", "cell", "again"]
theorem sc_law_draws : FnScope N_law_draws ["script", "count"] (defScope s_law_draws) := ⟨rfl, rfl, rfl, by decide +kernel, rfl, by decide +kernel, by decide +kernel⟩
abbrev s_law_take : Stmt := topS 25
abbrev N_law_take : List Str := ["draws", "limit"]
theorem sc_law_take : FnScope N_law_take ["draws", "limit"] (defScope s_law_take) := ⟨rfl, rfl, rfl, by decide +kernel, rfl, by decide +kernel, by decide +kernel⟩
abbrev s_law_is_integer : Stmt := topS 26
abbrev N_law_is_integer : List Str := ["actual"]
theorem sc_law_is_integer : FnScope N_law_is_integer ["actual"] (defScope s_law_is_integer) := ⟨rfl, rfl, rfl, by decide +kernel, rfl, by decide +kernel, by decide +kernel⟩
abbrev s_law_integers : Stmt := topS 27
abbrev N_law_integers : List Str := ["actual", "low", "high", "item"]
theorem sc_law_integers : FnScope N_law_integers ["actual", "low", "high"] (defScope s_law_integers) := ⟨rfl, rfl, rfl, by decide +kernel, rfl, by decide +kernel, by decide +kernel⟩
abbrev s_law_machine : Stmt := topS 28
abbrev N_law_machine : List Str := ["draws", "inputs", "outputs", "lead", "most", "count", "opening", "rows", "state", "row", "letter", "target", "k"]
theorem sc_law_machine : FnScope N_law_machine ["draws", "inputs", "outputs", "lead", "most"] (defScope s_law_machine) := ⟨rfl, rfl, rfl, by decide +kernel, rfl, by decide +kernel, by decide +kernel⟩
abbrev s_law_is_machine : Stmt := topS 29
abbrev N_law_is_machine : List Str := ["actual", "inputs", "outputs", "lead", "number", "row", "pair"]
theorem sc_law_is_machine : FnScope N_law_is_machine ["actual", "inputs", "outputs", "lead"] (defScope s_law_is_machine) := ⟨rfl, rfl, rfl, by decide +kernel, rfl, by decide +kernel, by decide +kernel⟩
abbrev s_law_machine_text : Stmt := topS 30
abbrev N_law_machine_text : List Str := ["inputs", "outputs", "lead", "opening", "rows", "text", "row", "letter", "pair"]
theorem sc_law_machine_text : FnScope N_law_machine_text ["inputs", "outputs", "lead", "opening", "rows"] (defScope s_law_machine_text) := ⟨rfl, rfl, rfl, by decide +kernel, rfl, by decide +kernel, by decide +kernel⟩
abbrev s_law_outcome : Stmt := topS 31
abbrev N_law_outcome : List Str := ["text", "e"]
theorem sc_law_outcome : FnScope N_law_outcome ["text"] (defScope s_law_outcome) := ⟨rfl, rfl, rfl, by decide +kernel, rfl, by decide +kernel, by decide +kernel⟩
abbrev s_law_number : Stmt := topS 32
abbrev N_law_number : List Str := ["word", "char"]
theorem sc_law_number : FnScope N_law_number ["word"] (defScope s_law_number) := ⟨rfl, rfl, rfl, by decide +kernel, rfl, by decide +kernel, by decide +kernel⟩
abbrev s_law_lead : Stmt := topS 33
abbrev N_law_lead : List Str := ["word"]
theorem sc_law_lead : FnScope N_law_lead ["word"] (defScope s_law_lead) := ⟨rfl, rfl, rfl, by decide +kernel, rfl, by decide +kernel, by decide +kernel⟩
abbrev s_law_pairs : Stmt := topS 34
abbrev N_law_pairs : List Str := ["line", "found", "word", "numbers"]
theorem sc_law_pairs : FnScope N_law_pairs ["line"] (defScope s_law_pairs) := ⟨rfl, rfl, rfl, by decide +kernel, rfl, by decide +kernel, by decide +kernel⟩
abbrev s_law_read : Stmt := topS 35
abbrev N_law_read : List Str := ["text", "lines", "first", "second", "inputs", "outputs", "lead", "opening", "letter", "rows", "row", "pair", "word", "line"]
theorem sc_law_read : FnScope N_law_read ["text"] (defScope s_law_read) := ⟨rfl, rfl, rfl, by decide +kernel, rfl, by decide +kernel, by decide +kernel⟩
abbrev s_law_change : Stmt := topS 36
abbrev N_law_change : List Str := ["draws", "text", "kind", "at", "chars", "sign", "lines", "k"]
theorem sc_law_change : FnScope N_law_change ["draws", "text"] (defScope s_law_change) := ⟨rfl, rfl, rfl, by decide +kernel, rfl, by decide +kernel, by decide +kernel⟩
abbrev s_law : Stmt := topS 37
abbrev N_law : List Str := ["script", "draws", "inputs", "outputs", "lead", "opening", "rows", "text", "k", "expected", "found", "row"]
theorem sc_law : FnScope N_law ["script"] (defScope s_law) := ⟨rfl, rfl, rfl, by decide +kernel, rfl, by decide +kernel, by decide +kernel⟩
abbrev s_Machine_init : Stmt := inClass (topS 8) 0
abbrev N_Machine_init : List Str := ["self", "inputs", "outputs", "lead", "opening", "rows", "row", "_", "letter", "target"]
theorem sc_Machine_init : FnScope N_Machine_init ["self", "inputs", "outputs", "lead", "opening", "rows"] (defScope s_Machine_init) := ⟨rfl, rfl, rfl, by decide +kernel, rfl, by decide +kernel, by decide +kernel⟩
abbrev s_Machine_call : Stmt := inClass (topS 8) 1
abbrev N_Machine_call : List Str := ["self", "heard", "letter", "said", "_", "emitted"]
theorem sc_Machine_call : FnScope N_Machine_call ["self", "heard"] (defScope s_Machine_call) := ⟨rfl, rfl, rfl, by decide +kernel, rfl, by decide +kernel, by decide +kernel⟩
structure Has (K : PySem.W.Frag) (mg : Str → Option Value) (x : Str) (st : Stmt) (ps : List Str) : Prop where
  ex : ∃ (f : Addr) (fd : FuncData), L2.Fun K x x st f fd ∧ mg x = some (.ref f) ∧ Binds K fd ps []
structure Txt (K : PySem.W.Frag) (mg : Str → Option Value) : Prop where
  h_check_rows : Has K mg "check_rows" s_check_rows ["rows", "inputs"]
  h_check_said : Has K mg "check_said" s_check_said ["letters", "outputs"]
  h_run : Has K mg "run" s_run ["machine", "state", "heard"]
  h_natural : Has K mg "natural" s_natural ["text"]
  h_whole : Has K mg "whole" s_whole ["text"]
  h_parse_machine : Has K mg "parse_machine" s_parse_machine ["text"]
  h_read_sizes : Has K mg "read_sizes" s_read_sizes ["line"]
  h_read_opening : Has K mg "read_opening" s_read_opening ["line"]
  h_read_move : Has K mg "read_move" s_read_move ["piece"]
  h_read_natural : Has K mg "read_natural" s_read_natural ["text"]
  h_checked : Has K mg "checked" s_checked ["number"]
  h_law_draws : Has K mg "_law_draws" s_law_draws ["script", "count"]
  h_law_take : Has K mg "_law_take" s_law_take ["draws", "limit"]
  h_law_is_integer : Has K mg "_law_is_integer" s_law_is_integer ["actual"]
  h_law_integers : Has K mg "_law_integers" s_law_integers ["actual", "low", "high"]
  h_law_machine : Has K mg "_law_machine" s_law_machine ["draws", "inputs", "outputs", "lead", "most"]
  h_law_is_machine : Has K mg "_law_is_machine" s_law_is_machine ["actual", "inputs", "outputs", "lead"]
  h_law_machine_text : Has K mg "_law_machine_text" s_law_machine_text ["inputs", "outputs", "lead", "opening", "rows"]
  h_law_outcome : Has K mg "_law_outcome" s_law_outcome ["text"]
  h_law_number : Has K mg "_law_number" s_law_number ["word"]
  h_law_lead : Has K mg "_law_lead" s_law_lead ["word"]
  h_law_pairs : Has K mg "_law_pairs" s_law_pairs ["line"]
  h_law_read : Has K mg "_law_read" s_law_read ["text"]
  h_law_change : Has K mg "_law_change" s_law_change ["draws", "text"]
  z_bool : mg "bool" = none
  z_int : mg "int" = none
  z_isinstance : mg "isinstance" = none
  z_len : mg "len" = none
  z_list : mg "list" = none
  z_max : mg "max" = none
  z_range : mg "range" = none
  z_str : mg "str" = none
  z_tuple : mg "tuple" = none
  er : ∃ (cI cL C fI fC : Addr) (fdI fdC : FuncData) (tk1 tk2 tk5 : Tok), ErrC K mg "InvalidMachine" cI ∧ ErrC K mg "InvalidLetter" cL ∧ MchC K C ∧ Mk K C fI ∧ mg "Machine" = some (.ref C) ∧ L2.Fun K "__init__" "Machine.__init__" s_Machine_init fI fdI ∧ Binds K fdI ["self", "inputs", "outputs", "lead", "opening", "rows"] [] ∧ StX.CallO K C fC ∧ L2.Fun K "__call__" "Machine.__call__" s_Machine_call fC fdC ∧ Binds K fdC ["self", "heard"] [] ∧ mg "LEAST_LEAD" = some (.int (-3) tk1) ∧ mg "GREATEST_LEAD" = some (.int 2 tk2) ∧ C8.InsC K C ∧ mg "DIGITS" = some (.str "0123456789" tk5) ∧ (∃ (cM cS : Addr), ErrC K mg "MachineSyntaxError" cM ∧ mg "SynthError" = some (.ref cS) ∧ PySem.W.kitOne K (.ref cM) (.ref cS) = some true ∧ PySem.W.findIn K (.ref C) "__eq__" = some (some (.builtin "object.__eq__")))

-- BODY
def spLaw (K : PySem.W.Frag) : Sp := fun vs H Q _ => ∃ (a : Addr) (ns : List Int), vs = [.ref a] ∧ SqL K H a (ns.map V.int) ∧ ns.length ≤ 63 ∧ ∀ H', Q (.bl true) H'
section
variable {P : Program} {w : World} {K : PySem.W.Frag} {mg : Str → Option Value} {base : Heap}
theorem ints_get {xs : List Int} {j : Nat} {y : V} (h : (xs.map V.int)[j]? = some y) : ∃ t, xs[j]? = some t ∧ y = V.int t := by
  rw [List.getElem?_map] at h
  cases e : xs[j]? with
  | none => rw [e] at h; cases h
  | some t => rw [e] at h; exact ⟨t, rfl, (Option.some.inj h).symm⟩
theorem snoc_get {α : Type} {xs : List α} {x y : α} {j : Nat} (h : (xs ++ [x])[j]? = some y) : (j < xs.length ∧ xs[j]? = some y) ∨ (j = xs.length ∧ y = x) := by
  rcases Nat.lt_or_ge j xs.length with c | c
  · rw [List.getElem?_append_left c] at h
    exact .inl ⟨c, h⟩
  · rw [List.getElem?_append_right c] at h
    have e : j - xs.length = 0 := by
      cases e : j - xs.length with
      | zero => rfl
      | succ m => rw [e] at h; cases h
    rw [e] at h
    cases h
    exact .inr ⟨by omega, rfl⟩
theorem ite_f {c : Bool} {A B : Prop} (h : c = false) (q : B) : if c = true then A else B := by
  rw [if_neg (by rw [h]; exact Bool.false_ne_true)]
  exact q
theorem ite_t {c : Bool} {A B : Prop} (h : c = true) (q : A) : if c = true then A else B := by
  rw [if_pos h]
  exact q
def CR (I : Int) (c : List (List (Int × Int))) : Prop := (∀ r ∈ c, (r.length : Int) = I) ∧ ∀ r ∈ c, ∀ p ∈ r, 0 ≤ p.1 ∧ p.1 < (c.length : Int)
def spChkRows (cI : Addr) : Sp := fun vs H Q E => ∃ (r : Addr) (as : List Addr) (c : List (List (Int × Int))) (I : Int), vs = [.ref r, .int I] ∧ LPr H r as c ∧ (¬ CR I c → E (.ref cI) none H) ∧ (CR I c → Q .non H)
theorem cal_chkrows {cI : Addr} (T : Txt K mg) (eI : ErrC K mg "InvalidMachine" cI) : Nx.CalC (L2N.CX P w) P w K mg base 1 "check_rows" (spChkRows cI) := by
  obtain ⟨f, fd, F, hm, hb⟩ := T.h_check_rows
  refine ⟨f, fd, _, Nx.okN F sc_check_rows (fun vs H Q E h => ?_) (fun cdv A outer s H vs Q E hr h => ?_), hm, F.kp, hb⟩
  · obtain ⟨r, as, c, I, rfl, _⟩ := h
    rfl
  · obtain ⟨r, as, c, I, rfl, ⟨e1, R⟩, q1, q2⟩ := h
    refine ⟨_, (pss_cons
      (ps_for (passes_of rfl) rfl (pi_list (pv 0)) (pg_name (i := 2) sc_check_rows.nd rfl (.inl rfl)) (pss_one
      (ps_if (pt_cmpR op_ne (pe_callB (call_lenK (K := K) rfl) (by rfl) T.z_len PySem.boot_len (pa_cons (pv 2) pa_nil)) (pv 1) (nomark _)) (pss_one
      (L2N.ps_raise rfl (L2N.takes_of rfl rfl rfl rfl) (Nx.made eI rfl))) pss_nil)))
      (pss_one
      (ps_for (passes_of rfl) rfl (pi_list (pv 0)) (pg_name (i := 2) sc_check_rows.nd rfl (.inl rfl)) (pss_one
      (ps_for (passes_of rfl) rfl (pi_list (pv 2)) (pg_tup (by rfl) (pgs_cons (pg_name (i := 3) sc_check_rows.nd rfl (.inl rfl)) (pgs_cons (pg_name (i := 4) sc_check_rows.nd rfl (.inl rfl)) pgs_nil))) (pss_one
      (ps_if (PW.pt (pw_or (pt_cmpR op_lt (pv 3) pe_int (nomark _)) (pw_or1 (pt_cmpR op_ge (pv 3) (pe_callB (call_lenK (K := K) rfl) (by rfl) T.z_len PySem.boot_len (pa_cons (pv 0) pa_nil)) (nomark _))))) (pss_one
      (L2N.ps_raise rfl (L2N.takes_of rfl rfl rfl rfl) (Nx.made eI rfl))) pss_nil))))))), ?_⟩
    have hl2 : (as.map V.ref).length = c.length := by rw [List.length_map, R.len]
    refine ⟨_, rfl, r, rfl, ⟨_, .of e1⟩, for_list (K := K) (a := r) (xs := as.map V.ref) (fun i σ' H' => ∃ v2 v3 v4 : Option V, σ' = [some (.ref r), some (.int I), v2, v3, v4] ∧ H' = H ∧ ∀ q ∈ c.take i, (q.length : Int) = I)
      ⟨_, _, _, rfl, rfl, by simp⟩ (fun i σ' H' _ ⟨_, _, _, _, z, _⟩ => by rw [z]; exact .of e1) ?_ ?_⟩
    · rintro i v σ' H' hi ⟨v2, v3, v4, rfl, rfl, hall⟩
      obtain ⟨a, haa, rfl⟩ := refs_get hi
      obtain ⟨bs, row, hrow, hra, hbl, _⟩ := R.g i a haa
      have hmem := List.mem_of_getElem? hrow
      have hbl2 : (bs.map V.ref).length = row.length := by rw [List.length_map, hbl]
      refine ⟨_, rfl, a, _, rfl, .inl (.of hra), _, rfl, rfl, _, rfl, ite_ne (fun k => ?_) (fun k => ?_)⟩
      · exact q1 fun v => k (by rw [hbl2]; exact v.1 row hmem)
      · rw [hbl2] at k
        refine ⟨_, _, _, rfl, rfl, fun z hz => ?_⟩
        rw [take_get hrow] at hz
        rcases List.mem_append.mp hz with y | y
        · exact hall z y
        · rw [List.mem_singleton.mp y]; exact k
    · rintro σ' H' ⟨v2, v3, v4, rfl, rfl, hall⟩
      rw [hl2, List.take_length] at hall
      refine ⟨_, rfl, r, rfl, ⟨_, .of e1⟩, for_list (K := K) (a := r) (xs := as.map V.ref) (fun i σ' H2 => ∃ v2 v3 v4 : Option V, σ' = [some (.ref r), some (.int I), v2, v3, v4] ∧ H2 = H' ∧ ∀ q ∈ c.take i, ∀ p ∈ q, 0 ≤ p.1 ∧ p.1 < (c.length : Int))
        ⟨_, _, _, rfl, rfl, by simp⟩ (fun i σ' H' _ ⟨_, _, _, _, z, _⟩ => by rw [z]; exact .of e1) ?_ ?_⟩
      · rintro i v σ' H2 hi ⟨v2, v3, v4, rfl, rfl, hall2⟩
        obtain ⟨a, haa, rfl⟩ := refs_get hi
        obtain ⟨bs, row, hrow, hra, hbl, hR⟩ := R.g i a haa
        have hmem := List.mem_of_getElem? hrow
        have hbl2 : (bs.map V.ref).length = row.length := by rw [List.length_map, hbl]
        refine ⟨_, rfl, a, rfl, ⟨_, .of hra⟩, for_list (K := K) (a := a) (xs := bs.map V.ref) (fun j σ' H3 => ∃ v3 v4 : Option V, σ' = [some (.ref r), some (.int I), some (.ref a), v3, v4] ∧ H3 = H2 ∧ ∀ p ∈ row.take j, 0 ≤ p.1 ∧ p.1 < (c.length : Int))
          ⟨_, _, rfl, rfl, by simp⟩ (fun i σ' H' _ ⟨_, _, _, z, _⟩ => by rw [z]; exact .of hra) ?_ ?_⟩
        · rintro j v σ' H3 hj ⟨v3, v4, rfl, rfl, hall3⟩
          obtain ⟨b, hb, rfl⟩ := refs_get hj
          obtain ⟨t, l, he, hbe⟩ := hR j b hb
          refine ⟨b, _, rfl, .of hbe, rfl, _, _, rfl, _, _, rfl, rfl, ?_⟩
          have bad : ¬ (0 ≤ t ∧ t < (c.length : Int)) → E (.ref cI) none H3 := fun k => q1 fun v => k (v.2 row hmem _ (List.mem_of_getElem? he))
          refine ⟨_, rfl, _, _, rfl, rfl, _, rfl, ite2 (fun k => ?_) (fun k => ?_)⟩
          · exact bad (by have := of_decide_eq_true k; omega)
          · have k1 : ¬ t < 0 := fun z => k (decide_eq_true z)
            refine ⟨_, rfl, _, rfl, r, _, rfl, .inl (.of e1), _, _, rfl, rfl, _, rfl, ite2 (fun k => ?_) (fun k => ?_)⟩
            · rw [hl2] at k
              exact bad (by have := of_decide_eq_true k; omega)
            · rw [hl2] at k
              have k2 : ¬ (c.length : Int) ≤ t := fun z => k (decide_eq_true z)
              refine ⟨_, _, rfl, rfl, fun z hz => ?_⟩
              rw [take_get he] at hz
              rcases List.mem_append.mp hz with y | y
              · exact hall3 z y
              · rw [List.mem_singleton.mp y]; exact ⟨by omega, by omega⟩
        · rintro σ' H3 ⟨v3, v4, rfl, rfl, hall3⟩
          rw [hbl2, List.take_length] at hall3
          refine ⟨_, _, _, rfl, rfl, fun z hz => ?_⟩
          rw [take_get hrow] at hz
          rcases List.mem_append.mp hz with y | y
          · exact hall2 z y
          · rw [List.mem_singleton.mp y]; exact hall3
      · rintro σ' H2 ⟨v2, v3, v4, rfl, rfl, hall2⟩
        rw [hl2, List.take_length] at hall2
        exact q2 ⟨hall, hall2⟩
def spChkSaid (cI : Addr) : Sp := fun vs H Q E => ∃ (a : Addr) (xs : List Int) (O : Int), vs = [.ref a, .int O] ∧ H a = some (.lst (xs.map V.int)) ∧ (¬ (∀ z ∈ xs, 0 ≤ z ∧ z < O) → E (.ref cI) none H) ∧ ((∀ z ∈ xs, 0 ≤ z ∧ z < O) → Q .non H)
theorem cal_chksaid {cI : Addr} (T : Txt K mg) (eI : ErrC K mg "InvalidMachine" cI) : Nx.CalC (L2N.CX P w) P w K mg base 1 "check_said" (spChkSaid cI) := by
  obtain ⟨f, fd, F, hm, hb⟩ := T.h_check_said
  refine ⟨f, fd, _, Nx.okN F sc_check_said (fun vs H Q E h => ?_) (fun cdv A outer s H vs Q E hr h => ?_), hm, F.kp, hb⟩
  · obtain ⟨a, xs, O, rfl, _⟩ := h
    rfl
  · obtain ⟨a, xs, O, rfl, e1, q1, q2⟩ := h
    refine ⟨_, (pss_one
      (ps_for (passes_of rfl) rfl (pi_list (pv 0)) (pg_name (i := 2) sc_check_said.nd rfl (.inl rfl)) (pss_one
      (ps_if (PW.pt (pw_or (pt_cmpR op_lt (pv 2) pe_int (nomark _)) (pw_or1 (pt_cmpR op_ge (pv 2) (pv 1) (nomark _))))) (pss_one
      (L2N.ps_raise rfl (L2N.takes_of rfl rfl rfl rfl) (Nx.made eI rfl))) pss_nil)))), ?_⟩
    refine ⟨_, rfl, a, rfl, ⟨_, .of e1⟩, for_list (K := K) (a := a) (xs := xs.map V.int) (fun i σ' H' => ∃ v2 : Option V, σ' = [some (.ref a), some (.int O), v2] ∧ H' = H ∧ ∀ z ∈ xs.take i, 0 ≤ z ∧ z < O)
      ⟨_, rfl, rfl, by simp⟩ (fun i σ' H' _ ⟨_, _, z, _⟩ => by rw [z]; exact .of e1) ?_ ?_⟩
    · rintro i v σ' H' hi ⟨v2, rfl, rfl, hall⟩
      obtain ⟨z, hz, rfl⟩ := ints_get hi
      have hmem := List.mem_of_getElem? hz
      refine ⟨_, rfl, _, _, rfl, rfl, _, rfl, ite2 (fun k => ?_) (fun k => ?_)⟩
      · exact q1 fun v => by have := v z hmem; have := of_decide_eq_true k; omega
      · have k1 : ¬ z < 0 := fun y => k (decide_eq_true y)
        refine ⟨_, rfl, _, rfl, _, _, rfl, rfl, _, rfl, ite2 (fun k => ?_) (fun k => ?_)⟩
        · exact q1 fun v => by have := v z hmem; have := of_decide_eq_true k; omega
        · have k2 : ¬ O ≤ z := fun y => k (decide_eq_true y)
          refine ⟨_, rfl, rfl, fun y hy => ?_⟩
          rw [take_get hz] at hy
          rcases List.mem_append.mp hy with u | u
          · exact hall y u
          · rw [List.mem_singleton.mp u]; exact ⟨by omega, by omega⟩
    · rintro σ' H' ⟨v2, rfl, rfl, hall⟩
      rw [List.length_map, List.take_length] at hall
      exact q2 hall
/-- two clauses: the outer walk over a list -/
theorem lc2_list {a : Addr} {xs : List V} {g g1 : TG} {tt tt1 : TT} {wi1 : TI} {te : TE} {vs vs1 : List Nat} {σ : L2.St} {H1 : Hp} {D : Addr} {Qd : Hp → Prop} (Pv : Nat → Hp → Prop) (h0 : Pv 0 (upd H1 D (.lst []))) (hl : ∀ i H, i ≤ xs.length → Pv i H → SqL K H a xs)
    (hs : ∀ i x H, xs[i]? = some x → Pv i H → g x (wipe σ vs) H fun σ2 H2 => wipe σ2 vs = wipe σ vs ∧ tt σ2 H2 fun b H3 => if b = true then wi1 σ2 H3 fun J1 H4 => ∃ W1 : Nat → Nat → Hp → Prop, (∃ m, W1 0 m H4) ∧ ∀ j k H, W1 j k H →
      (J1.stop j H ∧ Pv (i + 1) H) ∨ (J1.go j H ∧ ∃ Nx1 : Hp → Prop, (∀ H', Nx1 H' → ∃ k', k' < k ∧ W1 (j + 1) k' H') ∧ ∀ x H', J1.yld j H x H' → g1 x (wipe σ2 vs1) H' fun σ3 H5 => wipe σ3 vs1 = wipe σ2 vs1 ∧ tt1 σ3 H5 fun b H6 =>
        if b = true then te σ3 H6 fun y H7 => ∃ acc, H7 D = some (.lst acc) ∧ acc.length < sizeLine ∧ Nx1 (upd H7 D (.lst (acc ++ [y]))) else Nx1 H6) else Pv (i + 1) H3) (hd : ∀ H, Pv xs.length H → Qd H) :
    ∃ W : Nat → Nat → Hp → Prop, (∃ m, W 0 m (upd H1 D (.lst []))) ∧ ∀ i m H, W i m H →
      ((Itl K a).stop i H ∧ Qd H) ∨ ((Itl K a).go i H ∧ ∃ Nx : Hp → Prop, (∀ H', Nx H' → ∃ m', m' < m ∧ W (i + 1) m' H') ∧ ∀ x H', (Itl K a).yld i H x H' → g x (wipe σ vs) H' fun σ2 H2 => wipe σ2 vs = wipe σ vs ∧ tt σ2 H2 fun b H3 =>
        if b = true then wi1 σ2 H3 fun J1 H4 => ∃ W1 : Nat → Nat → Hp → Prop, (∃ m, W1 0 m H4) ∧ ∀ j k H, W1 j k H →
          (J1.stop j H ∧ Nx H) ∨ (J1.go j H ∧ ∃ Nx1 : Hp → Prop, (∀ H', Nx1 H' → ∃ k', k' < k ∧ W1 (j + 1) k' H') ∧ ∀ x H', J1.yld j H x H' → g1 x (wipe σ2 vs1) H' fun σ3 H5 => wipe σ3 vs1 = wipe σ2 vs1 ∧ tt1 σ3 H5 fun b H6 =>
            if b = true then te σ3 H6 fun y H7 => ∃ acc, H7 D = some (.lst acc) ∧ acc.length < sizeLine ∧ Nx1 (upd H7 D (.lst (acc ++ [y]))) else Nx1 H6) else Nx H3) := by
  refine ⟨fun i m H => m = xs.length - i ∧ i ≤ xs.length ∧ Pv i H, ⟨xs.length, by simp, Nat.zero_le _, h0⟩, ?_⟩
  rintro i m H ⟨rfl, hi, p⟩
  have q := hl i H hi p
  rcases Nat.lt_or_ge i xs.length with c | c
  · exact .inr ⟨⟨xs, xs[i], q, List.getElem?_eq_getElem c⟩, Pv (i + 1), fun H' p' => ⟨xs.length - (i + 1), by omega, rfl, c, p'⟩, fun x H' y => by rw [y.1]; exact hs i x H (y.2 xs q) p⟩
  · have e : i = xs.length := Nat.le_antisymm hi c
    rw [e] at p
    exact .inl ⟨⟨xs, q, c⟩, hd H p⟩
/-- .. the inner walk over a list -/
theorem lc2_inL {b : Addr} {ys : List V} {g1 : TG} {tt1 : TT} {te : TE} {vs1 : List Nat} {σ2 : L2.St} {H4 : Hp} {D : Addr} {Nx : Hp → Prop} (Pv : Nat → Hp → Prop) (h0 : Pv 0 H4) (hl : ∀ j H, j ≤ ys.length → Pv j H → SqL K H b ys)
    (hs : ∀ j x H, ys[j]? = some x → Pv j H → g1 x (wipe σ2 vs1) H fun σ3 H5 => wipe σ3 vs1 = wipe σ2 vs1 ∧ tt1 σ3 H5 fun c H6 => if c = true then te σ3 H6 fun y H7 => ∃ acc, H7 D = some (.lst acc) ∧ acc.length < sizeLine ∧ Pv (j + 1) (upd H7 D (.lst (acc ++ [y]))) else Pv (j + 1) H6)
    (hd : ∀ H, Pv ys.length H → Nx H) :
    ∃ W1 : Nat → Nat → Hp → Prop, (∃ m, W1 0 m H4) ∧ ∀ j k H, W1 j k H →
      ((Itl K b).stop j H ∧ Nx H) ∨ ((Itl K b).go j H ∧ ∃ Nx1 : Hp → Prop, (∀ H', Nx1 H' → ∃ k', k' < k ∧ W1 (j + 1) k' H') ∧ ∀ x H', (Itl K b).yld j H x H' → g1 x (wipe σ2 vs1) H' fun σ3 H5 => wipe σ3 vs1 = wipe σ2 vs1 ∧ tt1 σ3 H5 fun c H6 =>
        if c = true then te σ3 H6 fun y H7 => ∃ acc, H7 D = some (.lst acc) ∧ acc.length < sizeLine ∧ Nx1 (upd H7 D (.lst (acc ++ [y]))) else Nx1 H6) := by
  refine ⟨fun j m H => m = ys.length - j ∧ j ≤ ys.length ∧ Pv j H, ⟨ys.length, by simp, Nat.zero_le _, h0⟩, ?_⟩
  rintro j m H ⟨rfl, hj, p⟩
  have q := hl j H hj p
  rcases Nat.lt_or_ge j ys.length with c | c
  · exact .inr ⟨⟨ys, ys[j], q, List.getElem?_eq_getElem c⟩, Pv (j + 1), fun H' p' => ⟨ys.length - (j + 1), by omega, rfl, c, p'⟩, fun x H' y => by rw [y.1]; exact hs j x H (y.2 ys q) p⟩
  · have e : j = ys.length := Nat.le_antisymm hj c
    rw [e] at p
    exact .inl ⟨⟨ys, q, c⟩, hd H p⟩
theorem sq_nx {H : Hp} {x a C dx : Addr} {f : List (Str × V)} {xs : List V} (hx : H x = some (.ins C dx f)) (h : SeqV H a xs) : a ≠ x := fun z => by
  rw [z] at h
  rcases h with h | h
  · rw [hx] at h
    cases h
  · rw [hx] at h
    cases h
theorem tupq {H : Hp} {p : Addr} {ns : List Int} {Q : VK} (h : SeqV H p (ns.map V.int)) (q : ∀ (H' : Hp) (t : Addr), Same H H' → TupI H' t ns → Q (.ref t) H') : rTupOf K [.ref p] H Q := by
  rcases h with h | h
  · exact ⟨p, _, rfl, .inl ⟨.of h, fun l hl => q _ l (same_new hl) upd_same⟩⟩
  · exact ⟨p, _, rfl, .inr ⟨.of h, q H p (Same.refl _) h⟩⟩
theorem RP.kp {mk : List V → HO} {H H' : Hp} {x : Addr} {as : List Addr} {c : List (List (Int × Int))} (hx : ∀ ys, H x ≠ some (mk ys) ∧ H x ≠ some (.tup ys)) (k : Kp x H H') (h : RP mk H as c) : RP mk H' as c := ⟨h.len, fun i a e => by
  obtain ⟨bs, row, h1, h2, h3, h4⟩ := h.g i a e
  refine ⟨bs, row, h1, k _ _ (fun z => (hx _).1 (by rw [← z]; exact h2)) h2, h3, fun j b hb => ?_⟩
  obtain ⟨t, l, h5, h6⟩ := h4 j b hb
  exact ⟨t, l, h5, k _ _ (fun z => (hx _).2 (by rw [← z]; exact h6)) h6⟩⟩
theorem LPr.kp {H H' : Hp} {x r C dx : Addr} {f : List (Str × V)} {as : List Addr} {c : List (List (Int × Int))} (hx : H x = some (.ins C dx f)) (k : Kp x H H') (h : LPr H r as c) : LPr H' r as c :=
  ⟨k _ _ (fun z => by have := h.1; rw [z, hx] at this; cases this) h.1, My.RP.kp (fun ys => ⟨fun z => (by rw [hx] at z; cases z), fun z => by rw [hx] at z; (cases z)⟩) k h.2⟩
theorem RP.snoc {mk : List V → HO} {H : Hp} {as : List Addr} {c : List (List (Int × Int))} {a : Addr} {bs : List Addr} {row : List (Int × Int)} (h : RP mk H as c) (ha : H a = some (mk (bs.map V.ref))) (hl : bs.length = row.length) (hb : ∀ (j : Nat) (b : Addr), bs[j]? = some b → ∃ t l, row[j]? = some (t, l) ∧ H b = some (.tup [.int t, .int l])) : RP mk H (as ++ [a]) (c ++ [row]) := by
  refine ⟨by rw [List.length_append, List.length_append, h.len]; rfl, fun i a' e => ?_⟩
  rcases snoc_get e with ⟨h0, h1⟩ | ⟨h1, h2⟩
  · obtain ⟨bs', row', g1, g2, g3, g4⟩ := h.g i a' h1
    exact ⟨bs', row', by rw [List.getElem?_append_left (by have := h.len; omega)]; exact g1, g2, g3, g4⟩
  · subst h2
    exact ⟨bs, row, by rw [List.getElem?_append_right (by have := h.len; omega), show i - c.length = 0 by have := h.len; omega]; rfl, ha, hl, hb⟩
theorem RP.nil {mk : List V → HO} {H : Hp} : RP mk H [] [] := ⟨rfl, fun i a e => by (cases e)⟩
theorem tup_upd {H : Hp} {D : Addr} {ys : List V} {o : HO} (h : H D = some (.lst ys)) : ∀ (b : Addr) (xs : List V), H b = some (.tup xs) → (upd H D o) b = some (.tup xs) := fun b xs hb => by
  rw [upd_ne (fun z => by rw [z, h] at hb; cases hb)]
  exact hb
def sds (c : List (List (Int × Int))) : List Int := (c.map fun r => r.map fun p => p.2).flatten
theorem sds_snoc (c : List (List (Int × Int))) (r : List (Int × Int)) : sds (c ++ [r]) = sds c ++ r.map fun p => p.2 := by
  unfold sds
  rw [List.map_append, List.flatten_append]
  simp
theorem sds_len : ∀ c : List (List (Int × Int)), (∀ r ∈ c, r.length ≤ 400) → (sds c).length ≤ 400 * c.length
  | [], _ => by simp [sds]
  | r :: rs, h => by
    have e : sds (r :: rs) = (r.map fun p => p.2) ++ sds rs := rfl
    have h1 := h r List.mem_cons_self
    have h2 := sds_len rs fun x hx => h x (List.mem_cons_of_mem _ hx)
    rw [e, List.length_append, List.length_map, List.length_cons]
    omega
theorem sds_mem {c : List (List (Int × Int))} {z : Int} : z ∈ sds c ↔ ∃ r ∈ c, ∃ p ∈ r, p.2 = z := by
  unfold sds
  rw [List.mem_flatten]
  constructor
  · rintro ⟨l, hl, hz⟩
    obtain ⟨r, hr, rfl⟩ := List.mem_map.mp hl
    obtain ⟨p, hp, rfl⟩ := List.mem_map.mp hz
    exact ⟨r, hr, p, hp, rfl⟩
  · rintro ⟨r, hr, p, hp, rfl⟩
    exact ⟨_, List.mem_map.mpr ⟨r, hr, rfl⟩, List.mem_map.mpr ⟨p, hp, rfl⟩⟩
def spInitM (C cI : Addr) : Sp := fun vs H Q E => ∃ (x a r dx : Addr) (I O L : Int) (op : List Int) (as : List Addr) (c : List (List (Int × Int))), vs = [.ref x, .int I, .int O, .int L, .ref a, .ref r] ∧ H x = some (.ins C dx []) ∧ SeqV H a (op.map V.int) ∧ LPr H r as c ∧
  op.length ≤ 1000 ∧ c.length ≤ 400 ∧ (∀ r ∈ c, r.length ≤ 400) ∧ (¬ Vm I O L op c → ∀ H', Same H H' → E (.ref cI) none H') ∧ (Vm I O L op c → ∀ H', Kp x H H' → MchAt C H' x I O L op c → Q .non H')
theorem ok_initM {cI C fI : Addr} {fdI : FuncData} {tk1 tk2 : Tok} (T : Txt K mg) (eI : ErrC K mg "InvalidMachine" cI) (PC : MchC K C) (gLL : mg "LEAST_LEAD" = some (.int (-3) tk1)) (gGL : mg "GREATEST_LEAD" = some (.int 2 tk2)) (F : L2.Fun K "__init__" "Machine.__init__" s_Machine_init fI fdI) :
    FnOk P w K mg base (L2N.CX P w) 2 fI fdI ["self", "inputs", "outputs", "lead", "opening", "rows"] (spInitM C cI) := by
  have X_check_rows : Nx.CalC (L2N.CX P w) P w K mg base 1 "check_rows" (spChkRows cI) := cal_chkrows T eI
  have X_check_said : Nx.CalC (L2N.CX P w) P w K mg base 1 "check_said" (spChkSaid cI) := cal_chksaid T eI
  refine Nx.okN F sc_Machine_init (fun vs H Q E h => ?_) (fun cdv A outer s H vs Q E hr h => ?_)
  · obtain ⟨x, a, r, dx, I, O, L, op, as, c, rfl, _⟩ := h
    rfl
  · obtain ⟨x, a, r, dx, I, O, L, op, as, c, rfl, hx, ha, hL, l0, l1, l2, q1, q2⟩ := h
    refine ⟨_, (pss_cons
      (ps_if (PW.pt (pw_or (pt_cmpR op_lt (pv 1) pe_int (nomark _)) (pw_or1 (pt_cmpR op_lt (pv 2) pe_int (nomark _))))) (pss_one
      (L2N.ps_raise rfl (L2N.takes_of rfl rfl rfl rfl) (Nx.made eI rfl))) pss_nil)
      (pss_cons
      (ps_if (PW.pt (pw_or (pt_cmpR op_lt (pv 3) (pe_glob (v := .int (-3)) (by rfl) gLL ⟨_, rfl⟩) (nomark _)) (pw_or1 (pt_cmpR op_gt (pv 3) (pe_glob (v := .int 2) (by rfl) gGL ⟨_, rfl⟩) (nomark _))))) (pss_one
      (L2N.ps_raise rfl (L2N.takes_of rfl rfl rfl rfl) (Nx.made eI rfl))) pss_nil)
      (pss_cons
      (ps_if (pt_cmpR op_ne (pe_callB (call_lenK (K := K) rfl) (by rfl) T.z_len PySem.boot_len (pa_cons (pv 4) pa_nil)) (pe_callB (call_max2 rfl) (by rfl) T.z_max (by decide +kernel) (pa_cons pe_int (pa_cons (pe_un un_neg (pv 3)) pa_nil))) (nomark _)) (pss_one
      (L2N.ps_raise rfl (L2N.takes_of rfl rfl rfl rfl) (Nx.made eI rfl))) pss_nil)
      (pss_cons
      (ps_if (pt_cmpR op_eq (pe_callB (call_lenK (K := K) rfl) (by rfl) T.z_len PySem.boot_len (pa_cons (pv 5) pa_nil)) pe_int (nomark _)) (pss_one
      (L2N.ps_raise rfl (L2N.takes_of rfl rfl rfl rfl) (Nx.made eI rfl))) pss_nil)
      (pss_cons
      (ps_expr (Nx.pe_cn X_check_rows hr (by decide) (L2N.takes_of rfl rfl rfl rfl) (by rfl) (pa_cons (pv 5) (pa_cons (pv 1) pa_nil))))
      (pss_cons
      (ps_expr (Nx.pe_cn X_check_said hr (by decide) (L2N.takes_of rfl rfl rfl rfl) (by rfl) (pa_cons (pe_op op_cat (pe_callTy (call_list_ofK (K := K) rfl) (by rfl) T.z_list (by decide +kernel) (pa_cons (pv 4) pa_nil)) (pe_lc2 (own := [("row", 6), ("_", 7), ("letter", 8)]) (vs1 := [7, 8]) (g := gName 6) (g1 := gTup K 2 (gCons (gName 7) (gCons (gName 8) gNil))) (tt := tYes) (tt1 := tYes) rfl sc_Machine_init.nd (pi_list (pv 5)) (blkOk_by (N := N_Machine_init) (sc := defScope s_Machine_init) (by decide +kernel)) (by decide) (fun _ _ _ _ _ => (pg_name (i := 6) sc_Machine_init.nd rfl (Or.inl rfl))) (fun _ _ _ _ _ => pts_nil) (fun _ _ _ _ _ => (pi_listK (K := K) rfl (pv 6))) (fun _ _ _ _ _ => (pg_tup (by rfl) (pgs_cons (pg_name (i := 7) sc_Machine_init.nd rfl (Or.inl rfl)) (pgs_cons (pg_name (i := 8) sc_Machine_init.nd rfl (Or.inl rfl)) pgs_nil)))) (fun _ _ _ _ _ => pts_nil) (fun _ _ _ _ _ => (pv 8)))) (pa_cons (pv 2) pa_nil))))
      (pss_cons
      (ps_fld (pv 0) (pv 1) rfl)
      (pss_cons
      (ps_fld (pv 0) (pv 2) rfl)
      (pss_cons
      (ps_fld (pv 0) (pv 3) rfl)
      (pss_cons
      (ps_fld (pv 0) (pe_callTy (call_tuple_ofK (K := K) rfl) (by rfl) T.z_tuple (by decide +kernel) (pa_cons (pv 4) pa_nil)) rfl)
      (pss_one
      (ps_fld (pv 0) (pe_callTy (call_tuple_ofK (K := K) rfl) (by rfl) T.z_tuple (by decide +kernel) (pa_cons (pe_lc (own := [("row", 6)]) (g := gName 6) (tt := tYes) rfl sc_Machine_init.nd (pi_list (pv 5)) (blkOk_by (N := N_Machine_init) (sc := defScope s_Machine_init) (by decide +kernel)) (fun _ _ _ _ _ => (pg_name (i := 6) sc_Machine_init.nd rfl (by first | exact Or.inl rfl | exact Or.inr rfl))) (fun _ _ _ _ _ => pts_nil) (fun _ _ _ _ _ => (pe_callTy (call_tuple_ofK (K := K) rfl) (by rfl) T.z_tuple (by decide +kernel) (pa_cons (pe_lc (own := [("target", 9), ("letter", 8)]) (g := gTup K 2 (gCons (gName 9) (gCons (gName 8) gNil))) (tt := tYes) rfl sc_Machine_init.nd (pi_listK (K := K) rfl (pv 6)) (blkOk_by (N := N_Machine_init) (sc := stS (defScope s_Machine_init) 10 (defBody s_Machine_init)) (by decide +kernel)) (fun _ _ _ _ _ => (pg_tup (by rfl) (pgs_cons (pg_name (i := 9) sc_Machine_init.nd rfl (Or.inl rfl)) (pgs_cons (pg_name (i := 8) sc_Machine_init.nd rfl (Or.inl rfl)) pgs_nil)))) (fun _ _ _ _ _ => pts_nil) (fun _ _ _ _ _ => (pe_tup (pa_cons (pv 9) (pa_cons (pv 8) pa_nil))))) pa_nil)))) pa_nil)) rfl)))))))))))), ?_⟩
    have hl2 : (as.map V.ref).length = c.length := by rw [List.length_map, hL.2.len]
    refine ⟨_, rfl, _, _, rfl, rfl, _, rfl, ite2 (fun k => q1 (fun v => by have := v.i1; have := of_decide_eq_true k; omega) H (Same.refl H)) (fun k => ?_)⟩
    have k1 : ¬ I < 1 := fun y => k (decide_eq_true y)
    refine ⟨_, rfl, _, _, rfl, rfl, _, rfl, ite2 (fun k => q1 (fun v => by have := v.o1; have := of_decide_eq_true k; omega) H (Same.refl H)) (fun k => ?_)⟩
    have k2 : ¬ O < 1 := fun y => k (decide_eq_true y)
    refine ⟨_, rfl, _, _, rfl, rfl, _, rfl, ite2 (fun k => q1 (fun v => by have := v.l0; have := of_decide_eq_true k; omega) H (Same.refl H)) (fun k => ?_)⟩
    have k3 : ¬ L < -3 := fun y => k (decide_eq_true y)
    refine ⟨_, rfl, _, _, rfl, rfl, _, rfl, ite2 (fun k => q1 (fun v => by have := v.l1; have := of_decide_eq_true k; omega) H (Same.refl H)) (fun k => ?_)⟩
    have k4 : ¬ 2 < L := fun y => k (decide_eq_true y)
    have emx : (if -L > 0 then -L else 0) = max 0 (-L) := by split <;> omega
    refine ⟨_, rfl, a, _, rfl, ha.sq, _, rfl, _, rfl, _, _, rfl, rfl, _, rfl, ?_⟩
    rw [emx, List.length_map]
    refine ite_ne (fun k => q1 (fun v => k v.op_len) H (Same.refl H)) (fun k5 => ?_)
    refine ⟨_, rfl, r, _, rfl, .inl (.of hL.1), rfl, _, rfl, ?_⟩
    rw [hl2]
    refine ite_eq (fun k => q1 (fun v => v.ne (List.length_eq_zero_iff.mp (by omega))) H (Same.refl H)) (fun k6 => ?_)
    refine ⟨_, rfl, _, rfl, r, as, c, I, rfl, hL, fun k => q1 (fun v => k ⟨v.w, v.st⟩) H (Same.refl H), fun hCR => ?_⟩
    refine ⟨_, rfl, a, _, rfl, ha.sq, fun p1 n1 => ?_⟩
    have s1 := same_new (o := .lst (op.map V.int)) n1
    have ep1 := upd_same (H := H) (a := p1) (o := .lst (op.map V.int))
    generalize upd H p1 (.lst (op.map V.int)) = H1 at s1 ep1 ⊢
    refine ⟨_, rfl, r, rfl, ⟨_, .of (s1 _ _ hL.1)⟩, fun D hD => lc2_list (K := K) (a := r) (xs := as.map V.ref) (fun i H' => Same H1 H' ∧ H' D = some (.lst ((sds (c.take i)).map V.int))) ⟨same_new hD, upd_same⟩ (fun i H' _ ⟨z, _⟩ => .of (z _ _ (s1 _ _ hL.1))) ?_ ?_⟩
    · rintro i v H4 hi ⟨s4, e4⟩
      obtain ⟨ra, hra, rfl⟩ := refs_get hi
      obtain ⟨bs, row, hrow, hae, hbl, hR⟩ := hL.2.g i ra hra
      have hi := (List.getElem?_eq_some_iff.mp hrow).1
      have hrl := l2 row (List.mem_of_getElem? hrow)
      have hsl := sds_len (c.take i) fun q hq => l2 q (List.mem_of_mem_take hq)
      rw [List.length_take] at hsl
      have hbl2 : (bs.map V.ref).length = row.length := by rw [List.length_map, hbl]
      refine ⟨rfl, _, rfl, ra, rfl, ⟨_, .of (s4 _ _ (s1 _ _ hae))⟩, ?_⟩
      refine lc2_inL (K := K) (b := ra) (ys := bs.map V.ref) (fun j H5 => Same H1 H5 ∧ H5 D = some (.lst ((sds (c.take i) ++ (row.take j).map fun p => p.2).map V.int))) ⟨s4, by rw [List.take_zero, List.map_nil, List.append_nil]; exact e4⟩ (fun j H5 _ ⟨z, _⟩ => .of (z _ _ (s1 _ _ hae))) ?_ ?_
      · rintro j y H5 hj ⟨s5, e5⟩
        obtain ⟨b, hb, rfl⟩ := refs_get hj
        obtain ⟨t, l, hp, hbe⟩ := hR j b hb
        have hjl := (List.getElem?_eq_some_iff.mp hp).1
        refine ⟨b, _, rfl, .of (s5 _ _ (s1 _ _ hbe)), rfl, _, _, rfl, _, _, rfl, rfl, rfl, _, rfl, _, e5, ?_, fun d u hd => ?_, ?_⟩
        · rw [List.length_map, List.length_append, List.length_map, List.length_take]
          exact Nat.lt_of_le_of_lt (show _ ≤ 200000 by omega) (by decide)
        · rw [upd_ne (ne_of_none hd hD)]
          exact s5 _ _ hd
        · rw [upd_same, take_get hp, List.map_append (l₂ := [(t, l)]), ← List.append_assoc, List.map_append (l₂ := List.map _ [(t, l)])]
          rfl
      · rintro H5 ⟨s5, e5⟩
        rw [hbl2, List.take_length] at e5
        exact ⟨s5, by rw [take_get hrow, sds_snoc]; exact e5⟩
    rintro H4 ⟨s4, e4⟩
    rw [hl2, List.take_length] at e4
    have hsl := sds_len c l2
    have s04 := s1.trans s4
    have np1D : p1 ≠ D := fun z => by rw [← z, ep1] at hD; cases hD
    refine ⟨p1, D, _, _, rfl, rfl, s4 _ _ ep1, e4, by rw [List.length_map, List.length_map]; exact Nat.le_trans (show _ ≤ 200000 by omega) (by decide), fun p3 n3 => ?_⟩
    rw [← List.map_append]
    have s5 := s04.trans (same_new (o := .lst ((op ++ sds c).map V.int)) n3)
    have e5 := upd_same (H := H4) (a := p3) (o := .lst ((op ++ sds c).map V.int))
    generalize upd H4 p3 (.lst ((op ++ sds c).map V.int)) = H5 at s5 e5 ⊢
    refine ⟨_, rfl, p3, op ++ sds c, O, rfl, e5, fun k => q1 (fun v => k fun z hz => ?_) H5 s5, fun hCS => ?_⟩
    · rcases List.mem_append.mp hz with y | y
      · exact v.op_in z y
      · obtain ⟨r', hr', p, hp, rfl⟩ := sds_mem.mp y
        exact v.em r' hr' p hp
    have hV : Vm I O L op c := ⟨by omega, by omega, by omega, by omega, k5, fun z => k6 (by rw [z]; rfl), hCR.1, hCR.2, fun z hz => hCS z (List.mem_append_left _ hz), fun r' hr' p hp => hCS _ (List.mem_append_right _ (sds_mem.mpr ⟨r', hr', p, hp, rfl⟩))⟩
    have hx5 := s5 _ _ hx
    have ha5 := ha.same s5
    have hL5 := hL.same s5
    have k05 : Kp x H H5 := Same.kp s5
    clear s1 ep1 s4 e4 s04 e5 n1 n3 hD hsl np1D
    -- the fields
    refine ⟨_, rfl, _, rfl, x, C, dx, [], rfl, hx5, PC.cl, PC.nI, by decide, ?_⟩
    have kA : Kp x H5 (upd H5 x (.ins C dx (putF "inputs" (.int I) []))) := Kp.own
    have xA := upd_same (H := H5) (a := x) (o := .ins C dx (putF "inputs" (.int I) []))
    generalize upd H5 x (.ins C dx (putF "inputs" (.int I) [])) = HA at kA xA ⊢
    refine ⟨_, rfl, _, rfl, x, C, dx, _, rfl, xA, PC.cl, PC.nO, pl_lt (pl_next pl_0) (by decide), ?_⟩
    have kB : Kp x HA (upd HA x (.ins C dx (putF "outputs" (.int O) (putF "inputs" (.int I) [])))) := Kp.own
    have xB := upd_same (H := HA) (a := x) (o := .ins C dx (putF "outputs" (.int O) (putF "inputs" (.int I) [])))
    generalize upd HA x (.ins C dx (putF "outputs" (.int O) (putF "inputs" (.int I) []))) = HB at kB xB ⊢
    refine ⟨_, rfl, _, rfl, x, C, dx, _, rfl, xB, PC.cl, PC.nL, pl_lt (pl_next (pl_next pl_0)) (by decide), ?_⟩
    have kC : Kp x HB (upd HB x (.ins C dx (putF "lead" (.int L) (putF "outputs" (.int O) (putF "inputs" (.int I) []))))) := Kp.own
    have xC := upd_same (H := HB) (a := x) (o := .ins C dx (putF "lead" (.int L) (putF "outputs" (.int O) (putF "inputs" (.int I) []))))
    generalize upd HB x (.ins C dx (putF "lead" (.int L) (putF "outputs" (.int O) (putF "inputs" (.int I) [])))) = HC at kC xC ⊢
    have k5C : Kp x H5 HC := (kA.trans kB).trans kC
    have nax : a ≠ x := sq_nx hx5 ha5
    have haC : SeqV HC a (op.map V.int) := ha5.elim (fun z => .inl (k5C _ _ nax z)) (fun z => .inr (k5C _ _ nax z))
    clear kA xA kB xB kC
    refine ⟨_, rfl, ?_⟩
    walk_at "nl"
    refine tupq haC fun Ha ot sa ta => ?_
    have xa := sa _ _ xC
    have nxo : x ≠ ot := fun z => by rw [TupI, ← z, xa] at ta; cases ta
    refine ⟨_, rfl, x, C, dx, _, rfl, xa, PC.cl, PC.no, pl_lt (pl_next (pl_next (pl_next pl_0))) (by decide), ?_⟩
    have k0C : Kp x H (upd Ha x (.ins C dx (putF "opening" (.ref ot) (putF "lead" (.int L) (putF "outputs" (.int O) (putF "inputs" (.int I) [])))))) := fun b u nb hb => by
      rw [upd_ne nb]
      exact sa _ _ (k5C _ _ nb (k05 _ _ nb hb))
    have x3 := upd_same (H := Ha) (a := x) (o := .ins C dx (putF "opening" (.ref ot) (putF "lead" (.int L) (putF "outputs" (.int O) (putF "inputs" (.int I) [])))))
    have t3 : TupI (upd Ha x (.ins C dx (putF "opening" (.ref ot) (putF "lead" (.int L) (putF "outputs" (.int O) (putF "inputs" (.int I) [])))))) ot op := by
      show _ = _
      rw [upd_ne nxo.symm]
      exact ta
    generalize upd Ha x (.ins C dx (putF "opening" (.ref ot) (putF "lead" (.int L) (putF "outputs" (.int O) (putF "inputs" (.int I) []))))) = H3 at k0C x3 t3 ⊢
    have hL3 := My.LPr.kp hx k0C hL
    clear sa ta xa haC xC k5C hx5 ha5 hL5 k05 s5
    refine ⟨_, rfl, r, rfl, ⟨_, .of hL3.1⟩, fun D hD => lc_list (K := K) (a := r) (xs := as.map V.ref) (fun i H4 => ∃ as2 : List Addr, Same H3 H4 ∧ H4 D = some (.lst (as2.map V.ref)) ∧ RP .tup H4 as2 (c.take i))
      ⟨[], same_new hD, upd_same, My.RP.nil⟩ (fun i H' _ ⟨_, z, _⟩ => .of (z _ _ hL3.1)) ?_ ?_⟩
    · rintro i v H4 hi ⟨as2, s4, e4, R4⟩
      obtain ⟨ra, hra, rfl⟩ := refs_get hi
      obtain ⟨bs, row, hrow, hae, hbl, hR⟩ := hL3.2.g i ra hra
      have hil := (List.getElem?_eq_some_iff.mp hrow).1
      have hrl := l2 row (List.mem_of_getElem? hrow)
      have hbl2 : (bs.map V.ref).length = row.length := by rw [List.length_map, hbl]
      refine ⟨rfl, _, rfl, ra, rfl, ⟨_, .of (s4 _ _ hae)⟩, fun E1 hE => lc_list (K := K) (a := ra) (xs := bs.map V.ref) (fun j H5 => ∃ cs : List Addr, Same H4 H5 ∧ H5 E1 = some (.lst (cs.map V.ref)) ∧ cs.length = j ∧ ∀ (m : Nat) (b : Addr), cs[m]? = some b → ∃ t l, row[m]? = some (t, l) ∧ H5 b = some (.tup [.int t, .int l]))
        ⟨[], same_new hE, upd_same, rfl, fun m b e => by (cases e)⟩ (fun i H' _ ⟨_, z, _⟩ => .of (z _ _ (s4 _ _ hae))) ?_ ?_⟩
      · rintro j v H5 hj ⟨cs, s5, e5, hcl, hcs⟩
        obtain ⟨b, hb, rfl⟩ := refs_get hj
        obtain ⟨t, l, hp, hbe⟩ := hR j b hb
        have hjl := (List.getElem?_eq_some_iff.mp hp).1
        refine ⟨b, _, rfl, .of (s5 _ _ (s4 _ _ hbe)), rfl, _, _, rfl, _, _, rfl, rfl, rfl, _, rfl, _, rfl, by show 2 ≤ sizeLine; decide, fun p hp0 => ?_⟩
        have s6 := same_new (o := .tup [.int t, .int l]) hp0
        have nEp : E1 ≠ p := fun z => by rw [z, hp0] at e5; cases e5
        refine ⟨_, s6 _ _ e5, by rw [List.length_map, hcl]; exact Nat.lt_of_le_of_lt (show j ≤ 1000 by omega) (by decide), cs ++ [p], fun d u hd => ?_, by rw [upd_same, List.map_append]; rfl, by rw [List.length_append, hcl]; rfl, fun m b' hm => ?_⟩
        · rw [upd_ne (ne_of_none hd hE)]
          exact s6 _ _ (s5 _ _ hd)
        · rcases snoc_get hm with ⟨h0, h1⟩ | ⟨h1, h2⟩
          · obtain ⟨t', l', g1, g2⟩ := hcs m b' h1
            exact ⟨t', l', g1, tup_upd (s6 _ _ e5) _ _ (s6 _ _ g2)⟩
          · subst h2
            rw [h1, hcl]
            exact ⟨t, l, hp, tup_upd (s6 _ _ e5) _ _ upd_same⟩
      · rintro H5 ⟨cs, s5, e5, hcl, hcs⟩
        rw [hbl2] at hcl
        refine ⟨E1, _, rfl, .inl ⟨.of e5, fun t ht => ?_⟩⟩
        have s6 := same_new (o := .tup (cs.map V.ref)) ht
        have e56 := s6 _ _ (s5 _ _ e4)
        have hal := R4.len
        rw [List.length_take] at hal
        refine ⟨_, e56, by rw [List.length_map]; exact Nat.lt_of_le_of_lt (show as2.length ≤ 1000 by omega) (by decide), as2 ++ [t], fun d u hd => ?_, by rw [upd_same, List.map_append]; rfl, ?_⟩
        · rw [upd_ne (ne_of_none hd hD)]
          exact s6 _ _ (s5 _ _ (s4 _ _ hd))
        · rw [take_get hrow]
          refine RP.keepT (tup_upd e56) (My.RP.snoc (R4.same (s5.trans s6)) (bs := cs) upd_same hcl fun m b hb => ?_)
          obtain ⟨t', l', g1, g2⟩ := hcs m b hb
          exact ⟨t', l', g1, s6 _ _ g2⟩
    · rintro H4 ⟨as2, s4, e4, R4⟩
      rw [hl2, List.take_length] at R4
      refine ⟨D, _, rfl, .inl ⟨.of e4, fun rt hrt => ?_⟩⟩
      have s5 := same_new (o := .tup (as2.map V.ref)) hrt
      have x4 := s5 _ _ (s4 _ _ x3)
      refine ⟨_, rfl, x, C, dx, _, rfl, x4, PC.cl, PC.nr, pl_lt (pl_next (pl_next (pl_next (pl_next pl_0)))) (by decide), q2 hV _ ?_ ⟨dx, ot, rt, as2, upd_same, ?_, ?_, ?_⟩⟩
      · intro b u nb hb
        rw [upd_ne nb]
        exact s5 _ _ (s4 _ _ (k0C _ _ nb hb))
      · show _ = _
        rw [upd_ne nxo.symm]
        exact s5 _ _ (s4 _ _ t3)
      · rw [upd_ne (fun z => by rw [← z, upd_same] at x4; cases x4), upd_same]
      · exact My.RP.kp (fun ys => ⟨fun z => (by rw [x4] at z; cases z), fun z => by rw [x4] at z; (cases z)⟩) Kp.own (R4.same s5)
theorem cut_drop (xs : List V) (n : Nat) : cutV xs (some (n : Int)) none = xs.drop n := by
  unfold cutV
  rw [HT.sIx_none, HT.sIx_nat]
  rcases Nat.le_total n xs.length with c | c
  · rw [Nat.min_eq_left c, List.take_of_length_le (by rw [List.length_drop]; exact Nat.le_refl _)]
  · rw [Nat.min_eq_right c, List.drop_of_length_le (Nat.le_refl _), List.drop_of_length_le c, List.take_nil]
theorem cut_take (xs : List V) (n : Nat) : cutV xs none (some (n : Int)) = xs.take n := by
  unfold cutV
  rw [HT.sIx_none, HT.sIx_nat, List.drop_zero, Nat.sub_zero]
  rcases Nat.le_total n xs.length with c | c
  · rw [Nat.min_eq_left c]
  · rw [Nat.min_eq_right c, List.take_of_length_le c, List.take_of_length_le (Nat.le_refl _)]
theorem cal_draws (T : Txt K mg) : C8.Cal P w K mg base 1 "_law_draws" (spDraws K) [] := by
  obtain ⟨f, fd, F, hm, hb⟩ := T.h_law_draws
  refine ⟨f, fd, _, [], F.ok sc_law_draws (fun vs H Q E h => ?_) (fun cdv A outer s H vs Q E hr h => ?_), hm, F.kp, hb, .nil⟩
  · obtain ⟨a, ns, c, rfl, _⟩ := h
    rfl
  · obtain ⟨a, ns, n, rfl, hS, hn, q⟩ := h
    refine ⟨_, (pss_cons
      (ps_set (i := 2) sc_law_draws.nd rfl (Or.inl rfl) (pe_callTy (call_list_ofK (K := K) rfl) (by rfl) T.z_list (by decide +kernel) (pa_cons (pv 0) pa_nil)))
      (C8.pss_cut
      (ps_if (pt_cmpR op_eq (pe_callB (call_lenK (K := K) rfl) (by rfl) T.z_len PySem.boot_len (pa_cons (pv 2) pa_nil)) pe_int (nomark _)) (pss_one
      (ps_set (i := 2) sc_law_draws.nd rfl (Or.inl rfl) (pe_lst (pa_cons pe_int pa_nil)))) pss_nil)
      (pss_cons
      (ps_set (i := 3) sc_law_draws.nd rfl (Or.inl rfl) (pe_lst pa_nil))
      (pss_cons
      (ps_set (i := 4) sc_law_draws.nd rfl (Or.inl rfl) pe_int)
      (pss_cons
      (ps_for PassesOwn.never rfl (pi_range1 (by rfl) T.z_range (pa_cons (pv 1) pa_nil)) (pg_name (i := 5) sc_law_draws.nd rfl (.inl rfl)) (pss_cons
      (ps_set (i := 6) sc_law_draws.nd rfl (Or.inl rfl) (pe_op op_mod (pv 5) (pe_callB (call_lenK (K := K) rfl) (by rfl) T.z_len PySem.boot_len (pa_cons (pv 2) pa_nil))))
      (pss_cons
      (ps_set (i := 7) sc_law_draws.nd rfl (Or.inl rfl) (pe_ix (ix_listK (K := K) rfl) (pv 2) (pv 6) (fun _ _ => rfl)))
      (pss_cons
      (ps_set (i := 4) sc_law_draws.nd rfl (Or.inl rfl) (pe_op op_mod (pe_callTy call_int1 (by rfl) T.z_int (by decide +kernel) (pa_cons (pe_op op_add (pe_op op_add (pe_op op_add (pe_op op_mul (pv 4) pe_int) (pe_op op_mul (pe_op op_mod (pe_callTy call_int1 (by rfl) T.z_int (by decide +kernel) (pa_cons (pv 7) pa_nil)) pe_int) pe_int)) (pe_op op_mul (pv 5) pe_int)) pe_int) pa_nil)) pe_int))
      (pss_cons
      (ps_set (i := 8) sc_law_draws.nd rfl (Or.inl rfl) (pe_op op_mod (pe_callTy call_int1 (by rfl) T.z_int (by decide +kernel) (pa_cons (pe_op op_add (pe_op op_add (pe_op op_mul (pv 4) (pv 4)) (pe_op op_mul pe_int (pv 4))) (pv 5)) pa_nil)) pe_int))
      (pss_one
      (ps_if (pt_cmpR op_ge (pv 7) (pe_op op_pow pe_int pe_int) (nomark _)) (pss_cons
      (ps_expr (pe_bm PySem.F.plainAttrs_list PySem.F.slot_list_append PySem.F.type_list_append mt_append (pv 3) (pa_cons (pe_op op_mod (pe_callTy call_int1 (by rfl) T.z_int (by decide +kernel) (pa_cons (pv 7) pa_nil)) pe_int) pa_nil)))
      (pss_one
      (ps_asg (pe_op op_fdiv (pv 7) pe_int) (pg_sub (pv 2) (pv 6) set_list)))) (pss_one
      (ps_expr (pe_bm PySem.F.plainAttrs_list PySem.F.slot_list_append PySem.F.type_list_append mt_append (pv 3) (pa_cons (pe_op op_mod (pe_callTy call_int1 (by rfl) T.z_int (by decide +kernel) (pa_cons (pv 8) pa_nil)) pe_int) pa_nil)))))))))))
      (pss_cons
      (ps_expr (pe_bm0 PySem.F.plainAttrs_list PySem.F.slot_list_reverse PySem.F.type_list_reverse mt_reverse (pv 3)))
      (pss_one
      (ps_ret (pv 3))))))))), ?_⟩
    -- cells = list(script)
    refine ⟨_, rfl, a, _, rfl, .inl hS, fun l hl => ?_⟩
    -- if len(cells) == 0: cells = [7]
    refine ⟨fun σ H2 => ∃ (c : Addr) (cs : List Int), σ = [some (.ref a), some (.int n), some (.ref c), none, none, none, none, none, none] ∧ H c = none ∧ Same H H2 ∧ H2 c = some (.lst (cs.map V.int)) ∧ cs ≠ [], ?_, ?_⟩
    · have h0 : (upd H l (.lst (ns.map V.int))) l = some (.lst (ns.map V.int)) := upd_same
      walk_at "bx"
      refine ite2 (fun e => ?_) (fun e => ?_)
      · refine ⟨by show 1 ≤ sizeLine; decide, fun l2 h2 => ?_⟩
        have s1 : Same H (upd H l (.lst (ns.map V.int))) := same_new hl
        exact ⟨l2, [7], rfl, s1.free h2, s1.trans (same_new h2), upd_same, by decide⟩
      · exact ⟨l, ns, rfl, hl, same_new hl, upd_same, fun z => e (by rw [z]; rfl)⟩
    · rintro σ H2 ⟨c, cs, rfl, hc0, s2, hc, hcs⟩
      -- found = [], mixed = 12345
      refine ⟨Nat.zero_le _, fun o ho => ?_⟩
      have hco : c ≠ o := ne_of_none hc ho
      have ho0 : H o = none := s2.free ho
      -- for k in range(count)
      refine ⟨_, rfl, _, rfl, by omega, by omega, for_range (lo := 0) (n := ((n : Int)).toNat) (fun i σ H3 => ∃ (m : Int) (cs fs : List Int) (v5 v6 v7 v8 : Option V), σ = [some (.ref a), some (.int n), some (.ref c), some (.ref o), some (.int m), v5, v6, v7, v8] ∧ 0 ≤ m ∧ m < 2147483647 ∧ Same H H3 ∧ H3 c = some (.lst (cs.map V.int)) ∧ cs ≠ [] ∧ H3 o = some (.lst (fs.map V.int)) ∧ fs.length ≤ i)
        ⟨12345, cs, [], none, none, none, none, rfl, by decide, by decide, s2.trans (same_new ho), by rw [upd_ne hco]; exact hc, hcs, upd_same, Nat.le_refl _⟩ ?_ ?_⟩
      · rintro i σ H3 hi ⟨m, cs, fs, v5, v6, v7, v8, rfl, m0, m1, s3, hc, hcs, hf, hfl⟩
        have hl : 0 < cs.length := List.length_pos_iff.mpr hcs
        obtain ⟨z, hz⟩ : ∃ z, cs[i % cs.length]? = some z := ⟨_, List.getElem?_eq_getElem (Nat.mod_lt _ hl)⟩
        have ej : ((0 : Int) + (i : Int)) % (((cs.map V.int).length : Nat) : Int) = ((i % cs.length : Nat) : Int) := by
          rw [Int.zero_add, List.length_map]
          rfl
        -- j = k % len(cells)
        walk_at "bx"
        refine ⟨(show (0 : Int) < _ by rw [List.length_map]; omega), ?_⟩
        -- cell = cells[j]
        refine ⟨_, rfl, _, rfl, c, _, _, .int z, rfl, rfl, SqL.of hc, ?_, ?_⟩
        · rw [ej]
          exact atI_nat (by rw [List.getElem?_map, hz]; rfl)
        -- mixed, again
        walk_at "bx"
        have b1 : (0 : Int) ≤ z % 1000003 := Int.emod_nonneg _ (by decide)
        refine ⟨.inl ⟨?_, ?_⟩, ?_⟩
        · have := Int.emod_nonneg (m * 48271 + z % 1000003 * 69621 + (0 + (i : Int)) * 7919 + 11) (show (2147483647 : Int) ≠ 0 by decide)
          show -(2 ^ 64) < (m * 48271 + z % 1000003 * 69621 + (0 + (i : Int)) * 7919 + 11) % 2147483647
          omega
        · have := Int.emod_lt_of_pos (m * 48271 + z % 1000003 * 69621 + (0 + (i : Int)) * 7919 + 11) (show (0 : Int) < 2147483647 by decide)
          show (m * 48271 + z % 1000003 * 69621 + (0 + (i : Int)) * 7919 + 11) % 2147483647 < 2 ^ 64
          omega
        have c0 : 0 ≤ (m * 48271 + z % 1000003 * 69621 + (0 + (i : Int)) * 7919 + 11) % 2147483647 := Int.emod_nonneg _ (by decide)
        have c1 : (m * 48271 + z % 1000003 * 69621 + (0 + (i : Int)) * 7919 + 11) % 2147483647 < 2147483647 := Int.emod_lt_of_pos _ (by decide)
        walk_at "bx"
        refine ite2 (fun e => ?_) (fun e => ?_)
        · walk_at "bx"
          refine ⟨lenI (by omega), ?_⟩
          walk_at "bx"
          refine ⟨c, cs.map V.int, _, i % cs.length, rfl, rfl, by rw [upd_ne hco]; exact hc, by rw [ej]; exact ixN_at (by rw [List.length_map]; exact Nat.mod_lt _ hl), ?_⟩
          refine ⟨_, cs.set (i % cs.length) (z / 1000), fs ++ [z % 1000], _, _, _, _, rfl, c0, c1, fun b o' hb => ?_, by rw [upd_same, set_mapI], by simpa using hcs, by rw [upd_ne hco.symm, upd_same]; simp, by simp; omega⟩
          rw [upd_ne (fun z => by rw [z, hc0] at hb; cases hb), upd_ne (fun z => by rw [z, ho0] at hb; cases hb)]
          exact s3 _ _ hb
        · walk_at "bx"
          refine ⟨lenI (by omega), ?_⟩
          refine ⟨_, cs, fs ++ [_], _, _, _, _, rfl, c0, c1, fun b o' hb => ?_, by rw [upd_ne hco]; exact hc, hcs, by rw [upd_same, List.map_append]; rfl, by simp; omega⟩
          rw [upd_ne (fun z => by rw [z, ho0] at hb; cases hb)]
          exact s3 _ _ hb
      · rintro σ H3 ⟨m, cs, fs, v5, v6, v7, v8, rfl, m0, m1, s3, hc, hcs, hf, hfl⟩
        -- found.reverse()
        walk_at "bx"
        refine q _ o (fun b o' hb => ?_) ho0 ⟨fs.reverse, ?_⟩
        · rw [upd_ne (fun z => by rw [z, ho0] at hb; cases hb)]
          exact s3 _ _ hb
        · rw [upd_same, List.map_reverse]
theorem cal_take (T : Txt K mg) : C8.Cal P w K mg base 1 "_law_take" spTake [] := by
  obtain ⟨f, fd, F, hm, hb⟩ := T.h_law_take
  refine ⟨f, fd, _, [], F.ok sc_law_take (fun vs H Q E h => ?_) (fun cdv A outer s H vs Q E hr h => ?_), hm, F.kp, hb, .nil⟩
  · obtain ⟨d, n, rfl, _⟩ := h
    rfl
  · obtain ⟨d, n, rfl, ⟨ds, hd⟩, hn, q⟩ := h
    refine ⟨_, (pss_cons
      (ps_if (pt_cmpR op_eq (pe_callB (call_lenK (K := K) rfl) (by rfl) T.z_len PySem.boot_len (pa_cons (pv 0) pa_nil)) pe_int (nomark _)) (pss_one
      (ps_ret pe_int)) pss_nil)
      (pss_one
      (ps_ret (pe_op op_mod (pe_callTy call_int1 (by rfl) T.z_int (by decide +kernel) (pa_cons (pe_bm0 PySem.F.plainAttrs_list PySem.F.slot_list_pop PySem.F.type_list_pop mt_pop (pv 0)) pa_nil)) (pv 1))))), ?_⟩
    walk_at "bx"
    refine ite2 (fun e => ?_) (fun e => ?_)
    · have q0 := q 0 ds (Int.le_refl 0) hn
      rw [upd_self hd] at q0
      exact q0
    · have hne : ds ≠ [] := fun z => e (by rw [z]; rfl)
      refine ⟨_, rfl, .inl ⟨rfl, _, SqL.of hd⟩, d, _, .int (ds.getLast hne), rfl, rfl, hd, ?_, ?_⟩
      · rw [List.length_map, List.getElem?_map, ← List.getLast?_eq_getElem?, List.getLast?_eq_getLast hne]
        rfl
      · walk_at "bx"
        rw [← List.map_dropLast]
        exact q _ _ (Int.emod_nonneg _ (by omega)) (Int.emod_lt_of_pos _ hn)
theorem RP.keep {mk : List V → HO} {H H' : Hp} {as : List Addr} {c : List (List (Int × Int))} (h : RP mk H as c) (k1 : ∀ a ∈ as, ∀ o, H a = some o → H' a = some o) (k2 : ∀ b xs, H b = some (.tup xs) → H' b = some (.tup xs)) : RP mk H' as c := ⟨h.len, fun i a e => by
  obtain ⟨bs, row, h1, h2, h3, h4⟩ := h.g i a e
  exact ⟨bs, row, h1, k1 a (List.mem_of_getElem? e) _ h2, h3, fun j b hb => by obtain ⟨t, l, h5, h6⟩ := h4 j b hb; exact ⟨t, l, h5, k2 _ _ h6⟩⟩⟩
theorem kp_tup {d : Addr} {H H' : Hp} (hd : Drw H d) (k : Kp d H H') : ∀ (b : Addr) (xs : List V), H b = some (.tup xs) → H' b = some (.tup xs) := fun b xs hb => k _ _ (hd.ne_tup hb) hb
def spMach : Sp := fun vs H Q _ => ∃ (d : Addr) (I O L : Int) (m : Nat), vs = [.ref d, .int I, .int O, .int L, .int m] ∧ Drw H d ∧ 1 ≤ I ∧ I ≤ 100 ∧ 1 ≤ O ∧ -3 ≤ L ∧ L ≤ 2 ∧ 1 ≤ m ∧ m ≤ 100 ∧
  ∀ (H' : Hp) (t oa r : Addr) (as : List Addr) (op : List Int) (c : List (List (Int × Int))), Kp d H H' → Drw H' d → H' t = some (.tup [.ref oa, .ref r]) → H' oa = some (.lst (op.map V.int)) → LPr H' r as c → d ≠ oa → d ≠ r → (∀ a ∈ as, a ≠ d) → Vm I O L op c → c.length ≤ m → Q (.ref t) H'
theorem cal_mach (T : Txt K mg) : C8.Cal P w K mg base 2 "_law_machine" spMach [] := by
  have C_law_take : C8.Cal P w K mg base 1 "_law_take" spTake [] := cal_take T
  obtain ⟨f, fd, F, hm, hb⟩ := T.h_law_machine
  refine ⟨f, fd, _, [], F.ok sc_law_machine (fun vs H Q E h => ?_) (fun cdv A outer s H vs Q E hr h => ?_), hm, F.kp, hb, .nil⟩
  · obtain ⟨d, I, O, L, m, rfl, _⟩ := h
    rfl
  · obtain ⟨d, I, O, L, m, rfl, hd, i1, i2, o1, l0, l1, m1, m2, q⟩ := h
    refine ⟨_, (pss_cons
      (ps_set (i := 5) sc_law_machine.nd rfl (Or.inl rfl) (pe_op op_add pe_int (C8.pe_c C_law_take hr (by decide) (by rfl) (pa_cons (pv 0) (pa_cons (pv 4) pa_nil)))))
      (pss_cons
      (ps_setLc (i := 6) (own := [("k", 12)]) (g := gName 12) (tt := tYes) rfl sc_law_machine.nd rfl rfl (sw_true rfl rfl rfl (by decide +kernel)) (pi_range1 (by rfl) T.z_range (pa_cons (pe_callB (call_max2 rfl) (by rfl) T.z_max (by decide +kernel) (pa_cons pe_int (pa_cons (pe_un un_neg (pv 3)) pa_nil))) pa_nil)) (blkOk_by (N := N_law_machine) (sc := defScope s_law_machine) (by decide +kernel)) (fun _ _ _ _ _ => (pg_name (i := 12) sc_law_machine.nd rfl (Or.inl rfl))) (fun _ _ _ _ _ => pts_nil) (fun _ _ _ _ _ => (C8.pe_c C_law_take hr (by decide) (by rfl) (pa_cons (pv 0) (pa_cons (pv 2) pa_nil)))))
      (pss_cons
      (ps_set (i := 7) sc_law_machine.nd rfl (Or.inl rfl) (pe_lst pa_nil))
      (pss_cons
      (ps_for PassesOwn.never rfl (pi_range1 (by rfl) T.z_range (pa_cons (pv 5) pa_nil)) (pg_name (i := 8) sc_law_machine.nd rfl (.inl rfl)) (pss_cons
      (ps_set (i := 9) sc_law_machine.nd rfl (Or.inl rfl) (pe_lst pa_nil))
      (pss_cons
      (ps_for PassesOwn.never rfl (pi_range1 (by rfl) T.z_range (pa_cons (pv 1) pa_nil)) (pg_name (i := 10) sc_law_machine.nd rfl (.inl rfl)) (pss_cons
      (ps_set (i := 11) sc_law_machine.nd rfl (Or.inl rfl) (C8.pe_c C_law_take hr (by decide) (by rfl) (pa_cons (pv 0) (pa_cons (pv 5) pa_nil))))
      (pss_one
      (ps_expr (pe_bm PySem.F.plainAttrs_list PySem.F.slot_list_append PySem.F.type_list_append mt_append (pv 9) (pa_cons (pe_tup (pa_cons (pv 11) (pa_cons (C8.pe_c C_law_take hr (by decide) (by rfl) (pa_cons (pv 0) (pa_cons (pv 2) pa_nil))) pa_nil))) pa_nil))))))
      (pss_one
      (ps_expr (pe_bm PySem.F.plainAttrs_list PySem.F.slot_list_append PySem.F.type_list_append mt_append (pv 7) (pa_cons (pv 9) pa_nil)))))))
      (pss_one
      (ps_ret (pe_tup (pa_cons (pv 6) (pa_cons (pv 7) pa_nil))))))))), ?_⟩
    refine ⟨_, rfl, _, rfl, d, m, rfl, hd, by omega, fun cn ds c0 c1 => ?_⟩
    have d1 : Drw (upd H d (.lst (ds.map V.int))) d := Drw.own
    have k1 : Kp d H (upd H d (.lst (ds.map V.int))) := Kp.own
    generalize upd H d (.lst (ds.map V.int)) = H1 at d1 k1 ⊢
    refine ⟨_, _, rfl, rfl, ?_⟩
    have emx : (if -L > 0 then -L else 0) = (((max 0 (-L)).toNat : Nat) : Int) := by split <;> omega
    refine ⟨_, rfl, _, rfl, _, _, rfl, _, rfl, by rw [emx]; omega, by rw [emx]; omega, fun OA hOA => ?_⟩
    rw [emx, Int.toNat_natCast]
    have nOd : OA ≠ d := fun z => by obtain ⟨o, y⟩ := d1; rw [← z, hOA] at y; cases y
    refine lc_range (lo := 0) (n := (max 0 (-L)).toNat) (fun i H' => ∃ xs : List Int, Kp d H1 H' ∧ Drw H' d ∧ H' OA = some (.lst (xs.map V.int)) ∧ xs.length = i ∧ ∀ z ∈ xs, 0 ≤ z ∧ z < O)
      ⟨[], Kp.new hOA, d1.new hOA, upd_same, rfl, by simp⟩ ?_ ?_
    · rintro i H2 hi ⟨xs, k2, d2, e2, xl, hx⟩
      refine ⟨rfl, _, rfl, _, rfl, d, O, rfl, d2, by omega, fun u us u0 u1 => ?_⟩
      have e3 : (upd H2 d (.lst (us.map V.int))) OA = some (.lst (xs.map V.int)) := by rw [upd_ne nOd]; exact e2
      have k3 : Kp d H1 (upd H2 d (.lst (us.map V.int))) := k2.trans Kp.own
      have d3 : Drw (upd H2 d (.lst (us.map V.int))) d := Drw.own
      generalize upd H2 d (.lst (us.map V.int)) = H3 at e3 k3 d3 ⊢
      refine ⟨_, e3, lenI (by omega), xs ++ [u], fun b o nb hb => ?_, ?_, by rw [upd_same, List.map_append]; rfl, by rw [List.length_append, xl]; rfl, fun z hz => ?_⟩
      · rw [upd_ne (ne_of_none hb hOA)]
        exact k3 _ _ nb hb
      · obtain ⟨o, y⟩ := d3
        exact ⟨o, by rw [upd_ne nOd.symm]; exact y⟩
      · rcases List.mem_append.mp hz with y | y
        · exact hx z y
        · rw [List.mem_singleton.mp y]; exact ⟨u0, u1⟩
    rintro H2 ⟨op, k2, d2, e2, opl, hop⟩
    have k02 := k1.trans k2
    refine ⟨Nat.zero_le _, fun R hR => ?_⟩
    have nRd : R ≠ d := fun z => by obtain ⟨o, y⟩ := d2; rw [← z, hR] at y; cases y
    have nRO : R ≠ OA := fun z => by rw [z, e2] at hR; cases hR
    have s3 := same_new (o := .lst []) hR
    have e3 := upd_same (H := H2) (a := R) (o := .lst [])
    generalize upd H2 R (.lst []) = H3 at s3 e3 ⊢
    have d3 := d2.same s3
    have eo3 := s3 _ _ e2
    have k03 : Kp d H H3 := k02.trans (Same.kp s3)
    have hcn : (1 + cn).toNat ≤ m := by omega
    refine ⟨_, rfl, _, rfl, by omega, by omega, for_range (lo := 0) (n := (1 + cn).toNat) (fun i σ H' => ∃ (v8 v9 v10 v11 v12 : Option V) (as : List Addr) (c : List (List (Int × Int))), σ = [some (.ref d), some (.int I), some (.int O), some (.int L), some (.int m), some (.int (1 + cn)), some (.ref OA), some (.ref R), v8, v9, v10, v11, v12] ∧ Kp d H H' ∧ Drw H' d ∧ H' OA = some (.lst (op.map V.int)) ∧ H' R = some (.lst (as.map V.ref)) ∧ RP .lst H' as c ∧ c.length = i ∧
      (∀ r ∈ c, (r.length : Int) = I ∧ ∀ p ∈ r, 0 ≤ p.1 ∧ p.1 < 1 + cn ∧ 0 ≤ p.2 ∧ p.2 < O) ∧ ∀ a ∈ as, a ≠ d ∧ a ≠ R)
      ⟨_, _, _, _, _, [], [], rfl, k03, d3, eo3, e3, My.RP.nil, rfl, by simp, by simp⟩ ?_ ?_⟩
    · clear k03 d3 eo3 s3 e3 k1 k2 d1 d2
      rintro i σ H4 hi ⟨v8, v9, v10, v11, v12, as, c, rfl, k4, d4, eo4, eR4, R4, hcl, hcw, has⟩
      have hal := R4.len
      refine ⟨Nat.zero_le _, fun ra hra => ?_⟩
      have nad : ra ≠ d := fun z => by obtain ⟨o, y⟩ := d4; rw [← z, hra] at y; cases y
      have naR : ra ≠ R := fun z => by rw [z, eR4] at hra; cases hra
      have naO : ra ≠ OA := fun z => by rw [z, eo4] at hra; cases hra
      have naa : ∀ a ∈ as, a ≠ ra := fun a ha z => by
        obtain ⟨j, hj⟩ := List.mem_iff_getElem?.mp ha
        obtain ⟨bs, row, _, h2, _⟩ := R4.g j a hj
        rw [z, hra] at h2
        cases h2
      have hraH : H ra = none := by
        cases e : H ra with
        | none => rfl
        | some o => rw [k4 _ _ nad e] at hra; cases hra
      have s5 := same_new (o := .lst []) hra
      have e5 := upd_same (H := H4) (a := ra) (o := .lst [])
      generalize upd H4 ra (.lst []) = H5 at s5 e5 ⊢
      refine ⟨_, rfl, _, rfl, by omega, by omega, for_range (lo := 0) (n := I.toNat) (fun j σ H' => ∃ (v10 v11 v12 : Option V) (bs : List Addr) (row : List (Int × Int)), σ = [some (.ref d), some (.int I), some (.int O), some (.int L), some (.int m), some (.int (1 + cn)), some (.ref OA), some (.ref R), some (.int (0 + (i : Int))), some (.ref ra), v10, v11, v12] ∧ Kp d H H' ∧ Drw H' d ∧ H' OA = some (.lst (op.map V.int)) ∧ H' R = some (.lst (as.map V.ref)) ∧ RP .lst H' as c ∧
        H' ra = some (.lst (bs.map V.ref)) ∧ bs.length = j ∧ row.length = j ∧ (∀ p ∈ row, 0 ≤ p.1 ∧ p.1 < 1 + cn ∧ 0 ≤ p.2 ∧ p.2 < O) ∧ ∀ (k : Nat) (b : Addr), bs[k]? = some b → ∃ t l, row[k]? = some (t, l) ∧ H' b = some (.tup [.int t, .int l]))
        ⟨_, _, _, [], [], rfl, k4.trans (Same.kp s5), d4.same s5, s5 _ _ eo4, s5 _ _ eR4, R4.same s5, e5, rfl, rfl, by simp, fun k b e => by (cases e)⟩ ?_ ?_⟩
      · clear s5 e5 d4 eo4 eR4 R4
        rintro j σ H6 hj ⟨v10, v11, v12, bs, row, rfl, k6, d6, eo6, eR6, R6, er6, hbl, hrl, hrw, hbs⟩
        refine ⟨_, rfl, _, rfl, d, 1 + cn, rfl, d6, by omega, fun t ts t0 t1 => ?_⟩
        have tk7 := kp_tup d6 (Kp.own (H := H6) (d := d) (o := .lst (ts.map V.int)))
        have k7 : Kp d H6 (upd H6 d (.lst (ts.map V.int))) := Kp.own
        have d7 : Drw (upd H6 d (.lst (ts.map V.int))) d := Drw.own
        generalize upd H6 d (.lst (ts.map V.int)) = H7 at tk7 k7 d7 ⊢
        refine ⟨_, rfl, .inl ⟨rfl, _, .of (k7 _ _ nad er6)⟩, ?_⟩
        refine ⟨_, rfl, _, rfl, _, rfl, d, O, rfl, d7, by omega, fun l ls l0' l1' => ?_⟩
        have tk8 := kp_tup d7 (Kp.own (H := H7) (d := d) (o := .lst (ls.map V.int)))
        have k8 : Kp d H7 (upd H7 d (.lst (ls.map V.int))) := Kp.own
        have d8 : Drw (upd H7 d (.lst (ls.map V.int))) d := Drw.own
        generalize upd H7 d (.lst (ls.map V.int)) = H8 at tk8 k8 d8 ⊢
        have k68 := k7.trans k8
        refine ⟨by show 2 ≤ sizeLine; decide, fun p hp => ?_⟩
        have s9 := same_new (o := .tup [.int t, .int l]) hp
        have e9 := upd_same (H := H8) (a := p) (o := .tup [.int t, .int l])
        generalize upd H8 p (.tup [.int t, .int l]) = H9 at s9 e9 ⊢
        have er9 := s9 _ _ (k68 _ _ nad er6)
        refine ⟨ra, _, _, rfl, rfl, er9, by rw [List.length_map, hbl]; exact Nat.lt_of_le_of_lt (show j ≤ 1000 by omega) (by decide), ?_⟩
        have kk : Kp ra H9 (upd H9 ra (.lst (bs.map V.ref ++ [.ref p]))) := Kp.own
        have tkk := tup_upd (o := .lst (bs.map V.ref ++ [.ref p])) er9
        have ekk := upd_same (H := H9) (a := ra) (o := .lst (bs.map V.ref ++ [.ref p]))
        generalize upd H9 ra (.lst (bs.map V.ref ++ [.ref p])) = HA at kk tkk ekk ⊢
        have T6A : ∀ b xs, H6 b = some (.tup xs) → HA b = some (.tup xs) := fun b xs hb => tkk _ _ (s9 _ _ (tk8 _ _ (tk7 _ _ hb)))
        have K6A : ∀ a, a ≠ d → a ≠ ra → ∀ o, H6 a = some o → HA a = some o := fun a n1 n2 o ho => kk _ _ n2 (s9 _ _ (k68 _ _ n1 ho))
        refine ⟨_, _, _, bs ++ [p], row ++ [(t, l)], rfl, fun b o nb hb => ?_, ?_, K6A _ nOd naO.symm _ eo6, K6A _ nRd naR.symm _ eR6, My.RP.keep R6 (fun a ha => K6A a (has a ha).1 (naa a ha)) T6A, by rw [ekk, List.map_append]; rfl, by rw [List.length_append, hbl]; rfl, by rw [List.length_append, hrl]; rfl, fun z hz => ?_, fun k b hk => ?_⟩
        · exact kk _ _ (ne_of_none hb hraH) (s9 _ _ (k68 _ _ nb (k6 _ _ nb hb)))
        · obtain ⟨o, y⟩ := d8
          exact ⟨o, kk _ _ nad.symm (s9 _ _ y)⟩
        · rcases List.mem_append.mp hz with y | y
          · exact hrw z y
          · rw [List.mem_singleton.mp y]; exact ⟨t0, t1, l0', l1'⟩
        · rcases snoc_get hk with ⟨h0, h1⟩ | ⟨h1, h2⟩
          · obtain ⟨t', l', g1, g2⟩ := hbs k b h1
            exact ⟨t', l', by rw [List.getElem?_append_left (by omega)]; exact g1, T6A _ _ g2⟩
          · subst h2
            exact ⟨t, l, by rw [List.getElem?_append_right (by omega), show k - row.length = 0 by omega]; rfl, tkk _ _ e9⟩
      · rintro σ H6 ⟨v10, v11, v12, bs, row, rfl, k6, d6, eo6, eR6, R6, er6, hbl, hrl, hrw, hbs⟩
        refine ⟨_, rfl, .inl ⟨rfl, _, .of eR6⟩, _, rfl, R, _, _, rfl, rfl, eR6, by rw [List.length_map]; exact Nat.lt_of_le_of_lt (show as.length ≤ 1000 by omega) (by decide), ?_⟩
        have hRH : H R = none := by
          cases e : H R with
          | none => rfl
          | some o => rw [k02 _ _ nRd e] at hR; cases hR
        have kk : Kp R H6 (upd H6 R (.lst (as.map V.ref ++ [.ref ra]))) := Kp.own
        have tkk := tup_upd (o := .lst (as.map V.ref ++ [.ref ra])) eR6
        have ekk := upd_same (H := H6) (a := R) (o := .lst (as.map V.ref ++ [.ref ra]))
        generalize upd H6 R (.lst (as.map V.ref ++ [.ref ra])) = H7 at kk tkk ekk ⊢
        refine ⟨_, _, _, _, _, as ++ [ra], c ++ [row], rfl, fun b o nb hb => kk _ _ (ne_of_none hb hRH) (k6 _ _ nb hb), ?_, kk _ _ nRO.symm eo6, by rw [ekk, List.map_append]; rfl, ?_, by rw [List.length_append, hcl]; rfl, fun r hr => ?_, fun a ha => ?_⟩
        · obtain ⟨o, y⟩ := d6
          exact ⟨o, kk _ _ nRd.symm y⟩
        · exact My.RP.snoc (My.RP.keep R6 (fun a ha o h => kk _ _ (has a ha).2 h) tkk) (kk _ _ naR er6) (by omega) fun k b hb => by obtain ⟨t, l, g1, g2⟩ := hbs k b hb; exact ⟨t, l, g1, tkk _ _ g2⟩
        · rcases List.mem_append.mp hr with y | y
          · exact hcw r y
          · rw [List.mem_singleton.mp y]; exact ⟨by omega, hrw⟩
        · rcases List.mem_append.mp ha with y | y
          · exact has a y
          · rw [List.mem_singleton.mp y]; exact ⟨nad, naR⟩
    · rintro σ H4 ⟨v8, v9, v10, v11, v12, as, c, rfl, k4, d4, eo4, eR4, R4, hcl, hcw, has⟩
      refine ⟨_, rfl, _, rfl, by show 2 ≤ sizeLine; decide, fun t ht => ?_⟩
      have s5 := same_new (o := .tup [.ref OA, .ref R]) ht
      refine q _ t OA R as op c (k4.trans (Same.kp s5)) (d4.same s5) upd_same (s5 _ _ eo4) ⟨s5 _ _ eR4, R4.same s5⟩ nOd.symm nRd.symm (fun a ha => (has a ha).1) ⟨i1, o1, l0, l1, by omega, fun z => by rw [z] at hcl; simp at hcl; omega, fun r hr => (hcw r hr).1, fun r hr p hp => ?_, hop, fun r hr p hp => ?_⟩ (by omega)
      · obtain ⟨g1, g2, _⟩ := (hcw r hr).2 p hp
        exact ⟨g1, by omega⟩
      · obtain ⟨_, _, g⟩ := (hcw r hr).2 p hp
        exact g
abbrev VN (n : Nat) : V := .int (n : Int)
theorem nw {H H1 : Hp} {p : Addr} {o : HO} (hp : H p = none) (e : upd H p o = H1) : Same H H1 ∧ H1 p = some o := e ▸ ⟨same_new hp, upd_same⟩
theorem mw {H0 H H1 : Hp} {p : Addr} {o : HO} (s : Same H0 H) (hp : H0 p = none) (e : upd H p o = H1) : Same H0 H1 ∧ H1 p = some o ∧ ∀ q, q ≠ p → H1 q = H q := e ▸ ⟨fun b x hb => by
  rw [upd_ne (ne_of_none hb hp)]
  exact s _ _ hb, upd_same, fun q hq => upd_ne hq⟩
theorem mwt {H H1 : Hp} {p : Addr} {o : HO} {l : List V} (h : H p = some (.lst l)) (e : upd H p o = H1) : ∀ b xs, H b = some (.tup xs) → H1 b = some (.tup xs) := e ▸ fun b xs hb => by
  rw [upd_ne (fun z => by rw [z, h] at hb; cases hb)]
  exact hb
theorem iteB_t {c : Bool} {A B : Prop} (e : c = true) (h : A) : if c = true then A else B := by rw [if_pos e]; exact h
theorem iteB_f {c : Bool} {A B : Prop} (e : c = false) (h : B) : if c = true then A else B := by rw [if_neg (by rw [e]; exact Bool.false_ne_true)]; exact h
theorem snocg {α : Type} {xs : List α} {x y : α} {j : Nat} (h : (xs ++ [x])[j]? = some y) : (j < xs.length ∧ xs[j]? = some y) ∨ (j = xs.length ∧ y = x) := by
  rcases Nat.lt_or_ge j xs.length with c | c
  · rw [List.getElem?_append_left c] at h
    exact .inl ⟨c, h⟩
  · rw [List.getElem?_append_right c] at h
    have e : j - xs.length = 0 := by
      cases e : j - xs.length with
      | zero => rfl
      | succ n => rw [e] at h; cases h
    rw [e] at h
    exact .inr ⟨by omega, (Option.some.inj h).symm⟩
theorem nats_get {xs : List Nat} {j : Nat} {y : V} (h : (xs.map VN)[j]? = some y) : ∃ t, xs[j]? = some t ∧ y = VN t := by
  rw [List.getElem?_map] at h
  cases e : xs[j]? with
  | none => rw [e] at h; cases h
  | some t => rw [e] at h; exact ⟨t, rfl, (Option.some.inj h).symm⟩
theorem refsg {as : List Addr} {i : Nat} {v : V} (h : (as.map V.ref)[i]? = some v) : ∃ a, as[i]? = some a ∧ v = .ref a := by
  rw [List.getElem?_map] at h
  cases e : as[i]? with
  | none => rw [e] at h; cases h
  | some z => rw [e] at h; exact ⟨z, rfl, (Option.some.inj h).symm⟩
theorem mapg {α β : Type} {f : α → β} {xs : List α} {i : Nat} {y : β} (h : (xs.map f)[i]? = some y) : ∃ x, xs[i]? = some x ∧ y = f x := by
  rw [List.getElem?_map] at h
  cases e : xs[i]? with
  | none => rw [e] at h; cases h
  | some z => rw [e] at h; exact ⟨z, rfl, (Option.some.inj h).symm⟩
theorem atN {α : Type} {f : α → V} {xs : List α} {i : Nat} {x : α} (h : xs[i]? = some x) : atI (xs.map f) (i : Int) = some (f x) := atI_nat (by rw [List.getElem?_map, h]; rfl)
theorem lt_of_get {α : Type} {xs : List α} {i : Nat} {x : α} (h : xs[i]? = some x) : i < xs.length := (List.getElem?_eq_some_iff.mp h).1
theorem Same_fr {H H' : Hp} {p : Addr} (s : Same H H') (h : H' p = none) : H p = none := by
  cases e : H p with
  | none => rfl
  | some o => rw [s _ _ e] at h; cases h
def ts (n : Int) : Str := Str.ofString (toString n)
theorem ts_len {n : Int} (h0 : 0 ≤ n) (h1 : n < 1000000000000000000) : (ts n).length ≤ 18 := toString_length_le h0 (by decide) h1
theorem log_lt {n : Int} (h0 : 0 ≤ n) (h1 : n < 1000000000000000000) : n.natAbs.log2 < 1920 := by
  have : n.natAbs < 2 ^ 1920 := by
    have : n.natAbs < 1000000000000000000 := by omega
    exact Nat.lt_of_lt_of_le this (Nat.le_trans (show 1000000000000000000 ≤ 2 ^ 60 by decide) (Nat.pow_le_pow_right (by decide) (by decide)))
  by_cases z : n.natAbs = 0
  · rw [z]; decide
  · exact (Nat.log2_lt z).mpr this
section
open TL
theorem take_get {α : Type} {xs : List α} {i : Nat} {x : α} (h : xs[i]? = some x) : xs.take (i + 1) = xs.take i ++ [x] := by
  rw [List.take_add_one, h]
  rfl
theorem tsl {n : Int} (h : n.natAbs.log2 < 1920) : (ts n).length ≤ 1921 := int_text_len_1921 h
theorem log_mono {a b : Nat} (h : a ≤ b) (hb : b.log2 < 1920) : a.log2 < 1920 := by
  by_cases z : a = 0
  · rw [z]; decide
  · exact (Nat.log2_lt z).mpr (Nat.lt_of_le_of_lt h ((Nat.log2_lt (by omega)).mp hb))
theorem ts_nat (m : Nat) : tl (ts (m : Int)) = numL m := tl_num m
theorem joinE : ∀ ps : List Str, tl (Txt.join (Str.ofString "") ps) = (ps.map tl).flatten
  | ps => by
    rw [join_eq, tl_join]
    have e : tl (Str.ofString "") = [] := by decide +kernel
    rw [e]
    generalize ps.map tl = ls
    induction ls with
    | nil => rfl
    | cons l ls ih =>
      cases ls with
      | nil => simp [joinL]
      | cons m ls =>
        show l ++ ([] ++ joinL [] (m :: ls)) = _
        rw [ih]
        rfl
theorem sum_tl : ∀ ps : List Str, (ps.map (·.length)).sum = ((ps.map tl).flatten).length
  | [] => rfl
  | p :: ps => by
    rw [List.map_cons, List.sum_cons, List.map_cons, List.flatten_cons, List.length_append, sum_tl ps, len_tl]
def isD (c : Nat) : Bool := decide (48 ≤ c ∧ c ≤ 57)
def natF (l : List Nat) : Option Nat := if l = [] ∨ (l[0]? = some 48 ∧ 1 < l.length) then none else if l.all isD = true then some (NumText.digitsVal l) else none
def natV : Option Nat → V
  | some n => .int (n : Int)
  | none => .non
theorem dig_tl : (Str.ofString "0123456789").cps.toList = [48, 49, 50, 51, 52, 53, 54, 55, 56, 57] := by decide +kernel
theorem dig_mem (c : Nat) : decide (c ∈ (Str.ofString "0123456789").cps.toList) = isD c := by
  rw [dig_tl]
  unfold isD
  congr 1
  simp only [List.mem_cons, List.not_mem_nil, or_false]
  apply propext
  omega
theorem dig_ix {c : Nat} (h : isD c = true) : Builtin.Str.occurrences (Str.ofString "0123456789") ⟨#[c]⟩ 0 (Str.ofString "0123456789").length 1 = [c - 48] := by
  have h := of_decide_eq_true h
  rcases (show c = 48 ∨ c = 49 ∨ c = 50 ∨ c = 51 ∨ c = 52 ∨ c = 53 ∨ c = 54 ∨ c = 55 ∨ c = 56 ∨ c = 57 by omega) with rfl | rfl | rfl | rfl | rfl | rfl | rfl | rfl | rfl | rfl <;> decide +kernel
theorem dv_snoc (l : List Nat) (c : Nat) : NumText.digitsVal (l ++ [c]) = NumText.digitsVal l * 10 + (c - 48) := by
  unfold NumText.digitsVal
  rw [List.foldl_append]
  rfl
theorem cps_tl {x : Str} {i c : Nat} (h : x.cps[i]? = some c) : (tl x)[i]? = some c := by rw [← h]; exact Array.getElem?_toList
theorem str_nil {x : Str} : x = Str.ofString "" ↔ tl x = [] := by
  have e : tl (Str.ofString "") = [] := by decide +kernel
  constructor
  · rintro rfl; exact e
  · intro h; exact ext_tl (by rw [h, e])
theorem str_one {c d : Nat} {s : String} (e : tl (Str.ofString s) = [d]) : (⟨#[c]⟩ : Str) = Str.ofString s ↔ c = d := by
  constructor
  · intro h
    have : tl (⟨#[c]⟩ : Str) = tl (Str.ofString s) := by rw [h]
    rw [e] at this
    exact (List.cons.inj this).1
  · rintro rfl; exact ext_tl (by rw [e])
theorem dec_str {x y : Str} : decide (V.str x = V.str y) = decide (x = y) := by
  by_cases c : x = y
  · rw [c, decide_eq_true rfl, decide_eq_true rfl]
  · rw [decide_eq_false c, decide_eq_false fun z => c (V.str.inj z)]
theorem ite_s {x y : Str} {A B : Prop} (h1 : x = y → A) (h2 : x ≠ y → B) : if decide (V.str x = V.str y) = true then A else B := by
  rw [dec_str]
  exact ite2 (fun k => h1 (of_decide_eq_true k)) (fun k => h2 fun z => k (decide_eq_true z))
def spNat : Sp := fun vs H Q _ => ∃ x : Str, vs = [.str x] ∧ x.length ≤ 100000 ∧ Q (natV (natF (tl x))) H
theorem cal_nat {tk : Tok} (T : Txt K mg) (gDI : mg "DIGITS" = some (.str "0123456789" tk)) : C8.Cal P w K mg base 1 "natural" spNat [] := by
  obtain ⟨f, fd, F, hm, hb⟩ := T.h_natural
  refine ⟨f, fd, _, [], F.ok sc_natural (fun vs H Q E h => ?_) (fun cdv A outer s H vs Q E hr h => ?_), hm, F.kp, hb, .nil⟩
  · obtain ⟨n, rfl, _⟩ := h
    rfl
  · obtain ⟨x, rfl, hx, q⟩ := h
    refine ⟨_, (C8.pss_cut
      (ps_if (PW.pt (pw_or (pt_cmpR op_eq (pv 0) pe_str (nomark _)) (pw_or1 (PW.pt (pw_and (pt_cmpR op_eq (pe_ix ix_str (pv 0) pe_int (fun _ _ => rfl)) pe_str (nomark _)) (pw_and1 (pt_cmpR op_gt (pe_callB call_len_str (by rfl) T.z_len PySem.boot_len (pa_cons (pv 0) pa_nil)) pe_int (nomark _)))))))) (pss_one
      (ps_ret pe_non)) pss_nil)
      (pss_cons
      (ps_set (i := 1) sc_natural.nd rfl (Or.inl rfl) pe_int)
      (pss_cons
      (ps_for PassesOwn.never rfl (pi_str (pv 0)) (pg_name (i := 2) sc_natural.nd rfl (.inl rfl)) (pss_cons
      (ps_if (pt_cmpR op_notIn_sign (pv 2) (pe_glob (v := .str "0123456789") (by rfl) gDI ⟨_, rfl⟩) (by rfl)) (pss_one
      (ps_ret pe_non)) pss_nil)
      (pss_one
      (ps_set (i := 1) sc_natural.nd rfl (Or.inl rfl) (pe_op op_add (pe_op op_mul pe_int (pv 1)) (pe_m1 PySem.F.slot_str_index PySem.F.type_str_index mt_sindex (pe_glob (v := .str "0123456789") (by rfl) gDI ⟨_, rfl⟩) (pv 2)))))))
      (pss_one
      (ps_ret (pv 1)))))), ?_⟩
    have hz : x.length ≤ sizeLine := Nat.le_trans hx (by decide)
    have t48 : tl (Str.ofString "0") = [48] := by decide +kernel
    by_cases hne : tl x = []
    · rw [show natF (tl x) = none from if_pos (.inl hne)] at q
      exact ⟨fun _ _ => False, ⟨_, rfl, rfl, _, rfl, ite_s (fun k => q) (fun k => absurd (str_nil.mpr hne) k)⟩, fun _ _ h => h.elim⟩
    obtain ⟨c0, r0, ex⟩ := List.exists_cons_of_ne_nil hne
    have hloop : ¬ (tl x = [] ∨ ((tl x)[0]? = some 48 ∧ 1 < (tl x).length)) → (Q (natV (if (tl x).all isD = true then some (NumText.digitsVal (tl x)) else none)) H) := fun h => by
      rw [show natF (tl x) = _ from if_neg h] at q
      exact q
    have at0 : atI x.cps.toList 0 = some c0 := atI_nat (j := 0) (by rw [show x.cps.toList = c0 :: r0 from ex]; rfl)
    have h0 : (tl x)[0]? = some c0 := by rw [ex]; rfl
    have hlen : x.length = (tl x).length := len_tl x
    refine ⟨fun σ H' => σ = [some (.str x), none, none] ∧ H' = H ∧ Q (natV (if (tl x).all isD = true then some (NumText.digitsVal (tl x)) else none)) H, ?_, ?_⟩
    · refine ⟨_, rfl, rfl, _, rfl, ite_s (fun k => absurd (str_nil.mp k) hne) (fun _ => ?_)⟩
      refine ⟨_, rfl, x, 0, c0, rfl, rfl, hz, at0, rfl, _, rfl, ite_s (fun k1 => ?_) (fun k1 => ?_)⟩
      · refine ⟨_, rfl, x, rfl, hz, _, _, rfl, rfl, _, rfl, ite2 (fun k2 => ?_) (fun k2 => ?_)⟩
        · rw [show natF (tl x) = none from if_pos (.inr ⟨by rw [h0, (str_one t48).mp k1], by have := of_decide_eq_true k2; omega⟩)] at q
          exact q
        · exact ⟨rfl, rfl, hloop (fun z => by
            rcases z with z | z
            · exact hne z
            · exact k2 (decide_eq_true (by omega)))⟩
      · exact ite_f rfl ⟨rfl, rfl, hloop (fun z => by
          rcases z with z | z
          · exact hne z
          · rw [h0] at z; exact k1 ((str_one t48).mpr (Option.some.inj z.1)))⟩
    rintro σ H' ⟨rfl, rfl, q2⟩
    clear q hloop
    have hsz : x.cps.size = (tl x).length := hlen
    refine ⟨_, rfl, x, rfl, for_str (x := x) (fun i σ H2 => ∃ v2 : Option V, σ = [some (.str x), some (.int ((NumText.digitsVal ((tl x).take i) : Nat) : Int)), v2] ∧ H2 = H' ∧ ((tl x).take i).all isD = true)
      ⟨_, rfl, rfl, rfl⟩ ?_ ?_⟩
    · rintro i c σ H2 hc ⟨v2, rfl, rfl, hall⟩
      have hc2 := cps_tl hc
      refine ⟨_, rfl, c, _, rfl, rfl, _, rfl, ?_⟩
      rw [dig_mem]
      cases hd : isD c with
      | false =>
        rw [show (tl x).all isD = false from by
          rw [List.all_eq_false]
          exact ⟨c, List.mem_of_getElem? hc2, by rw [hd]; exact Bool.false_ne_true⟩] at q2
        exact q2
      | true =>
        have hr := of_decide_eq_true hd
        refine ⟨_, rfl, _, _, rfl, rfl, .inl ⟨by decide, by decide⟩, ⟨_, rfl⟩, _, rfl, _, _, c - 48, [], rfl, rfl, dig_ix hd, _, _, rfl, rfl, some (.str ⟨#[c]⟩), ?_, rfl, ?_⟩
        · rw [take_get hc2, dv_snoc]
          have e : (10 : Int) * ((NumText.digitsVal ((tl x).take i) : Nat) : Int) + ((c - 48 : Nat) : Int) = ((NumText.digitsVal ((tl x).take i) * 10 + (c - 48) : Nat) : Int) := by omega
          rw [← e]
          rfl
        · rw [take_get hc2, List.all_append, hall]
          show (true && (isD c && true)) = true
          rw [hd]
          rfl
    rintro σ H2 ⟨v2, rfl, rfl, hall⟩
    rw [hsz, List.take_length] at hall ⊢
    rw [if_pos hall] at q2
    exact ⟨_, rfl, q2⟩
theorem sapp (a b c : Str) : a ++ b ++ c = a ++ (b ++ c) := by
  apply ext_tl
  show (a.cps ++ b.cps ++ c.cps).toList = (a.cps ++ (b.cps ++ c.cps)).toList
  rw [Array.append_assoc]
theorem tl_app (a b : Str) : tl (a ++ b) = tl a ++ tl b := by
  show (a.cps ++ b.cps).toList = _
  rw [Array.toList_append]
theorem slen (a b : Str) : (a ++ b).length = a.length + b.length := by rw [len_tl, len_tl, len_tl, tl_app, List.length_append]
def sE : Str := Str.ofString ""
def sN : Str := Str.ofString "\n"
def sB : Str := Str.ofString " "
theorem tl_sE : tl sE = [] := by decide +kernel
theorem tl_sN : tl sN = [10] := by decide +kernel
theorem tl_sB : tl sB = [32] := by decide +kernel
theorem tl_jn (y : Str) (ps : List Str) : tl (Txt.join y ps) = joinL (tl y) (ps.map tl) := by rw [join_eq, tl_join]
theorem joinL_cons (S l m : List Nat) (ls : List (List Nat)) : joinL S (l :: m :: ls) = l ++ (S ++ joinL S (m :: ls)) := rfl
theorem joinL_end (S : List Nat) : ∀ ls : List (List Nat), joinL S (ls ++ [[]]) = (ls.map (· ++ S)).flatten
  | [] => rfl
  | [l] => by
    show l ++ (S ++ []) = (l ++ S) ++ []
    rw [List.append_nil, List.append_nil]
  | l :: m :: ls => by
    show l ++ (S ++ joinL S ((m :: ls) ++ [[]])) = (l ++ S) ++ ((m :: ls).map (· ++ S)).flatten
    rw [joinL_end S (m :: ls), List.append_assoc]
theorem mem_joinL {S : List Nat} {s : Nat} : ∀ {ps : List (List Nat)}, s ∈ joinL S ps → s ∈ S ∨ ∃ p ∈ ps, s ∈ p
  | [], h => by cases h
  | [p], h => .inr ⟨p, List.mem_singleton.mpr rfl, h⟩
  | p :: q :: ps, h => by
    rw [joinL_cons] at h
    rcases List.mem_append.mp h with h | h
    · exact .inr ⟨p, List.mem_cons_self, h⟩
    · rcases List.mem_append.mp h with h | h
      · exact .inl h
      · rcases mem_joinL h with h | ⟨r, h1, h2⟩
        · exact .inl h
        · exact .inr ⟨r, List.mem_cons_of_mem _ h1, h2⟩
theorem joinL_len (S : List Nat) {k : Nat} : ∀ ps : List (List Nat), (∀ p ∈ ps, p.length ≤ k) → (joinL S ps).length ≤ (k + S.length) * ps.length
  | [], _ => by simp [joinL]
  | [p], h => by
    have := h p List.mem_cons_self
    show p.length ≤ (k + S.length) * 1
    omega
  | p :: q :: ps, h => by
    have h1 := h p List.mem_cons_self
    have h2 := joinL_len S (q :: ps) fun r hr => h r (List.mem_cons_of_mem _ hr)
    rw [joinL_cons, List.length_append, List.length_append, List.length_cons, Nat.mul_succ]
    omega
theorem jlen {y : Str} {ps : List Str} {k : Nat} (h : ∀ p ∈ ps, p.length ≤ k) : (Txt.join y ps).length ≤ (k + y.length) * ps.length := by
  rw [len_tl, tl_jn, len_tl]
  have := joinL_len (tl y) (k := k) (ps.map tl) fun p hp => by
    obtain ⟨z, hz, rfl⟩ := List.mem_map.mp hp
    rw [← len_tl]
    exact h z hz
  rw [List.length_map] at this
  exact this
theorem slens {k : Nat} : ∀ {ps : List Str}, (∀ p ∈ ps, p.length ≤ k) → (ps.map (·.length)).sum ≤ k * ps.length
  | [], _ => by simp
  | p :: ps, h => by
    have h1 := h p List.mem_cons_self
    have h2 := slens (ps := ps) fun r hr => h r (List.mem_cons_of_mem _ hr)
    rw [List.map_cons, List.sum_cons, List.length_cons, Nat.mul_succ]
    omega
theorem ts_free0 {n : Int} (h : 0 ≤ n) {s : Nat} (hs : s < 48 ∨ 57 < s) : s ∉ tl (ts n) := by
  rw [show n = ((n.toNat : Nat) : Int) by omega, ts_nat]
  exact numL_free hs
theorem ts_neg {n : Int} (h : n < 0) : tl (ts n) = 45 :: numL n.natAbs := by
  show tl (Str.ofString (toString n)) = _
  rw [toString_neg h, tl_ofString, String.toList_append, List.map_append, show (0 : Int) - n = ((n.natAbs : Nat) : Int) by omega, ← ts_nat]
  show _ = 45 :: tl (Str.ofString (toString ((n.natAbs : Nat) : Int)))
  rw [tl_ofString]
  rfl
theorem ts_free {n : Int} {s : Nat} (hs : s < 45) : s ∉ tl (ts n) := by
  by_cases h : n < 0
  · rw [ts_neg h]
    intro z
    rcases List.mem_cons.mp z with z | z
    · omega
    · exact numL_free (.inl (by omega)) z
  · exact ts_free0 (by omega) (.inl (by omega))
theorem numL_head (n : Nat) : 10 ≤ n → ∃ c r, numL n = c :: r ∧ c ≠ 48 := by
  induction n using Nat.strongRecOn with
  | _ n ih =>
    intro h
    rw [numL_step h]
    by_cases g : n / 10 < 10
    · rw [numL_lt g]
      exact ⟨48 + n / 10, [48 + n % 10], rfl, by omega⟩
    · obtain ⟨c, r, e, hc⟩ := ih (n / 10) (by omega) (by omega)
      exact ⟨c, r ++ [48 + n % 10], by rw [e]; rfl, hc⟩
theorem natF_num (n : Nat) : natF (numL n) = some n := by
  unfold natF
  have hd : (numL n).all isD = true := List.all_eq_true.mpr fun c hc => decide_eq_true (numL_digits n c hc)
  rw [if_neg, if_pos hd, numL_val]
  rintro (h | ⟨h1, h2⟩)
  · exact numL_ne n h
  · by_cases g : n < 10
    · rw [numL_lt g] at h2
      simp at h2
    · obtain ⟨c, r, e, hc⟩ := numL_head n (by omega)
      rw [e] at h1
      exact hc (Option.some.inj h1)
theorem tl_hi (z : Str) (k : Nat) : tl (cutS z none (some (k : Int))) = (tl z).take k := by
  show ((z.cps.toList.drop (HT.sIx z.length 0 none)).take (HT.sIx z.length z.length (some (k : Int)) - HT.sIx z.length 0 none)) = _
  rw [HT.sIx_none, HT.sIx_nat, List.drop_zero, Nat.sub_zero, len_tl]
  exact List.take_eq_take_iff.mpr (by simp [tl])
theorem tl_lo (z : Str) (k : Nat) : tl (cutS z (some (k : Int)) none) = (tl z).drop k := by
  show ((z.cps.toList.drop (HT.sIx z.length 0 (some (k : Int)))).take (HT.sIx z.length z.length none - HT.sIx z.length 0 (some (k : Int)))) = _
  rw [HT.sIx_none, HT.sIx_nat]
  have hl := len_tl z
  rcases Nat.lt_or_ge k z.length with h | h
  · rw [show min k z.length = k by omega]
    exact List.take_of_length_le (by rw [List.length_drop, ← hl]; exact Nat.le_refl _)
  · rw [show min k z.length = z.length by omega, List.drop_eq_nil_of_le (by rw [← hl]; exact Nat.le_refl _), List.drop_eq_nil_of_le (by rw [← hl]; exact h), List.take_nil]
theorem ite_sn {x y : Str} {A B : Prop} (h1 : x ≠ y → A) (h2 : x = y → B) : if (!decide (V.str x = V.str y)) = true then A else B := by
  rw [dec_str]
  by_cases h : x = y
  · rw [decide_eq_true h]
    exact iteF (h2 h)
  · rw [decide_eq_false h]
    exact iteT (h1 h)
theorem at0 {x : V} {xs : List V} : atI (x :: xs) 0 = some x := atI_nat (j := 0) rfl
def whV (l : List Nat) : V := if l.take 1 = [45] then (match natF (l.drop 1) with | some (n + 1) => .int (-((n + 1 : Nat) : Int)) | _ => .non) else natV (natF l)
def spWh : Sp := fun vs H Q _ => ∃ x : Str, vs = [.str x] ∧ x.length ≤ 10000 ∧ Q (whV (tl x)) H
theorem cal_wh {tk : Tok} (T : Txt K mg) (gDI : mg "DIGITS" = some (.str "0123456789" tk)) : C8.Cal P w K mg base 2 "whole" spWh [] := by
  have C_natural : C8.Cal P w K mg base 1 "natural" spNat [] := cal_nat T gDI
  obtain ⟨f, fd, F, hm, hb⟩ := T.h_whole
  refine ⟨f, fd, _, [], F.ok sc_whole (fun vs H Q E h => ?_) (fun cdv A outer s H vs Q E hr h => ?_), hm, F.kp, hb, .nil⟩
  · obtain ⟨n, rfl, _⟩ := h
    rfl
  · obtain ⟨x, rfl, hle, q⟩ := h
    refine ⟨_, (pss_cons
      (ps_if (pt_cmpR op_ne (pe_slice sl_str (pv 0) po_none (po_some pe_int)) pe_str (nomark _)) (pss_one
      (ps_ret (C8.pe_c C_natural hr (by decide) (by rfl) (pa_cons (pv 0) pa_nil)))) pss_nil)
      (pss_cons
      (ps_set (i := 1) sc_whole.nd rfl (Or.inl rfl) (C8.pe_c C_natural hr (by decide) (by rfl) (pa_cons (pe_slice sl_str (pv 0) (po_some pe_int) po_none) pa_nil)))
      (pss_one
      (ps_ret (pe_ifExp (PW.pt (pw_or (pt_cmpR op_isN (pv 1) pe_non (nomark _)) (pw_or1 (pt_cmpR op_eq (pv 1) pe_int (nomark _))))) pe_non (pe_un un_neg (pv 1))))))), ?_⟩
    refine ⟨_, rfl, (1 : Int), rfl, x, rfl, Nat.le_trans hle (by decide), ?_⟩
    have t45 : tl (Str.ofString "-") = [45] := by decide +kernel
    have ecut : tl (cutS x none (some 1)) = (tl x).take 1 := tl_hi x 1
    refine ⟨rfl, _, rfl, ite_sn (fun k => ?_) (fun k => ?_)⟩
    · have hc : ¬ (tl x).take 1 = [45] := fun z => k (ext_tl (by rw [t45, ecut]; exact z))
      refine ⟨_, rfl, x, rfl, by omega, ?_⟩
      unfold whV at q
      rw [if_neg hc] at q
      exact q
    · have hc : (tl x).take 1 = [45] := by rw [← ecut, k, t45]
      have e2 : tl (cutS x (some 1) none) = (tl x).drop 1 := tl_lo x 1
      unfold whV at q
      rw [if_pos hc] at q
      refine ⟨_, rfl, (1 : Int), rfl, x, rfl, Nat.le_trans hle (by decide), cutS x (some 1) none, rfl, Nat.le_trans (cutS_length _ _ _) (by omega), ?_⟩
      rw [e2]
      cases e : natF ((tl x).drop 1) with
      | none =>
        rw [e] at q
        refine ⟨_, rfl, rfl, _, rfl, ite_t rfl ?_⟩
        exact q
      | some m =>
        rw [e] at q
        refine ⟨_, rfl, rfl, _, rfl, ite_f rfl ⟨_, rfl, rfl, _, rfl, ?_⟩⟩
        cases m with
        | zero => exact ite_eq (fun _ => q) (fun k2 => absurd rfl k2)
        | succ m => exact ite_eq (fun k2 => absurd k2 (by omega)) (fun _ => ⟨_, rfl, _, rfl, q⟩)
theorem cut_last (xs : List V) : cutV xs none (some (-1)) = xs.dropLast := by
  unfold cutV
  rw [HT.sIx_none]
  show (xs.drop 0).take ((-1 + (xs.length : Int)).toNat - 0) = _
  rw [List.drop_zero, Nat.sub_zero, List.dropLast_eq_take]
  congr 1
  omega
theorem sw_iff (l v : Str) : Txt.startswith l v = true ↔ (tl l).take (tl v).length = tl v := by
  unfold Txt.startswith
  rw [Bool.and_eq_true, StrLaws.subAt_eq, List.drop_zero, beq_iff_eq, len_tl v]
  constructor
  · exact fun h => h.2
  · intro h
    refine ⟨decide_eq_true ?_, h⟩
    have := congrArg List.length h
    rw [List.length_take] at this
    rw [len_tl]
    omega
theorem cut_lo (l v : Str) : tl (cutS l (some (v.length : Int)) none) = (tl l).drop (tl v).length := by rw [tl_lo, len_tl]
end
section
open TL
/-! words -/
def wds (l : Str) : List Str := Txt.split l sB
theorem spl_ne (S : List Nat) : ∀ (k : Nat) (acc l : List Nat), spl S k acc l ≠ []
  | k, acc, [] => by rw [spl_nil]; simp
  | 0, acc, c :: r => by
    show (if pre S (c :: r) = true then acc :: spl S (S.length - 1) [] r else spl S 0 (acc ++ [c]) r) ≠ []
    split
    · simp
    · exact spl_ne S 0 _ r
  | k + 1, acc, _ :: r => spl_ne S k acc r
theorem spl_le (S : List Nat) : ∀ (k : Nat) (acc l : List Nat), (∀ p ∈ spl S k acc l, p.length ≤ acc.length + l.length) ∧ (spl S k acc l).length ≤ l.length + 1
  | k, acc, [] => by rw [spl_nil]; simp
  | 0, acc, c :: r => by
    show (∀ p ∈ (if pre S (c :: r) = true then acc :: spl S (S.length - 1) [] r else spl S 0 (acc ++ [c]) r), _) ∧ (if pre S (c :: r) = true then acc :: spl S (S.length - 1) [] r else spl S 0 (acc ++ [c]) r).length ≤ _
    split
    · have := spl_le S (S.length - 1) [] r
      refine ⟨fun p hp => ?_, by simp only [List.length_cons]; omega⟩
      rcases List.mem_cons.mp hp with rfl | hp
      · omega
      · have h := this.1 p hp
        simp only [List.length_cons, List.length_nil] at h ⊢
        omega
    · have := spl_le S 0 (acc ++ [c]) r
      refine ⟨fun p hp => ?_, by simp only [List.length_cons]; omega⟩
      have h := this.1 p hp
      rw [List.length_append, List.length_singleton] at h
      rw [List.length_cons]
      omega
  | k + 1, acc, c :: r => by
    have := spl_le S k acc r
    exact ⟨fun p hp => by have h := this.1 p hp; rw [List.length_cons]; omega, by show (spl S k acc r).length ≤ _; rw [List.length_cons]; omega⟩
theorem k1 (l : Str) : ¬ Builtin.Str.strKind l < Builtin.Str.strKind sB := kind_ok (by decide +kernel)
theorem wds_tl (l : Str) : (wds l).map tl = spl [32] 0 [] (tl l) := by
  have := split_spl l sB (by rw [tl_sB]; simp) (k1 l)
  rw [tl_sB] at this
  exact this
theorem wds_ne (l : Str) : wds l ≠ [] := fun z => by
  have := wds_tl l
  rw [z] at this
  exact spl_ne _ _ _ _ this.symm
theorem wds_le (l : Str) : (∀ p ∈ wds l, p.length ≤ l.length) ∧ (wds l).length ≤ l.length + 1 := by
  have h := spl_le [32] 0 [] (tl l)
  rw [← wds_tl] at h
  refine ⟨fun p hp => ?_, ?_⟩
  · have := h.1 (tl p) (List.mem_map_of_mem hp)
    rw [List.length_nil, Nat.zero_add] at this
    rw [len_tl p, len_tl l]
    exact this
  · have := h.2
    rw [List.length_map] at this
    rw [len_tl l]
    exact this
def sQ : Str := Str.ofString "/"
theorem tl_sQ : tl sQ = [47] := by decide +kernel
def wdq (l : Str) : List Str := Txt.split l sQ
theorem wdq_tl (l : Str) : (wdq l).map tl = spl [47] 0 [] (tl l) := by
  have := split_spl l sQ (by rw [tl_sQ]; simp) (kind_ok (by decide +kernel))
  rw [tl_sQ] at this
  exact this
theorem wdq_le (l : Str) : (∀ p ∈ wdq l, p.length ≤ l.length) ∧ (wdq l).length ≤ l.length + 1 := by
  have h := spl_le [47] 0 [] (tl l)
  rw [← wdq_tl] at h
  refine ⟨fun p hp => ?_, ?_⟩
  · have := h.1 (tl p) (List.mem_map_of_mem hp)
    rw [List.length_nil, Nat.zero_add] at this
    rw [len_tl p, len_tl l]
    exact this
  · have := h.2
    rw [List.length_map] at this
    rw [len_tl l]
    exact this
end
section
open TL
/-- the error leaves, what was there stays -/
def XM (cM : Addr) (H : Hp) (E : XK) : Prop := ∀ H', Same H H' → E (.ref cM) none H'
theorem XM.mono {cM : Addr} {H H1 : Hp} {E : XK} (q : XM cM H E) (s : Same H H1) : XM cM H1 E := fun H' s' => q H' (s.trans s')
section
variable {cM : Addr}
def spCk (cM : Addr) : Sp := fun vs H Q E => ∃ v : V, vs = [v] ∧ ((v = .non ∧ XM cM H E) ∨ ∃ n : Int, v = .int n ∧ Q (.int n) H)
theorem cal_ck (T : Txt K mg) (eM : ErrC K mg "MachineSyntaxError" cM) : CalX P w K mg base 1 "checked" (spCk cM) := by
  obtain ⟨f, fd, F, hm, hb⟩ := T.h_checked
  refine ⟨f, fd, _, F.okX sc_checked (fun vs H Q E h => ?_) (fun cdv A outer s H vs Q E hr h => ?_), hm, F.kp, hb⟩
  · obtain ⟨v, rfl, _⟩ := h
    rfl
  · obtain ⟨v, rfl, h⟩ := h
    refine ⟨_, (pss_cons
      (ps_if (pt_cmpR op_isN (pv 0) pe_non (nomark _)) (pss_one
      (ps_raise rfl (takes_of rfl rfl rfl rfl) (eM.made rfl))) pss_nil)
      (pss_one
      (ps_ret (pv 0)))), ?_⟩
    rcases h with ⟨rfl, q⟩ | ⟨n, rfl, q⟩
    · exact ⟨_, rfl, rfl, _, rfl, ite_t rfl (q H (Same.refl H))⟩
    · exact ⟨_, rfl, rfl, _, rfl, ite_f rfl ⟨_, rfl, q⟩⟩
def spRnM (cM : Addr) : Sp := fun vs H Q E => ∃ x : Str, vs = [.str x] ∧ x.length ≤ 100000 ∧ (natF (tl x) = none → XM cM H E) ∧ ∀ n : Nat, natF (tl x) = some n → Q (.int (n : Int)) H
theorem cal_rnM {tk : Tok} (T : Txt K mg) (eM : ErrC K mg "MachineSyntaxError" cM) (gDI : mg "DIGITS" = some (.str "0123456789" tk)) : CalX P w K mg base 2 "read_natural" (spRnM cM) := by
  have C_natural : C8.Cal P w K mg base 1 "natural" spNat [] := cal_nat T gDI
  have X_checked : CalX P w K mg base 1 "checked" (spCk cM) := cal_ck T eM
  obtain ⟨f, fd, F, hm, hb⟩ := T.h_read_natural
  refine ⟨f, fd, _, F.okX sc_read_natural (fun vs H Q E h => ?_) (fun cdv A outer s H vs Q E hr h => ?_), hm, F.kp, hb⟩
  · obtain ⟨x, rfl, _⟩ := h
    rfl
  · obtain ⟨x, rfl, hl, qn, qs⟩ := h
    refine ⟨_, (pss_one
      (ps_ret (pe_cx X_checked hr (by decide) (takes_of rfl rfl rfl rfl) (by rfl) (pa_cons (C8.pe_c C_natural hr (by decide) (by rfl) (pa_cons (pv 0) pa_nil)) pa_nil)))), ?_⟩
    refine ⟨_, rfl, x, rfl, hl, ?_⟩
    cases e : natF (tl x) with
    | none => exact ⟨_, rfl, .inl ⟨rfl, qn e⟩⟩
    | some n => exact ⟨_, rfl, .inr ⟨_, rfl, qs n e⟩⟩
/-! words -/
def natW (ws : List Str) : Option (List Nat) := ws.mapM fun w => natF (tl w)
def sO : Str := Str.ofString "opening"
def opR (l : Str) : Option (List Nat) := if (wds l).head? = some sO then natW (wds l).tail else none
def spOpM (cM : Addr) : Sp := fun vs H Q E => ∃ l : Str, vs = [.str l] ∧ l.length ≤ 10000 ∧ wds l ≠ [] ∧ (wds l).length ≤ 10001 ∧ (∀ p ∈ wds l, p.length ≤ 10000) ∧ (opR l = none → XM cM H E) ∧ ∀ ns, opR l = some ns → ∀ (H' : Hp) (p : Addr), Same H H' → H' p = some (.lst (ns.map fun n : Nat => V.int (n : Int))) → Q (.ref p) H'
theorem natW_snoc {ws : List Str} {x : Str} {ns : List Nat} {n : Nat} (h : natW ws = some ns) (e : natF (tl x) = some n) : natW (ws ++ [x]) = some (ns ++ [n]) := by
  unfold natW at h ⊢
  rw [List.mapM_append, h]
  simp [e]
theorem natW_none {a b : List Str} {x : Str} (e : natF (tl x) = none) : natW (a ++ x :: b) = none := by
  unfold natW
  rw [List.mapM_append, List.mapM_cons, e]
  cases a.mapM fun w => natF (tl w) <;> rfl
theorem cal_opM {tk : Tok} (T : Txt K mg) (eM : ErrC K mg "MachineSyntaxError" cM) (gDI : mg "DIGITS" = some (.str "0123456789" tk)) : CalX P w K mg base 3 "read_opening" (spOpM cM) := by
  have X_read_natural : CalX P w K mg base 2 "read_natural" (spRnM cM) := cal_rnM T eM gDI
  obtain ⟨f, fd, F, hm, hb⟩ := T.h_read_opening
  refine ⟨f, fd, _, F.okX sc_read_opening (fun vs H Q E h => ?_) (fun cdv A outer s H vs Q E hr h => ?_), hm, F.kp, hb⟩
  · obtain ⟨l, rfl, _⟩ := h
    rfl
  · obtain ⟨l, rfl, hl, hne, hwl, hpl, qn, qs⟩ := h
    refine ⟨_, (pss_cons
      (ps_set (i := 1) sc_read_opening.nd rfl (Or.inl rfl) (pe_m1 PySem.F.slot_str_split PySem.F.type_str_split mt_split (pv 0) pe_str))
      (pss_cons
      (ps_if (pt_cmpR op_ne (pe_ix (ix_listK (K := K) rfl) (pv 1) pe_int (fun _ _ => rfl)) pe_str (nomark _)) (pss_one
      (ps_raise rfl (takes_of rfl rfl rfl rfl) (eM.made rfl))) pss_nil)
      (pss_one
      (ps_ret (Lcx.pe_lcx (Lcx.Lets.def_ rfl rfl (takes_of rfl rfl rfl rfl) (fun _ _ _ _ _ h => h)) (own := [("piece", 2)]) (g := gName 2) (tt := tYes) rfl sc_read_opening.nd (pi_list (pe_slice (sl_listK (K := K) rfl) (pv 1) (po_some pe_int) po_none)) (blkOk_by (N := N_read_opening) (sc := defScope s_read_opening) (by decide +kernel)) (fun _ _ _ _ _ => (pg_name (i := 2) sc_read_opening.nd rfl (Or.inl rfl))) (fun _ _ _ _ _ => pts_nil) (fun _ _ _ _ _ => (Lcx.pe_cxP X_read_natural hr (by decide) (fun σ => Lcx.passB σ) (by rfl) (pa_cons (pv 2) pa_nil)))))))), ?_⟩
    refine ⟨_, rfl, ⟨_, rfl⟩, l, sB, rfl, rfl, by decide +kernel, Nat.le_trans (Nat.add_le_add_right hl 2) (by decide), fun p1 np1 => ?_⟩
    rw [show Txt.split l sB = wds l from rfl]
    unfold opR at qn qs
    obtain ⟨w0, ws, hw⟩ : ∃ w0 ws, wds l = w0 :: ws := by
      cases e : wds l with
      | nil => exact absurd e hne
      | cons a b => exact ⟨a, b, rfl⟩
    rw [hw] at qn qs hpl hwl ⊢
    generalize hX : upd H p1 _ = H1; obtain ⟨sH1, ep1⟩ := nw np1 hX; clear hX
    refine ⟨_, rfl, p1, _, _, .str w0, rfl, rfl, .of ep1, at0, rfl, _, rfl, ite_sn (fun k => ?_) (fun k => ?_)⟩
    · exact qn (if_neg fun z => k (Option.some.inj z)) H1 sH1
    have hh : (w0 :: ws).head? = some sO := by rw [k]; rfl
    rw [if_pos hh] at qn qs
    have qn : natW ws = none → XM cM H E := qn
    have qs : ∀ ns, natW ws = some ns → _ := qs
    refine ⟨_, rfl, (1 : Int), rfl, p1, _, rfl, .of ep1, fun p2 np2 => ?_⟩
    rw [show cutV ((w0 :: ws).map V.str) (some 1) none = ws.map V.str from cut_drop _ 1]
    generalize hX : upd H1 p2 _ = H2; obtain ⟨sH2, ep2⟩ := nw np2 hX; clear hX
    have s2 := sH1.trans sH2
    refine ⟨p2, rfl, ⟨_, .of ep2⟩, fun D hD => lc_list (K := K) (a := p2) (xs := ws.map V.str) (fun i H' => Same H2 H' ∧ ∃ ns : List Nat, natW (ws.take i) = some ns ∧ H' D = some (.lst (ns.map fun n : Nat => V.int (n : Int))) ∧ ns.length ≤ i) ⟨same_new hD, [], rfl, upd_same, Nat.le_refl _⟩ (fun i H' _ ⟨z, _⟩ => .of (z _ _ ep2)) ?_ ?_⟩
    · rintro i y H' hi ⟨s', ns, en, eD, ln⟩
      obtain ⟨z, hz, rfl⟩ := mapg hi
      have hil := lt_of_get hz
      have hzl := hpl z (List.mem_cons_of_mem _ (List.mem_of_getElem? hz))
      have et : ws.take (i + 1) = ws.take i ++ [z] := by rw [List.take_add_one, hz]; rfl
      refine ⟨rfl, _, rfl, z, rfl, by omega, fun e => ?_, fun n e => ?_⟩
      · refine XM.mono (H := H) (qn ?_) (s2.trans s')
        have hz' : ws[i] = z := by
          rw [List.getElem?_eq_getElem hil] at hz
          exact Option.some.inj hz
        have : ws.take i ++ z :: ws.drop (i + 1) = ws := by
          rw [← hz', ← List.drop_eq_getElem_cons hil, List.take_append_drop]
        rw [← this]
        exact natW_none e
      · rw [List.length_cons] at hwl
        refine ⟨_, eD, by rw [List.length_map]; exact Nat.lt_of_le_of_lt (show ns.length ≤ 20000 by omega) (by decide), fun b u hb => by rw [upd_ne (ne_of_none hb hD)]; exact s' _ _ hb, ns ++ [n], by rw [et]; exact natW_snoc en e, by rw [upd_same, List.map_append]; rfl, by rw [List.length_append, List.length_singleton]; omega⟩
    rintro H3 ⟨s3, ns, en, eD, _⟩
    rw [List.length_map, List.take_length] at en
    exact qs ns en H3 D (s2.trans s3) eD
end
end
section
open TL
variable {cM : Addr}
def mvR (p : Str) : Option (Nat × Nat) := match wdq p with
  | [a, b] => match natF (tl a), natF (tl b) with
    | some x, some y => some (x, y)
    | _, _ => none
  | _ => none
def spMvM (cM : Addr) : Sp := fun vs H Q E => ∃ p : Str, vs = [.str p] ∧ p.length ≤ 10000 ∧ (mvR p = none → XM cM H E) ∧ ∀ x y, mvR p = some (x, y) → ∀ (H' : Hp) (t : Addr), Same H H' → H t = none → H' t = some (.tup [.int (x : Int), .int (y : Int)]) → Q (.ref t) H'
theorem cal_mvM {tk : Tok} (T : Txt K mg) (eM : ErrC K mg "MachineSyntaxError" cM) (gDI : mg "DIGITS" = some (.str "0123456789" tk)) : CalX P w K mg base 3 "read_move" (spMvM cM) := by
  have X_read_natural : CalX P w K mg base 2 "read_natural" (spRnM cM) := cal_rnM T eM gDI
  obtain ⟨f, fd, F, hm, hb⟩ := T.h_read_move
  refine ⟨f, fd, _, F.okX sc_read_move (fun vs H Q E h => ?_) (fun cdv A outer s H vs Q E hr h => ?_), hm, F.kp, hb⟩
  · obtain ⟨p, rfl, _⟩ := h
    rfl
  · obtain ⟨p, rfl, hl, qn, qs⟩ := h
    refine ⟨_, (pss_cons
      (ps_set (i := 1) sc_read_move.nd rfl (Or.inl rfl) (pe_m1 PySem.F.slot_str_split PySem.F.type_str_split mt_split (pv 0) pe_str))
      (pss_cons
      (ps_if (pt_cmpR op_ne (pe_callB (call_lenK (K := K) rfl) (by rfl) T.z_len PySem.boot_len (pa_cons (pv 1) pa_nil)) pe_int (nomark _)) (pss_one
      (ps_raise rfl (takes_of rfl rfl rfl rfl) (eM.made rfl))) pss_nil)
      (pss_one
      (ps_ret (pe_tup (pa_cons (pe_cx X_read_natural hr (by decide) (takes_of rfl rfl rfl rfl) (by rfl) (pa_cons (pe_ix (ix_listK (K := K) rfl) (pv 1) pe_int (fun _ _ => rfl)) pa_nil)) (pa_cons (pe_cx X_read_natural hr (by decide) (takes_of rfl rfl rfl rfl) (by rfl) (pa_cons (pe_ix (ix_listK (K := K) rfl) (pv 1) pe_int (fun _ _ => rfl)) pa_nil)) pa_nil))))))), ?_⟩
    have hle := wdq_le p
    refine ⟨_, rfl, ⟨_, rfl⟩, p, sQ, rfl, rfl, by decide +kernel, Nat.le_trans (Nat.add_le_add_right hl 2) (by decide), fun p1 np1 => ?_⟩
    rw [show Txt.split p sQ = wdq p from rfl]
    unfold mvR at qn qs
    generalize hX : upd H p1 _ = H1; obtain ⟨sH1, ep1⟩ := nw np1 hX; clear hX
    have lw : ((wdq p).map V.str).length = (wdq p).length := List.length_map _
    refine ⟨_, rfl, p1, _, rfl, .inl (.of ep1), rfl, _, rfl, ?_⟩
    rw [lw]
    generalize wdq p = ws at qn qs hle ep1 lw ⊢
    by_cases c : ws.length = 2
    case neg =>
      refine ite_t (by rw [decide_eq_false (fun z => c (by have := V.int.inj z; omega))]; rfl) ?_
      refine qn ?_ H1 sH1
      split
      · exact absurd rfl c
      · rfl
    obtain ⟨a, b, rfl⟩ : ∃ a b, ws = [a, b] := by
      match ws, c with
      | [a, b], _ => exact ⟨a, b, rfl⟩
    refine ite_f (by rw [decide_eq_true (congrArg V.int (by rw [c]; rfl))]; rfl) ?_
    have ha := hle.1 a (by simp)
    have hb' := hle.1 b (by simp)
    refine ⟨_, rfl, p1, _, _, .str a, rfl, rfl, .of ep1, at0, a, rfl, by omega, fun e => ?_, fun x ex => ?_⟩
    · refine XM.mono (H := H) (qn ?_) sH1
      dsimp only
      rw [e]
    refine ⟨_, rfl, p1, _, _, .str b, rfl, rfl, .of ep1, atI_nat (j := 1) rfl, b, rfl, by omega, fun e => ?_, fun y ey => ?_⟩
    · refine XM.mono (H := H) (qn ?_) sH1
      dsimp only
      rw [ex, e]
    refine ⟨by show 2 ≤ sizeLine; decide, fun t nt => ?_⟩
    exact qs x y (by dsimp only; rw [ex, ey]) _ t (sH1.trans (same_new nt)) (Same_fr sH1 nt) upd_same
def sM : Str := Str.ofString "machine"
/-- the sizes: two numbers and the lead -/
def szR (l : Str) : Option (Nat × Nat × Int) := match wds l with
  | [m, a, b, c] => if m = sM then (match natF (tl a), natF (tl b), whV (tl c) with
    | some x, some y, .int z => some (x, y, z)
    | _, _, _ => none) else none
  | _ => none
theorem whV_or (l : List Nat) : whV l = .non ∨ ∃ n : Int, whV l = .int n := by
  unfold whV
  split
  · split
    · exact .inr ⟨_, rfl⟩
    · exact .inl rfl
  · cases natF l with
    | none => exact .inl rfl
    | some n => exact .inr ⟨_, rfl⟩
def spSzM (cM : Addr) : Sp := fun vs H Q E => ∃ l : Str, vs = [.str l] ∧ l.length ≤ 10000 ∧ (szR l = none → XM cM H E) ∧ ∀ x y z, szR l = some (x, y, z) → ∀ (H' : Hp) (t : Addr), Same H H' → H' t = some (.tup [.int (x : Int), .int (y : Int), .int z]) → Q (.ref t) H'
theorem cal_szM {tk : Tok} (T : Txt K mg) (eM : ErrC K mg "MachineSyntaxError" cM) (gDI : mg "DIGITS" = some (.str "0123456789" tk)) : CalX P w K mg base 3 "read_sizes" (spSzM cM) := by
  have X_read_natural : CalX P w K mg base 2 "read_natural" (spRnM cM) := cal_rnM T eM gDI
  have X_checked : CalX P w K mg base 1 "checked" (spCk cM) := cal_ck T eM
  have C_whole : C8.Cal P w K mg base 2 "whole" spWh [] := cal_wh T gDI
  obtain ⟨f, fd, F, hm, hb⟩ := T.h_read_sizes
  refine ⟨f, fd, _, F.okX sc_read_sizes (fun vs H Q E h => ?_) (fun cdv A outer s H vs Q E hr h => ?_), hm, F.kp, hb⟩
  · obtain ⟨l, rfl, _⟩ := h
    rfl
  · obtain ⟨l, rfl, hl, qn, qs⟩ := h
    refine ⟨_, (pss_cons
      (ps_set (i := 1) sc_read_sizes.nd rfl (Or.inl rfl) (pe_m1 PySem.F.slot_str_split PySem.F.type_str_split mt_split (pv 0) pe_str))
      (pss_cons
      (ps_if (PW.pt (pw_or (pt_cmpR op_ne (pe_callB (call_lenK (K := K) rfl) (by rfl) T.z_len PySem.boot_len (pa_cons (pv 1) pa_nil)) pe_int (nomark _)) (pw_or1 (pt_cmpR op_ne (pe_ix (ix_listK (K := K) rfl) (pv 1) pe_int (fun _ _ => rfl)) pe_str (nomark _))))) (pss_one
      (ps_raise rfl (takes_of rfl rfl rfl rfl) (eM.made rfl))) pss_nil)
      (pss_one
      (ps_ret (pe_tup (pa_cons (pe_cx X_read_natural hr (by decide) (takes_of rfl rfl rfl rfl) (by rfl) (pa_cons (pe_ix (ix_listK (K := K) rfl) (pv 1) pe_int (fun _ _ => rfl)) pa_nil)) (pa_cons (pe_cx X_read_natural hr (by decide) (takes_of rfl rfl rfl rfl) (by rfl) (pa_cons (pe_ix (ix_listK (K := K) rfl) (pv 1) pe_int (fun _ _ => rfl)) pa_nil)) (pa_cons (pe_cx X_checked hr (by decide) (takes_of rfl rfl rfl rfl) (by rfl) (pa_cons (C8.pe_c C_whole hr (by decide) (by rfl) (pa_cons (pe_ix (ix_listK (K := K) rfl) (pv 1) pe_int (fun _ _ => rfl)) pa_nil)) pa_nil)) pa_nil)))))))), ?_⟩
    have hle := wds_le l
    refine ⟨_, rfl, ⟨_, rfl⟩, l, sB, rfl, rfl, by decide +kernel, Nat.le_trans (Nat.add_le_add_right hl 2) (by decide), fun p1 np1 => ?_⟩
    rw [show Txt.split l sB = wds l from rfl]
    unfold szR at qn qs
    generalize hX : upd H p1 _ = H1; obtain ⟨sH1, ep1⟩ := nw np1 hX; clear hX
    have lw : ((wds l).map V.str).length = (wds l).length := List.length_map _
    refine ⟨_, rfl, p1, _, rfl, .inl (.of ep1), rfl, _, rfl, ?_⟩
    rw [lw]
    generalize wds l = ws at qn qs hle ep1 lw ⊢
    by_cases c : ws.length = 4
    case neg =>
      refine ite_t (by rw [decide_eq_false (fun z => c (by have := V.int.inj z; omega))]; rfl) ?_
      refine qn ?_ H1 sH1
      split
      · exact absurd rfl c
      · rfl
    obtain ⟨m, a, b, d, rfl⟩ : ∃ m a b d, ws = [m, a, b, d] := by
      match ws, c with
      | [m, a, b, d], _ => exact ⟨m, a, b, d, rfl⟩
    refine ite_f (by rw [decide_eq_true (congrArg V.int (by rw [c]; rfl))]; rfl) ?_
    refine ⟨_, rfl, p1, _, _, .str m, rfl, rfl, .of ep1, at0, rfl, _, rfl, ite_sn (fun k => ?_) (fun k => ?_)⟩
    · exact qn (if_neg k) H1 sH1
    dsimp only at qn qs
    rw [if_pos (show m = sM from k)] at qn qs
    have ha := hle.1 a (by simp)
    have hb' := hle.1 b (by simp)
    have hd' := hle.1 d (by simp)
    refine ⟨_, rfl, p1, _, _, .str a, rfl, rfl, .of ep1, atI_nat (j := 1) rfl, a, rfl, by omega, fun e => ?_, fun x ex => ?_⟩
    · refine XM.mono (H := H) (qn ?_) sH1
      rw [e]
    refine ⟨_, rfl, p1, _, _, .str b, rfl, rfl, .of ep1, atI_nat (j := 2) rfl, b, rfl, by omega, fun e => ?_, fun y ey => ?_⟩
    · refine XM.mono (H := H) (qn ?_) sH1
      rw [ex, e]
    refine ⟨_, rfl, p1, _, _, .str d, rfl, rfl, .of ep1, atI_nat (j := 3) rfl, d, rfl, by omega, ?_⟩
    rcases whV_or (tl d) with e | ⟨z, e⟩
    · refine ⟨_, rfl, .inl ⟨e, XM.mono (H := H) (qn ?_) sH1⟩⟩
      rw [ex, ey, e]
    · refine ⟨_, rfl, .inr ⟨z, e, by show 3 ≤ sizeLine; decide, fun t nt => ?_⟩⟩
      exact qs x y z (by rw [ex, ey, e]) _ t (sH1.trans (same_new nt)) upd_same
end
theorem nd_of {H : Hp} {b d : Addr} (hd : Drw H d) (h : H b = none) : b ≠ d := fun z => by
  obtain ⟨o, y⟩ := hd
  rw [← z, h] at y
  cases y
theorem sameM_made {C x dx : Addr} {H1 H2 : Hp} (hx : H1 x = none) (hd : H1 dx = none) (k : Kp x (upd (upd H1 dx (.own x)) x (.ins C dx [])) H2) : Same H1 H2 := fun b o hb => by
  have n1 : b ≠ x := fun z => by rw [z, hx] at hb; cases hb
  have n2 : b ≠ dx := fun z => by rw [z, hd] at hb; cases hb
  refine k _ _ n1 ?_
  rw [upd_ne n1, upd_ne n2]
  exact hb
theorem sameM_fresh {C x dx : Addr} {H1 : Hp} (hx : H1 x = none) (hd : H1 dx = none) : Same H1 (upd (upd H1 dx (.own x)) x (.ins C dx [])) := sameM_made hx hd (Kp.refl _ _)
section
open TL
variable {cM cI C : Addr}
def rwR (l : Str) : Option (List (Nat × Nat)) := (wds l).mapM mvR
def iP (p : Nat × Nat) : Int × Int := ((p.1 : Int), (p.2 : Int))
def rwsR (ls : List Str) : Option (List (List (Nat × Nat))) := ls.mapM rwR
theorem mapM_snoc {α β : Type} {f : α → Option β} {ws : List α} {x : α} {ns : List β} {n : β} (h : ws.mapM f = some ns) (e : f x = some n) : (ws ++ [x]).mapM f = some (ns ++ [n]) := by
  rw [List.mapM_append, h]
  simp [e]
theorem mapM_none {α β : Type} {f : α → Option β} {a b : List α} {x : α} (e : f x = none) : (a ++ x :: b).mapM f = none := by
  rw [List.mapM_append, List.mapM_cons, e]
  cases a.mapM f <;> rfl
theorem split_at {α : Type} {ws : List α} {i : Nat} {z : α} (h : ws[i]? = some z) : ws.take i ++ z :: ws.drop (i + 1) = ws := by
  have hl := lt_of_get h
  have e : ws[i] = z := by
    rw [List.getElem?_eq_getElem hl] at h
    exact Option.some.inj h
  rw [← e, ← List.drop_eq_getElem_cons hl, List.take_append_drop]
def iRow (r : List (Nat × Nat)) : List (Int × Int) := r.map iP
def iOp (op : List Nat) : List Int := op.map fun n : Nat => (n : Int)
theorem cut_in (a b e : V) (xs : List V) : cutV (a :: b :: (xs ++ [e])) (some 2) (some (-1)) = xs := by
  unfold cutV HT.sIx
  have hl : (a :: b :: (xs ++ [e])).length = xs.length + 3 := by simp
  simp only [hl]
  rw [if_pos (by decide : (-1 : Int) < 0), if_neg (by decide : ¬ (2 : Int) < 0), show ((-1 : Int) + ((xs.length + 3 : Nat) : Int)).toNat = xs.length + 2 by omega, show min (2 : Int).toNat (xs.length + 3) = 2 by show min 2 _ = 2; omega]
  show (xs ++ [e]).take (xs.length + 2 - 2) = xs
  rw [Nat.add_sub_cancel, List.take_left' rfl]
/-- the lines between, and what stands around them -/
def pmR (t : Str) : Option (Nat × Nat × Int × List Nat × List (List (Nat × Nat))) :=
  match Txt.split t sN with
  | a :: b :: rest => if 2 ≤ rest.length ∧ rest.getLast? = some sE then
      (match szR a with
      | none => none
      | some (x, y, z) => match opR b with
        | none => none
        | some op => match rwsR rest.dropLast with
          | none => none
          | some rows => some (x, y, z, op, rows)) else none
  | _ => none
def spPm (cM C : Addr) : Sp := fun vs H Q E => ∃ t : Str, vs = [.str t] ∧ t.length ≤ 5000 ∧ (∀ l ∈ Txt.split t sN, l.length ≤ 5000) ∧ (Txt.split t sN).length ≤ 5001 ∧
  (∀ x y z op rows, pmR t = some (x, y, z, op, rows) → op.length ≤ 1000 ∧ rows.length ≤ 400 ∧ ∀ r ∈ rows, r.length ≤ 400) ∧
  (pmR t = none → XM cM H E) ∧
  ∀ x y z op rows, pmR t = some (x, y, z, op, rows) → (¬ Vm (x : Int) (y : Int) z (iOp op) (rows.map iRow) → XM cM H E) ∧ (Vm (x : Int) (y : Int) z (iOp op) (rows.map iRow) → ∀ (H' : Hp) (m : Addr), Same H H' → MchAt C H' m (x : Int) (y : Int) z (iOp op) (rows.map iRow) → Q (.ref m) H')
theorem cal_pm {tk tk1 tk2 : Tok} {fI : Addr} {fdI : FuncData} (T : Txt K mg) (gDI : mg "DIGITS" = some (.str "0123456789" tk)) (eI : ErrC K mg "InvalidMachine" cI) (eM : ErrC K mg "MachineSyntaxError" cM) (PC : MchC K C) (gLL : mg "LEAST_LEAD" = some (.int (-3) tk1)) (gGL : mg "GREATEST_LEAD" = some (.int 2 tk2)) (hM : Mk K C fI) (gC : mg "Machine" = some (.ref C)) (F0 : L2.Fun K "__init__" "Machine.__init__" s_Machine_init fI fdI) (hB : Binds K fdI ["self", "inputs", "outputs", "lead", "opening", "rows"] []) :
    CalX P w K mg base 4 "parse_machine" (spPm cM C) := by
  have MK : Nx.MakN P w K mg base 2 "Machine" C (spInitM C cI) := ⟨fI, fdI, _, hM, ok_initM T eI PC gLL gGL F0, gC, hB⟩
  have X_read_sizes : CalX P w K mg base 3 "read_sizes" (spSzM cM) := cal_szM T eM gDI
  have X_read_opening : CalX P w K mg base 3 "read_opening" (spOpM cM) := cal_opM T eM gDI
  have X_read_move : CalX P w K mg base 3 "read_move" (spMvM cM) := cal_mvM T eM gDI
  obtain ⟨f, fd, F, hm, hb⟩ := T.h_parse_machine
  refine ⟨f, fd, _, F.okX sc_parse_machine (fun vs H Q E h => ?_) (fun cdv A outer s H vs Q E hr h => ?_), hm, F.kp, hb⟩
  · obtain ⟨t, rfl, _⟩ := h
    rfl
  · obtain ⟨t, rfl, hl, hll, hnl, hbd, qn, qs⟩ := h
    refine ⟨_, (pss_cons
      (ps_set (i := 1) sc_parse_machine.nd rfl (Or.inl rfl) (pe_m1 PySem.F.slot_str_split PySem.F.type_str_split mt_split (pv 0) pe_str))
      (pss_cons
      (ps_if (PW.pt (pw_or (pt_cmpR op_lt (pe_callB (call_lenK (K := K) rfl) (by rfl) T.z_len PySem.boot_len (pa_cons (pv 1) pa_nil)) pe_int (nomark _)) (pw_or1 (pt_cmpR op_ne (pe_ix (ix_listK (K := K) rfl) (pv 1) (pe_un un_neg pe_int) (fun _ _ => rfl)) pe_str (nomark _))))) (pss_one
      (ps_raise rfl (takes_of rfl rfl rfl rfl) (eM.made rfl))) pss_nil)
      (pss_cons
      (ps_asg (pe_cx X_read_sizes hr (by decide) (takes_of rfl rfl rfl rfl) (by rfl) (pa_cons (pe_ix (ix_listK (K := K) rfl) (pv 1) pe_int (fun _ _ => rfl)) pa_nil)) (pg_tup (by rfl) (pgs_cons (pg_name (i := 2) sc_parse_machine.nd rfl (.inl rfl)) (pgs_cons (pg_name (i := 3) sc_parse_machine.nd rfl (.inl rfl)) (pgs_cons (pg_name (i := 4) sc_parse_machine.nd rfl (.inl rfl)) pgs_nil)))))
      (pss_cons
      (ps_set (i := 5) sc_parse_machine.nd rfl (Or.inl rfl) (pe_cx X_read_opening hr (by decide) (takes_of rfl rfl rfl rfl) (by rfl) (pa_cons (pe_ix (ix_listK (K := K) rfl) (pv 1) pe_int (fun _ _ => rfl)) pa_nil)))
      (pss_cons
      (Lcx.ps_setLcx (Lcx.Lets.def_ rfl rfl (takes_of rfl rfl rfl rfl) (fun _ _ _ _ _ h => h)) (i := 6) (own := [("line", 7)]) (g := gName 7) (tt := tYes) rfl sc_parse_machine.nd rfl rfl (sw_true rfl rfl rfl (by decide +kernel)) (pi_list (pe_slice (sl_listK (K := K) rfl) (pv 1) (po_some pe_int) (po_some (pe_un un_neg pe_int)))) (blkOk_by (N := N_parse_machine) (sc := defScope s_parse_machine) (by decide +kernel)) (fun _ _ _ _ _ => (pg_name (i := 7) sc_parse_machine.nd rfl (by first | exact Or.inl rfl | exact Or.inr rfl))) (fun _ _ _ _ _ => pts_nil) (fun s1 H1 C1 cl1 fp1 => (Lcx.pe_lcx (Lcx.Lets.blk (Lcx.Lets.def_ rfl rfl (takes_of rfl rfl rfl rfl) (fun _ _ _ _ _ h => h)) s1 H1 _ cl1 C1 fp1) (own := [("piece", 8)]) (g := gName 8) (tt := tYes) rfl sc_parse_machine.nd (pi_listK (K := K) rfl (pe_m1 PySem.F.slot_str_split PySem.F.type_str_split mt_split (pv 7) pe_str)) (blkOk_by (N := N_parse_machine) (sc := stS (defScope s_parse_machine) 4 (defBody s_parse_machine)) (by decide +kernel)) (fun _ _ _ _ _ => (pg_name (i := 8) sc_parse_machine.nd rfl (Or.inl rfl))) (fun _ _ _ _ _ => pts_nil) (fun _ _ _ _ _ => (Lcx.pe_cxP X_read_move hr (by decide) (fun σ => Lcx.passB σ) (by rfl) (pa_cons (pv 8) pa_nil))))))
      (pss_one
      (L2H.ps_try_onlyX rfl rfl ⟨rfl, by decide, .inl eI.g⟩ (L2H.passesAt_of rfl) (takes_of rfl rfl rfl rfl) (fun W pn xe tk tk2 _ => (pss_one (ps_ret (Nx.pe_makn MK hr (by decide) tk (by rfl) (pa_cons (pv 2) (pa_cons (pv 3) (pa_cons (pv 4) (pa_cons (pv 5) (pa_cons (pv 6) pa_nil))))))))) (fun a oe cls d pn hz hf tk3 hot => (pss_one (L2H.ps_raiseHN hot tk3 (Nx.made5 eM rfl))))))))))), ?_⟩
    refine ⟨_, rfl, ⟨_, rfl⟩, t, sN, rfl, rfl, by decide +kernel, Nat.le_trans (Nat.add_le_add_right hl 2) (by decide), fun p1 np1 => ?_⟩
    unfold pmR at qn qs hbd
    generalize Txt.split t sN = ls at qn qs hbd hll hnl ⊢
    generalize hX : upd H p1 _ = H1; obtain ⟨sH1, ep1⟩ := nw np1 hX; clear hX
    have hlm : (ls.map V.str).length = ls.length := List.length_map _
    refine ⟨_, rfl, p1, _, rfl, .inl (.of ep1), _, _, rfl, rfl, _, rfl, ?_⟩
    rw [hlm]
    by_cases c4 : ls.length < 4
    · refine ite_t (decide_eq_true (by omega)) (qn ?_ H1 sH1)
      split
      · rename_i a b rest
        refine if_neg fun z => ?_
        rw [List.length_cons, List.length_cons] at c4
        omega
      · rfl
    refine ite_f (decide_eq_false (by omega)) ?_
    obtain ⟨a, b, rest, rfl⟩ : ∃ a b rest, ls = a :: b :: rest := by
      match ls, c4 with
      | a :: b :: rest, _ => exact ⟨a, b, rest, rfl⟩
      | [], c => exact absurd (Nat.zero_lt_succ 3) c
      | [x], c => exact absurd (show 1 < 4 by decide) c
    have hr2 : 2 ≤ rest.length := by rw [List.length_cons, List.length_cons] at c4; omega
    obtain ⟨ys, z, rfl⟩ : ∃ ys z, rest = ys ++ [z] := by
      rcases List.eq_nil_or_concat rest with h | ⟨ys, z, h⟩
      · rw [h] at hr2; exact absurd hr2 (by decide)
      · exact ⟨ys, z, by rw [h, List.concat_eq_append]⟩
    dsimp only at qn qs hbd
    rw [List.getLast?_concat] at qn qs hbd
    have ela : atI ((a :: b :: (ys ++ [z])).map V.str) (-1) = some (.str z) := by
      rw [show (a :: b :: (ys ++ [z])).map V.str = (V.str a :: V.str b :: ys.map V.str) ++ [V.str z] by simp]
      exact atI_last _ _
    refine ⟨_, rfl, _, rfl, p1, _, _, .str z, rfl, rfl, .of ep1, ela, rfl, _, rfl, ite_sn (fun k => ?_) (fun k => ?_)⟩
    · exact qn (if_neg fun y => k (Option.some.inj y.2)) H1 sH1
    rw [if_pos ⟨hr2, by rw [k]; rfl⟩] at qn qs hbd
    rw [List.dropLast_concat] at qn qs hbd
    -- the sizes
    refine ⟨_, rfl, p1, _, _, .str a, rfl, rfl, .of ep1, at0, a, rfl, by have := hll a (by simp); omega, fun e => ?_, fun x y l es H2 t2 s2 e2 => ?_⟩
    · refine XM.mono (H := H) (qn ?_) sH1
      rw [e]
    rw [es] at qn qs hbd
    dsimp only at qn qs hbd
    refine ⟨t2, _, rfl, .of e2, rfl, _, _, rfl, _, _, rfl, _, _, rfl, rfl, ?_⟩
    have s02 := sH1.trans s2
    have e12 := s2 _ _ ep1
    have hwb := wds_le b
    have hbl := hll b (by simp)
    refine ⟨_, rfl, p1, _, _, .str b, rfl, rfl, .of e12, atI_nat (j := 1) rfl, b, rfl, by omega, wds_ne b, by omega, fun q hq => by have := hwb.1 q hq; omega, fun e => ?_, fun op eo H3 oa s3 e3 => ?_⟩
    · refine XM.mono (H := H) (qn ?_) s02
      rw [e]
    rw [eo] at qn qs hbd
    dsimp only at qn qs hbd
    have s03 := s02.trans s3
    have e13 := s3 _ _ e12
    refine ⟨_, rfl, (2 : Int), rfl, _, rfl, (-1 : Int), rfl, p1, _, rfl, .of e13, fun p4 np4 => ?_⟩
    rw [show (a :: b :: (ys ++ [z])).map V.str = V.str a :: V.str b :: (ys.map V.str ++ [V.str z]) by simp, cut_in]
    generalize hX : upd H3 p4 _ = H4; obtain ⟨sH4, ep4⟩ := nw np4 hX; clear hX
    have s04 := s03.trans sH4
    have lys : (ys.map V.str).length = ys.length := List.length_map _
    have hyl : ∀ l ∈ ys, l.length ≤ 5000 := fun l hl => hll l (by simp [hl])
    have hyn : ys.length ≤ 5000 := by
      rw [List.length_cons, List.length_cons, List.length_append] at hnl
      omega
    refine ⟨p4, rfl, ⟨_, .of ep4⟩, fun D hD => lc_list (K := K) (a := p4) (xs := ys.map V.str) (fun i H5 => ∃ (as : List Addr) (rows : List (List (Nat × Nat))), rwsR (ys.take i) = some rows ∧ Same H4 H5 ∧ H5 D = some (.lst (as.map V.ref)) ∧ RP .lst H5 as (rows.map iRow) ∧ (∀ b ∈ as, b ≠ D) ∧ as.length = i) ⟨[], [], rfl, same_new hD, upd_same, My.RP.nil, by simp, rfl⟩ (fun i H' _ ⟨_, _, _, z, _⟩ => .of (z _ _ ep4)) ?_ ?_⟩
    · rintro i v H5 hi ⟨as, rows, er, s5, e5, R5, n5, al⟩
      obtain ⟨w, hw, rfl⟩ := mapg hi
      have hil := lt_of_get hw
      have hwl := hyl w (List.mem_of_getElem? hw)
      have hwd := wds_le w
      have et : ys.take (i + 1) = ys.take i ++ [w] := by rw [List.take_add_one, hw]; rfl
      refine ⟨rfl, _, rfl, ⟨_, rfl⟩, w, sB, rfl, rfl, by decide +kernel, Nat.le_trans (Nat.add_le_add_right hwl 2) (by decide), fun b nb => ?_⟩
      rw [show Txt.split w sB = wds w from rfl]
      generalize hX : upd H5 b _ = H6; obtain ⟨sH6, eb⟩ := nw nb hX; clear hX
      have er1 : ∀ r, rwR w = some r → rwsR (ys.take (i + 1)) = some (rows ++ [r]) := fun r e => by
        rw [et]
        exact mapM_snoc er e
      have bad : rwR w = none → XM cM H E := fun e => qn (by
        have : rwsR ys = none := by
          rw [← split_at hw]
          exact mapM_none e
        rw [this])
      unfold rwR at er1 bad
      generalize wds w = ws at er1 bad hwd eb ⊢
      have s06 := (s04.trans s5).trans sH6
      refine ⟨b, rfl, ⟨_, .of eb⟩, fun D2 hD2 => lc_list (K := K) (a := b) (xs := ws.map V.str) (fun j H7 => ∃ (bs : List Addr) (row : List (Nat × Nat)), (ws.take j).mapM mvR = some row ∧ Same H6 H7 ∧ H7 D2 = some (.lst (bs.map V.ref)) ∧ bs.length = j ∧ row.length = j ∧ ∀ (k : Nat) (y : Addr), bs[k]? = some y → ∃ t l, (iRow row)[k]? = some (t, l) ∧ H7 y = some (.tup [.int t, .int l])) ⟨[], [], rfl, same_new hD2, upd_same, rfl, rfl, fun k y z => by (cases z)⟩ (fun i H' _ ⟨_, _, _, z, _⟩ => .of (z _ _ eb)) ?_ ?_⟩
      · rintro j v H7 hj ⟨bs, row, ew, s7, e7, bl, rl, h7⟩
        obtain ⟨pc, hpc, rfl⟩ := mapg hj
        have hjl := lt_of_get hpc
        have etj : ws.take (j + 1) = ws.take j ++ [pc] := by rw [List.take_add_one, hpc]; rfl
        have hpl := hwd.1 pc (List.mem_of_getElem? hpc)
        refine ⟨rfl, _, rfl, pc, rfl, by omega, fun e => ?_, fun mx my em H8 y s8 ny e8 => ?_⟩
        · refine XM.mono (H := H) (bad ?_) (s06.trans s7)
          rw [← split_at hpc]
          exact mapM_none e
        have e78 := s8 _ _ e7
        have nDy : y ≠ D2 := fun z => by rw [z, e7] at ny; cases ny
        have tu := tup_upd (o := .lst (bs.map V.ref ++ [.ref y])) e78
        refine ⟨_, e78, by rw [List.length_map]; exact Nat.lt_of_le_of_lt (show bs.length ≤ 6000 by omega) (by decide), bs ++ [y], row ++ [(mx, my)], by rw [etj]; exact mapM_snoc ew em, fun q o hq => ?_, by rw [upd_same, List.map_append]; rfl, by rw [List.length_append, bl]; rfl, by rw [List.length_append, rl]; rfl, fun k z hk => ?_⟩
        · rw [upd_ne (ne_of_none hq hD2)]
          exact s8 _ _ (s7 _ _ hq)
        · have er2 : iRow (row ++ [(mx, my)]) = iRow row ++ [((mx : Int), (my : Int))] := by unfold iRow; rw [List.map_append]; rfl
          have irl : (iRow row).length = row.length := List.length_map _
          rw [er2]
          rcases snoc_get hk with ⟨h0, h1⟩ | ⟨h1, h2⟩
          · obtain ⟨t', l', g1, g2⟩ := h7 k z h1
            refine ⟨t', l', ?_, tu _ _ (s8 _ _ g2)⟩
            rw [List.getElem?_append_left (lt_of_get g1)]
            exact g1
          · subst h2
            refine ⟨_, _, ?_, tu _ _ e8⟩
            rw [h1, bl, List.getElem?_append_right (by omega), irl, rl, Nat.sub_self]
            rfl
      · rintro H7 ⟨bs, row, ew, s7, e7, bl, rl, h7⟩
        rw [List.length_map] at bl rl
        rw [List.length_map, List.take_length] at ew
        have s57 := sH6.trans s7
        have e57 := s57 _ _ e5
        have nD : D2 ≠ D := fun z => by rw [z, sH6 _ _ e5] at hD2; cases hD2
        have tu := tup_upd (o := .lst (as.map V.ref ++ [.ref D2])) e57
        refine ⟨_, e57, by rw [List.length_map]; exact Nat.lt_of_le_of_lt (show as.length ≤ 6000 by omega) (by decide), as ++ [D2], rows ++ [row], er1 row ew, fun q o hq => ?_, by rw [upd_same, List.map_append]; rfl, ?_, fun z hz => ?_, by rw [List.length_append, al]; rfl⟩
        · rw [upd_ne (ne_of_none hq hD)]
          exact s57 _ _ (s5 _ _ hq)
        · rw [List.map_append]
          refine My.RP.snoc (My.RP.keep (R5.same s57) (fun b hb o h => by rw [upd_ne (n5 b hb)]; exact h) tu) (bs := bs) (by rw [upd_ne nD]; exact e7) (by rw [bl, ← rl]; exact (List.length_map _).symm) fun m b hb => ?_
          obtain ⟨t', l', g1, g2⟩ := h7 m b hb
          exact ⟨t', l', g1, tu _ _ g2⟩
        · rcases List.mem_append.mp hz with y | y
          · exact n5 z y
          · rw [List.mem_singleton.mp y]; exact nD
    rintro H5 ⟨as, rows, er, s5, e5, R5, n5, al⟩
    rw [List.length_map, List.take_length] at er
    rw [er] at qn qs hbd
    dsimp only at qn qs hbd
    obtain ⟨b1, b2, b3⟩ := hbd x y l op rows rfl
    obtain ⟨qV, qM⟩ := qs x y l op rows rfl
    have s05 := s04.trans s5
    have eo5 := s5 _ _ (sH4 _ _ e3)
    refine ⟨_, rfl, _, rfl, _, rfl, _, rfl, _, rfl, fun m dx hx hdx hne => ?_⟩
    have s6 := sameM_fresh (C := C) hx hdx
    have hL5 : LPr H5 D as (rows.map iRow) := ⟨e5, R5⟩
    have eop : (op.map fun n : Nat => V.int (n : Int)) = (iOp op).map V.int := by unfold iOp; rw [List.map_map]; rfl
    rw [eop] at eo5
    refine ⟨m, oa, D, dx, (x : Int), (y : Int), l, iOp op, as, rows.map iRow, rfl, upd_same, .inl (s6 _ _ eo5), hL5.same s6, by unfold iOp; rw [List.length_map]; exact b1, by rw [List.length_map]; exact b2, fun r hr => ?_, fun k H' s' => ?_, fun k H' k' A' => ?_⟩
    · obtain ⟨r0, hr0, rfl⟩ := List.mem_map.mp hr
      unfold iRow
      rw [List.length_map]
      exact b3 r0 hr0
    · exact ⟨true, eI.me, fun _ a ha => qV k H' ((s05.trans s6).trans s'), fun z => by (cases z)⟩
    · exact ⟨rfl, qM k H' m (s05.trans (sameM_made hx hdx k')) A'⟩
end
section
open TL
variable {C : Addr}
/-- what comes of the text: a machine, or none -/
def spOutM (C : Addr) : Sp := fun vs H Q E => ∃ t : Str, vs = [.str t] ∧ t.length ≤ 5000 ∧ (∀ l ∈ Txt.split t sN, l.length ≤ 5000) ∧ (Txt.split t sN).length ≤ 5001 ∧
  (∀ x y z op rows, pmR t = some (x, y, z, op, rows) → op.length ≤ 1000 ∧ rows.length ≤ 400 ∧ ∀ r ∈ rows, r.length ≤ 400) ∧
  (pmR t = none → ∀ H', Same H H' → Q .non H') ∧
  ∀ x y z op rows, pmR t = some (x, y, z, op, rows) → (¬ Vm (x : Int) (y : Int) z (iOp op) (rows.map iRow) → ∀ H', Same H H' → Q .non H') ∧ (Vm (x : Int) (y : Int) z (iOp op) (rows.map iRow) → ∀ (H' : Hp) (m : Addr), Same H H' → MchAt C H' m (x : Int) (y : Int) z (iOp op) (rows.map iRow) → Q (.ref m) H')
theorem cal_outM (T : Txt K mg) : ∃ C, mg "Machine" = some (.ref C) ∧ MchC K C ∧ C8.InsC K C ∧ PySem.W.findIn K (.ref C) "__eq__" = some (some (.builtin "object.__eq__")) ∧ C8.Cal P w K mg base 6 "_law_outcome" (spOutM C) [] := by
  obtain ⟨cI, cL, C, fI, fC, fdI, fdC, tk1, tk2, tk5, eI, eL, PC, hM, gC, F0, hB, CO, FC, hB1, gLL, gGL, hIC, gDI, cM, cS, eM, gS, kS, hEq⟩ := T.er
  have X_parse_machine : CalX P w K mg base 4 "parse_machine" (spPm cM C) := cal_pm T gDI eI eM PC gLL gGL hM gC F0 hB
  refine ⟨C, gC, PC, hIC, hEq, ?_⟩
  obtain ⟨f, fd, F, hm, hb⟩ := T.h_law_outcome
  refine ⟨f, fd, _, [], F.ok sc_law_outcome (fun vs H Q E h => ?_) (fun cdv A outer s H vs Q E hr h => ?_), hm, F.kp, hb, .nil⟩
  · obtain ⟨t, rfl, _⟩ := h
    rfl
  · obtain ⟨t, rfl, h1, h2, h3, h4, qn, qs⟩ := h
    refine ⟨_, (pss_cons
      (ps_try_as (i := 1) rfl rfl sc_law_outcome.nd rfl rfl ⟨rfl, by decide, .inl eM.g⟩ takes0 (fun W pn xe tk _ => (pss_one (ps_ret (pe_cx X_parse_machine hr (by decide) tk (by rfl) (pa_cons (pv 0) pa_nil))))) (fun a oe cls d pn hz hf => (pss_one
      (ps_if (pt_val (pe_callB (call_isEx (K := K) rfl hz hf) (by rfl) T.z_isinstance (by decide +kernel) (pa_cons (pv 1) (pa_cons (pe_glob (v := .ref cS) (by rfl) gS rfl) pa_nil)))) (pss_one
      (ps_ret pe_non)) pss_nil))))
      (pss_one
      (ps_ret pe_int))), ?_⟩
    refine ⟨_, rfl, t, rfl, h1, h2, h3, h4, fun e => ?_, fun x y z op rows e => ⟨fun nv => ?_, fun v H' m s' A' => ?_⟩⟩
    · intro H' s'
      refine ⟨true, eM.me, fun _ a ha => ⟨_, rfl, cM, rfl, rfl, eM.ec, .ref cS, .ref cS, true, rfl, fun u h => h, kS, true, rfl, ite_t rfl (qn e H' s')⟩, fun z => by (cases z)⟩
    · intro H' s'
      refine ⟨true, eM.me, fun _ a ha => ⟨_, rfl, cM, rfl, rfl, eM.ec, .ref cS, .ref cS, true, rfl, fun u h => h, kS, true, rfl, ite_t rfl ((qs x y z op rows e).1 nv H' s')⟩, fun z => by (cases z)⟩
    · exact (qs x y z op rows e).2 v H' m s' A'
end
section
open TL
/-- a number as the law reads it -/
def lnV (w : Str) : Int := match natF (tl w) with
  | some n => (n : Int)
  | none => -1
def spLn : Sp := fun vs H Q _ => ∃ x : Str, vs = [.str x] ∧ x.length ≤ 640 ∧ Q (.int (lnV x)) H
theorem cal_lnm (T : Txt K mg) : C8.Cal P w K mg base 1 "_law_number" spLn [] := by
  obtain ⟨f, fd, F, hm, hb⟩ := T.h_law_number
  refine ⟨f, fd, _, [], F.ok sc_law_number (fun vs H Q E h => ?_) (fun cdv A outer s H vs Q E hr h => ?_), hm, F.kp, hb, .nil⟩
  · obtain ⟨x, rfl, _⟩ := h
    rfl
  · obtain ⟨x, rfl, hx, q⟩ := h
    refine ⟨_, (pss_cons
      (ps_if (PW.pt (pw_or (pt_cmpR op_eq (pv 0) pe_str (nomark _)) (pw_or1 (PW.pt (pw_and (pt_cmpR op_gt (pe_callB call_len_str (by rfl) T.z_len PySem.boot_len (pa_cons (pv 0) pa_nil)) pe_int (nomark _)) (pw_and1 (pt_cmpR op_eq (pe_ix ix_str (pv 0) pe_int (fun _ _ => rfl)) pe_str (nomark _)))))))) (pss_one
      (ps_ret (pe_un un_neg pe_int))) pss_nil)
      (pss_cons
      (ps_for PassesOwn.never rfl (pi_str (pv 0)) (pg_name (i := 1) sc_law_number.nd rfl (.inl rfl)) (pss_one
      (ps_if (pt_cmpR op_notIn_sign (pv 1) pe_str (by rfl)) (pss_one
      (ps_ret (pe_un un_neg pe_int))) pss_nil)))
      (pss_one
      (ps_ret (pe_callTy call_int_str (by rfl) T.z_int (by decide +kernel) (pa_cons (pv 0) pa_nil)))))), ?_⟩
    have hz : x.length ≤ sizeLine := Nat.le_trans hx (by decide)
    have t48 : tl (Str.ofString "0") = [48] := by decide +kernel
    have bad : natF (tl x) = none → Q (.int (-1)) H := fun e => by
      unfold lnV at q
      rw [e] at q
      exact q
    by_cases hne : tl x = []
    · exact ⟨_, rfl, rfl, _, rfl, ite_s (fun k => ⟨_, rfl, bad (if_pos (.inl hne))⟩) (fun k => absurd (str_nil.mpr hne) k)⟩
    obtain ⟨c0, r0, ex⟩ := List.exists_cons_of_ne_nil hne
    have at0' : atI x.cps.toList 0 = some c0 := atI_nat (j := 0) (by rw [show x.cps.toList = c0 :: r0 from ex]; rfl)
    have h0 : (tl x)[0]? = some c0 := by rw [ex]; rfl
    have hlen : x.length = (tl x).length := len_tl x
    have hsz : x.cps.size = (tl x).length := hlen
    refine ⟨_, rfl, rfl, _, rfl, ite_s (fun k => absurd (str_nil.mp k) hne) (fun _ => ?_)⟩
    have go : ¬ (tl x = [] ∨ ((tl x)[0]? = some 48 ∧ 1 < (tl x).length)) → natF (tl x) = if (tl x).all isD = true then some (NumText.digitsVal (tl x)) else none := fun h => if_neg h
    have rest : ¬ (tl x = [] ∨ ((tl x)[0]? = some 48 ∧ 1 < (tl x).length)) → (∀ i c, (tl x)[i]? = some c → isD c = false → Q (.int (-1)) H) ∧ ((tl x).all isD = true → ∃ a n, [V.str x] = [.str a] ∧ PySem.intText? a = some n ∧ a.length ≤ 640 ∧ Q (.int n) H) := fun h => by
      refine ⟨fun i c hc hd => bad ?_, fun hall => ?_⟩
      · rw [go h, if_neg (fun z => by
          have := List.all_eq_true.mp z c (List.mem_of_getElem? hc)
          rw [hd] at this
          cases this)]
      · refine ⟨x, ((NumText.digitsVal (tl x) : Nat) : Int), rfl, ?_, hx, ?_⟩
        · have e := SX.S_tl x
          have := SX.int_S (a := tl x) (by
            refine List.all_eq_true.mpr fun c hc => ?_
            have := of_decide_eq_true (List.all_eq_true.mp hall c hc)
            simp [this.1, this.2]) hne (by omega)
          rw [show x.cps.toList = tl x from rfl] at e
          rw [e] at this
          exact this
        · unfold lnV at q
          rw [go h, if_pos hall] at q
          exact q
    refine ⟨_, rfl, x, rfl, hz, _, _, rfl, rfl, _, rfl, ?_⟩
    by_cases k2 : 1 < x.length
    · refine ite_t (decide_eq_true (by omega)) ?_
      refine ⟨_, rfl, x, 0, c0, rfl, rfl, hz, at0', rfl, _, rfl, ?_⟩
      by_cases k1 : c0 = 48
      · refine ite_t (by rw [dec_str]; exact decide_eq_true ((str_one t48).mpr k1)) ?_
        exact ⟨_, rfl, bad (if_pos (.inr ⟨by rw [h0, k1], by omega⟩))⟩
      · refine ite_f (by rw [dec_str]; exact decide_eq_false fun z => k1 ((str_one t48).mp z)) ?_
        obtain ⟨r1, r2⟩ := rest (fun z => z.elim hne fun y => k1 (by rw [h0] at y; exact Option.some.inj y.1))
        refine ⟨_, rfl, x, rfl, for_str (x := x) (fun i σ H2 => ∃ v1 : Option V, σ = [some (.str x), v1] ∧ H2 = H ∧ ((tl x).take i).all isD = true) ⟨_, rfl, rfl, rfl⟩ ?_ ?_⟩
        · rintro i c σ H2 hc ⟨v1, rfl, rfl, hall⟩
          have hc2 := cps_tl hc
          refine ⟨_, rfl, c, _, rfl, rfl, _, rfl, ?_⟩
          rw [dig_mem]
          cases hd : isD c with
          | false => exact ite_t rfl ⟨_, rfl, r1 i c hc2 hd⟩
          | true =>
            refine ite_f rfl ⟨_, rfl, rfl, ?_⟩
            rw [take_get hc2, List.all_append, hall]
            show (true && (isD c && true)) = true
            rw [hd]
            rfl
        rintro σ H2 ⟨v1, rfl, rfl, hall⟩
        rw [hsz, List.take_length] at hall
        exact ⟨_, rfl, r2 hall⟩
    · refine ite_f (decide_eq_false (by omega)) (ite_f rfl ?_)
      obtain ⟨r1, r2⟩ := rest (fun z => z.elim hne fun y => k2 (by omega))
      refine ⟨_, rfl, x, rfl, for_str (x := x) (fun i σ H2 => ∃ v1 : Option V, σ = [some (.str x), v1] ∧ H2 = H ∧ ((tl x).take i).all isD = true) ⟨_, rfl, rfl, rfl⟩ ?_ ?_⟩
      · rintro i c σ H2 hc ⟨v1, rfl, rfl, hall⟩
        have hc2 := cps_tl hc
        refine ⟨_, rfl, c, _, rfl, rfl, _, rfl, ?_⟩
        rw [dig_mem]
        cases hd : isD c with
        | false => exact ite_t rfl ⟨_, rfl, r1 i c hc2 hd⟩
        | true =>
          refine ite_f rfl ⟨_, rfl, rfl, ?_⟩
          rw [take_get hc2, List.all_append, hall]
          show (true && (isD c && true)) = true
          rw [hd]
          rfl
      rintro σ H2 ⟨v1, rfl, rfl, hall⟩
      rw [hsz, List.take_length] at hall
      exact ⟨_, rfl, r2 hall⟩
end
section
open TL
/-- a row as the law reads it -/
def prV (l : Str) : List (Nat × Nat) := (rwR l).getD []
/-- the pairs of a row stand there -/
def RwAt (H : Hp) (as : List Addr) (row : List (Nat × Nat)) : Prop := as.length = row.length ∧ ∀ (k : Nat) (y : Addr), as[k]? = some y → ∃ t l, (iRow row)[k]? = some (t, l) ∧ H y = some (.tup [.int t, .int l])
theorem lnV_none {w : Str} (h : natF (tl w) = none) : lnV w = -1 := by unfold lnV; rw [h]
theorem lnV_some {w : Str} {n : Nat} (h : natF (tl w) = some n) : lnV w = (n : Int) := by unfold lnV; rw [h]
def spPrs : Sp := fun vs H Q _ => ∃ l : Str, vs = [.str l] ∧ l.length ≤ 640 ∧ ∀ (H' : Hp) (p : Addr) (as : List Addr), Same H H' → H p = none → H' p = some (.lst (as.map V.ref)) → RwAt H' as (prV l) → Q (.ref p) H'
theorem cal_prs (T : Txt K mg) : C8.Cal P w K mg base 2 "_law_pairs" spPrs [] := by
  have C_law_number : C8.Cal P w K mg base 1 "_law_number" spLn [] := cal_lnm T
  obtain ⟨f, fd, F, hm, hb⟩ := T.h_law_pairs
  refine ⟨f, fd, _, [], F.ok sc_law_pairs (fun vs H Q E h => ?_) (fun cdv A outer s H vs Q E hr h => ?_), hm, F.kp, hb, .nil⟩
  · obtain ⟨l, rfl, _⟩ := h
    rfl
  · obtain ⟨l, rfl, hl, q⟩ := h
    refine ⟨_, (pss_cons
      (ps_set (i := 1) sc_law_pairs.nd rfl (Or.inl rfl) (pe_lst pa_nil))
      (pss_cons
      (ps_for PassesOwn.never rfl (pi_list (pe_m1 PySem.F.slot_str_split PySem.F.type_str_split mt_split (pv 0) pe_str)) (pg_name (i := 2) sc_law_pairs.nd rfl (.inl rfl)) (pss_cons
      (ps_set (i := 3) sc_law_pairs.nd rfl (Or.inl rfl) (pe_m1 PySem.F.slot_str_split PySem.F.type_str_split mt_split (pv 2) pe_str))
      (pss_cons
      (ps_if (PW.pt (pw_or (pt_cmpR op_ne (pe_callB (call_lenK (K := K) rfl) (by rfl) T.z_len PySem.boot_len (pa_cons (pv 3) pa_nil)) pe_int (nomark _)) (pw_or (pt_cmpR op_lt (C8.pe_c C_law_number hr (by decide) (by rfl) (pa_cons (pe_ix (ix_listK (K := K) rfl) (pv 3) pe_int (fun _ _ => rfl)) pa_nil)) pe_int (nomark _)) (pw_or1 (pt_cmpR op_lt (C8.pe_c C_law_number hr (by decide) (by rfl) (pa_cons (pe_ix (ix_listK (K := K) rfl) (pv 3) pe_int (fun _ _ => rfl)) pa_nil)) pe_int (nomark _)))))) (pss_one
      (ps_ret (pe_lst pa_nil))) pss_nil)
      (pss_one
      (ps_expr (pe_bm PySem.F.plainAttrs_list PySem.F.slot_list_append PySem.F.type_list_append mt_append (pv 1) (pa_cons (pe_tup (pa_cons (C8.pe_c C_law_number hr (by decide) (by rfl) (pa_cons (pe_ix (ix_listK (K := K) rfl) (pv 3) pe_int (fun _ _ => rfl)) pa_nil)) (pa_cons (C8.pe_c C_law_number hr (by decide) (by rfl) (pa_cons (pe_ix (ix_listK (K := K) rfl) (pv 3) pe_int (fun _ _ => rfl)) pa_nil)) pa_nil))) pa_nil)))))))
      (pss_one
      (ps_ret (pv 1))))), ?_⟩
    refine ⟨Nat.zero_le _, fun D nD => ?_⟩
    generalize hX : upd H D _ = H1; obtain ⟨sH1, eD⟩ := nw nD hX; clear hX
    refine ⟨_, rfl, ⟨_, rfl⟩, l, sB, rfl, rfl, by decide +kernel, Nat.le_trans (Nat.add_le_add_right hl 2) (by decide), fun p2 np2 => ?_⟩
    rw [show Txt.split l sB = wds l from rfl]
    generalize hX : upd H1 p2 _ = H2; obtain ⟨sH2, ep2⟩ := nw np2 hX; clear hX
    have hwd := wds_le l
    have n2D : p2 ≠ D := fun z => by rw [z, eD] at np2; cases np2
    have s2 := sH1.trans sH2
    have fail : (rwR l = none) → ∀ H', Same H H' → ∀ p, H' p = none → Q (.ref p) (upd H' p (.lst ([] : List V))) := fun e H' s' p np => by
      refine q _ p [] (s'.trans (same_new np)) (Same_fr s' np) upd_same ?_
      have : prV l = [] := by unfold prV; rw [e]; rfl
      rw [this]
      exact ⟨rfl, fun k y z => by (cases z)⟩
    have good : ∀ row, rwR l = some row → prV l = row := fun row e => by unfold prV; rw [e]; rfl
    unfold rwR at fail good
    generalize wds l = ws at fail good hwd ep2 ⊢
    refine ⟨p2, rfl, ⟨_, .of ep2⟩, for_list (K := K) (a := p2) (xs := ws.map V.str) (fun j σ H' => ∃ (as : List Addr) (row : List (Nat × Nat)) (v2 v3 : Option V), σ = [some (.str l), some (.ref D), v2, v3] ∧ (∀ b u, b ≠ D → H2 b = some u → H' b = some u) ∧ H' D = some (.lst (as.map V.ref)) ∧ (ws.take j).mapM mvR = some row ∧ RwAt H' as row ∧ row.length = j) ⟨[], [], none, none, rfl, fun b u _ e => e, sH2 _ _ eD, rfl, ⟨rfl, fun k y z => by (cases z)⟩, rfl⟩ (fun j σ H' _ ⟨_, _, _, _, _, z, _⟩ => .of (z _ _ n2D ep2)) ?_ ?_⟩
    · rintro j v σ H3 hj ⟨as, row, v2, v3, rfl, k3, e3, er, ra, rl⟩
      obtain ⟨pc, hpc, rfl⟩ := mapg hj
      have hpl := hwd.1 pc (List.mem_of_getElem? hpc)
      have s3 : Same H H3 := fun b u hb => k3 _ _ (ne_of_none hb nD) (s2 _ _ hb)
      have etj : ws.take (j + 1) = ws.take j ++ [pc] := by rw [List.take_add_one, hpc]; rfl
      have bad : mvR pc = none → ws.mapM mvR = none := fun e => by
        rw [← split_at hpc]
        exact mapM_none e
      refine ⟨_, rfl, ⟨_, rfl⟩, pc, sQ, rfl, rfl, by decide +kernel, Nat.le_trans (Nat.add_le_add_right (show pc.length ≤ 640 by omega) 2) (by decide), fun p4 np4 => ?_⟩
      rw [show Txt.split pc sQ = wdq pc from rfl]
      generalize hX : upd H3 p4 _ = H4; obtain ⟨sH4, ep4⟩ := nw np4 hX; clear hX
      have hpq := wdq_le pc
      have s4 := s3.trans sH4
      have em : mvR pc = match wdq pc with
        | [a, b] => (match natF (tl a), natF (tl b) with
          | some x, some y => some (x, y)
          | _, _ => none)
        | _ => none := rfl
      have lw : ((wdq pc).map V.str).length = (wdq pc).length := List.length_map _
      refine ⟨_, rfl, p4, _, rfl, .inl (.of ep4), rfl, _, rfl, ?_⟩
      rw [lw]
      generalize wdq pc = ps at em hpq ep4 lw ⊢
      by_cases c2 : ps.length = 2
      case neg =>
        refine ite_t (by rw [decide_eq_false (fun z => c2 (by have := V.int.inj z; omega))]; rfl) ⟨Nat.zero_le _, fun p np => fail (bad ?_) H4 s4 p np⟩
        rw [em]
        split
        · exact absurd rfl c2
        · rfl
      obtain ⟨a, b, rfl⟩ : ∃ a b, ps = [a, b] := by
        match ps, c2 with
        | [a, b], _ => exact ⟨a, b, rfl⟩
      dsimp only at em
      refine ite_f (by rw [decide_eq_true (congrArg V.int (by rw [c2]; rfl))]; rfl) ?_
      have ha := hpq.1 a (by simp)
      have hb' := hpq.1 b (by simp)
      refine ⟨_, rfl, p4, _, _, .str a, rfl, rfl, .of ep4, at0, a, rfl, by omega, _, _, rfl, rfl, _, rfl, ?_⟩
      cases ea : natF (tl a) with
      | none =>
        refine ite_t (decide_eq_true (by rw [lnV_none ea]; decide)) ⟨Nat.zero_le _, fun p np => fail (bad ?_) H4 s4 p np⟩
        rw [em, ea]
      | some x =>
      refine ite_f (decide_eq_false (by rw [lnV_some ea]; omega)) ?_
      refine ⟨_, rfl, p4, _, _, .str b, rfl, rfl, .of ep4, atI_nat (j := 1) rfl, b, rfl, by omega, _, _, rfl, rfl, _, rfl, ?_⟩
      cases eb' : natF (tl b) with
      | none =>
        refine ite_t (decide_eq_true (by rw [lnV_none eb']; decide)) ⟨Nat.zero_le _, fun p np => fail (bad ?_) H4 s4 p np⟩
        rw [em, ea, eb']
      | some y =>
      refine ite_f (decide_eq_false (by rw [lnV_some eb']; omega)) ?_
      have e4 := sH4 _ _ e3
      refine ⟨_, rfl, .inl ⟨rfl, _, .of e4⟩, _, rfl, p4, _, _, .str a, rfl, rfl, .of ep4, at0, a, rfl, by omega, _, rfl, p4, _, _, .str b, rfl, rfl, .of ep4, atI_nat (j := 1) rfl, b, rfl, by omega, by show 2 ≤ sizeLine; decide, fun t nt => ?_⟩
      rw [lnV_some ea, lnV_some eb']
      generalize hX : upd H4 t _ = H5; obtain ⟨sH5, et⟩ := nw nt hX; clear hX
      have e5 := sH5 _ _ e4
      have hjl := lt_of_get hpc
      have tu := tup_upd (o := .lst (as.map V.ref ++ [.ref t])) e5
      refine ⟨D, _, _, rfl, rfl, e5, by rw [List.length_map, ra.1, rl]; exact Nat.lt_of_le_of_lt (show j ≤ 1000 by omega) (by decide), ?_⟩
      refine ⟨as ++ [t], row ++ [(x, y)], _, _, rfl, fun b u hb hu => by rw [upd_ne hb]; exact sH5 _ _ (sH4 _ _ (k3 _ _ hb hu)), by rw [upd_same, List.map_append]; rfl, by rw [etj]; exact mapM_snoc er (by rw [em, ea, eb']), ⟨by rw [List.length_append, List.length_append, ra.1]; rfl, fun k z hk => ?_⟩, by rw [List.length_append, rl]; rfl⟩
      have er2 : iRow (row ++ [(x, y)]) = iRow row ++ [((x : Int), (y : Int))] := by unfold iRow; rw [List.map_append]; rfl
      have irl : (iRow row).length = row.length := List.length_map _
      rw [er2]
      rcases snoc_get hk with ⟨h0, h1⟩ | ⟨h1, h2⟩
      · obtain ⟨t', l', g1, g2⟩ := ra.2 k z h1
        refine ⟨t', l', ?_, tu _ _ (sH5 _ _ (sH4 _ _ g2))⟩
        rw [List.getElem?_append_left (lt_of_get g1)]
        exact g1
      · subst h2
        refine ⟨_, _, ?_, tu _ _ et⟩
        rw [h1, ra.1, List.getElem?_append_right (by omega), irl, Nat.sub_self]
        rfl
    rintro σ H3 ⟨as, row, v2, v3, rfl, k3, e3, er, ra, rl⟩
    rw [List.length_map, List.take_length] at er
    have s3 : Same H H3 := fun b u hb => k3 _ _ (ne_of_none hb nD) (s2 _ _ hb)
    exact ⟨_, rfl, q H3 D as s3 nD e3 (by rw [good row er]; exact ra)⟩
end
theorem op_inK {X : Cx} {K : PySem.W.Frag} (h : X.K = K) : OpR X (compareOp .In) (rIn K false) := by
  subst h
  exact op_in_seq
theorem in_strs (k : Str) : ∀ ss : List Str, inV (.str k) (ss.map V.str) = decide (k ∈ ss)
  | [] => by simp [inV]
  | s :: ss => by
    have ih := in_strs k ss
    unfold inV at ih ⊢
    rw [List.map_cons, List.any_cons, ih]
    show ((s == k) || _) = _
    by_cases c : s = k
    · subst c
      simp
    · have c2 : k ≠ s := fun z => c z.symm
      simp [c, c2]
theorem flat_strs : ∀ ss : List Str, (ss.map V.str).all flatV = true
  | [] => rfl
  | _ :: ss => by
    rw [List.map_cons, List.all_cons, flat_strs ss]
    rfl
section
open TL
theorem dv_pos : ∀ (n : Nat) (l : List Nat), l.length = n → ∀ c, l.head? = some c → 49 ≤ c → 1 ≤ NumText.digitsVal l
  | 0, l, h, c, hc, _ => by
    rw [List.eq_nil_of_length_eq_zero h] at hc
    cases hc
  | n + 1, l, h, c, hc, h49 => by
    rcases List.eq_nil_or_concat l with e | ⟨a, x, e⟩
    · rw [e] at hc; cases hc
    · rw [List.concat_eq_append] at e
      subst e
      rw [dv_snoc]
      cases a with
      | nil =>
        cases hc
        have : NumText.digitsVal [] = 0 := rfl
        omega
      | cons b r =>
        have hl : (b :: r).length = n := by rw [List.length_append, List.length_singleton] at h; omega
        have := dv_pos n (b :: r) hl b rfl (by cases hc; exact h49)
        omega
theorem natF_small {l : List Nat} {m : Nat} (h : natF l = some m) (hm : m ≤ 9) : l = [48 + m] := by
  unfold natF at h
  split at h
  · cases h
  rename_i hz
  split at h
  case isFalse => cases h
  rename_i hall
  cases h
  cases l with
  | nil => exact absurd (.inl rfl) hz
  | cons c r =>
    have hc := of_decide_eq_true (List.all_eq_true.mp hall c List.mem_cons_self)
    rcases List.eq_nil_or_concat r with e | ⟨a, x, e⟩
    · subst e
      have e1 : NumText.digitsVal [c] = c - 48 := by
        have := dv_snoc [] c
        have h0 : NumText.digitsVal [] = 0 := rfl
        rw [List.nil_append] at this
        omega
      rw [e1]
      congr 1
      omega
    · rw [List.concat_eq_append] at e
      subst e
      exfalso
      have h49 : 49 ≤ c := by
        rcases Nat.lt_or_ge c 49 with y | y
        · exact absurd (.inr ⟨by rw [show c = 48 by omega]; rfl, by simp⟩) hz
        · exact y
      have e2 : c :: (a ++ [x]) = (c :: a) ++ [x] := rfl
      rw [e2, dv_snoc] at hm
      have := dv_pos _ (c :: a) rfl c rfl h49
      omega
def leadW : List Str := ["-3", "-2", "-1", "0", "1", "2"]
theorem lead_in : ∀ w ∈ leadW, ∀ L ∈ ([-3, -2, -1, 0, 1, 2] : List Int), ts L = w → (match whV (tl w) with | .int z => decide (z = L) | _ => false) = true ∧ PySem.intText? w = some L := by decide +kernel
theorem lead_ts : (∀ w ∈ leadW, ∃ L ∈ ([-3, -2, -1, 0, 1, 2] : List Int), ts L = w) ∧ ∀ w ∈ leadW, w.length ≤ 2 := by decide +kernel
theorem lead_tl : ∀ w ∈ leadW, tl w = [45, 51] ∨ tl w = [45, 50] ∨ tl w = [45, 49] ∨ tl w = [48] ∨ tl w = [49] ∨ tl w = [50] := by decide +kernel
theorem lead_out {w : Str} (h : w ∉ leadW) {z : Int} (e : whV (tl w) = .int z) : ¬ (-3 ≤ z ∧ z ≤ 2) := by
  rintro ⟨z0, z1⟩
  have m : ∀ x ∈ leadW, tl w ≠ tl x := fun x hx y => h (ext_tl y ▸ hx)
  have k : tl ("-3" : Str) = [45, 51] ∧ tl ("-2" : Str) = [45, 50] ∧ tl ("-1" : Str) = [45, 49] ∧ tl ("0" : Str) = [48] ∧ tl ("1" : Str) = [49] ∧ tl ("2" : Str) = [50] := by decide +kernel
  obtain ⟨k1, k2, k3, k4, k5, k6⟩ := k
  unfold whV at e
  split at e
  · rename_i h45
    split at e
    · rename_i n hn
      cases e
      have hs := natF_small hn (by omega)
      have et : tl w = [45, 48 + (n + 1)] := by
        rw [← List.take_append_drop 1 (tl w), h45, hs]
        rfl
      rcases (show n = 0 ∨ n = 1 ∨ n = 2 by omega) with rfl | rfl | rfl
      · exact m "-1" (by simp [leadW]) (by rw [et, k3])
      · exact m "-2" (by simp [leadW]) (by rw [et, k2])
      · exact m "-3" (by simp [leadW]) (by rw [et, k1])
    · cases e
  · cases hn : natF (tl w) with
    | none => rw [hn] at e; cases e
    | some n =>
      rw [hn] at e
      cases e
      have hs := natF_small hn (by omega)
      rcases (show n = 0 ∨ n = 1 ∨ n = 2 by omega) with rfl | rfl | rfl
      · exact m "0" (by simp [leadW]) (by rw [hs, k4])
      · exact m "1" (by simp [leadW]) (by rw [hs, k5])
      · exact m "2" (by simp [leadW]) (by rw [hs, k6])
/-- the lead as the law reads it: the number, or 9 -/
def LlQ (w : Str) (H : Hp) (Q : VK) : Prop := (∀ L : Int, -3 ≤ L → L ≤ 2 → whV (tl w) = .int L → ∀ H', Same H H' → Q (.int L) H') ∧ ((∀ L : Int, whV (tl w) = .int L → ¬ (-3 ≤ L ∧ L ≤ 2)) → ∀ H', Same H H' → Q (.int 9) H')
def spLl : Sp := fun vs H Q _ => ∃ w : Str, vs = [.str w] ∧ w.length ≤ 640 ∧ LlQ w H Q
theorem inqT {H : Hp} {p : Addr} {ss : List Str} {k : Str} {Q : VK} (h : SqT K H p (ss.map V.str)) (q : Q (.bl (decide (k ∈ ss))) H) : rIn K false (.str k) (.ref p) H Q :=
  ⟨p, _, rfl, .inr h, rfl, flat_strs ss, by rw [in_strs]; exact q⟩
theorem cal_llm (T : Txt K mg) : C8.Cal P w K mg base 1 "_law_lead" spLl [] := by
  obtain ⟨f, fd, F, hm, hb⟩ := T.h_law_lead
  refine ⟨f, fd, _, [], F.ok sc_law_lead (fun vs H Q E h => ?_) (fun cdv A outer s H vs Q E hr h => ?_), hm, F.kp, hb, .nil⟩
  · obtain ⟨w, rfl, _⟩ := h
    rfl
  · obtain ⟨x, rfl, hx, q1, q2⟩ := h
    refine ⟨_, (pss_cons
      (ps_if (pt_cmpR (op_inK (K := K) rfl) (pv 0) (pe_tup (pa_cons pe_str (pa_cons pe_str (pa_cons pe_str (pa_cons pe_str (pa_cons pe_str (pa_cons pe_str pa_nil))))))) (by rfl)) (pss_one
      (ps_ret (pe_callTy call_int_str (by rfl) T.z_int (by decide +kernel) (pa_cons (pv 0) pa_nil)))) pss_nil)
      (pss_one
      (ps_ret pe_int))), ?_⟩
    refine ⟨_, rfl, by show 6 ≤ sizeLine; decide, fun p np => ?_⟩
    have s1 := same_new (o := .tup (leadW.map V.str)) np
    refine inqT (ss := leadW) (.of upd_same) ⟨_, rfl, ?_⟩
    by_cases c : x ∈ leadW
    · obtain ⟨L, hL, hts⟩ := lead_ts.1 x c
      obtain ⟨h1, h2⟩ := lead_in x c L hL hts
      refine ite_t (decide_eq_true c) ⟨_, rfl, x, L, rfl, h2, hx, ?_⟩
      have hLb : -3 ≤ L ∧ L ≤ 2 := by simp at hL; omega
      refine q1 L hLb.1 hLb.2 ?_ _ s1
      rcases whV_or (tl x) with e | ⟨z, e⟩
      · rw [e] at h1; cases h1
      · rw [e] at h1 ⊢
        rw [of_decide_eq_true h1]
    · exact ite_f (decide_eq_false c) (q2 (fun L e => lead_out c e) _ s1)
end
section
open TL
theorem d1_len {n : Int} (h0 : 0 ≤ n) (h1 : n < 10) : (Str.ofString (toString n)).length ≤ 1 := by
  rcases (show n = 0 ∨ n = 1 ∨ n = 2 ∨ n = 3 ∨ n = 4 ∨ n = 5 ∨ n = 6 ∨ n = 7 ∨ n = 8 ∨ n = 9 by omega) with rfl | rfl | rfl | rfl | rfl | rfl | rfl | rfl | rfl | rfl <;> decide +kernel
theorem l2_len {n : Int} (h0 : -3 ≤ n) (h1 : n ≤ 2) : (Str.ofString (toString n)).length ≤ 2 := by
  rcases (show n = -3 ∨ n = -2 ∨ n = -1 ∨ n = 0 ∨ n = 1 ∨ n = 2 by omega) with rfl | rfl | rfl | rfl | rfl | rfl <;> decide +kernel
theorem lg_lt {n : Int} (h0 : -3 ≤ n) (h1 : n < 10) : n.natAbs.log2 < 1920 := by
  have h : n.natAbs < 2 ^ 1920 := Nat.lt_of_le_of_lt (show n.natAbs ≤ 9 by omega) (Nat.lt_of_lt_of_le (show 9 < 2 ^ 4 by decide) (Nat.pow_le_pow_right (by decide) (by decide)))
  by_cases z : n.natAbs = 0
  · rw [z]; decide
  · exact (Nat.log2_lt z).mpr h
def mvS (p : Int × Int) : Str := ts p.1 ++ sQ ++ ts p.2
def spLt : Sp := fun vs H Q _ => ∃ (oa r : Addr) (I O L : Int) (op : List Int) (as : List Addr) (c : List (List (Int × Int))), vs = [.int I, .int O, .int L, .ref oa, .ref r] ∧ H oa = some (.lst (op.map V.int)) ∧ LPr H r as c ∧ (0 ≤ I ∧ I < 10) ∧ (0 ≤ O ∧ O < 10) ∧ (-3 ≤ L ∧ L ≤ 2) ∧ op.length ≤ 3 ∧ (∀ z ∈ op, 0 ≤ z ∧ z < 10) ∧ c.length ≤ 3 ∧ (∀ row ∈ c, row.length ≤ 2 ∧ ∀ p ∈ row, (0 ≤ p.1 ∧ p.1 < 10) ∧ 0 ≤ p.2 ∧ p.2 < 10) ∧ ∀ (H' : Hp) (t : Str), Same H H' → t.length ≤ 80 → Q (.str t) H'
theorem cal_ltxM (T : Txt K mg) : C8.Cal P w K mg base 1 "_law_machine_text" spLt [] := by
  obtain ⟨f, fd, F, hm, hb⟩ := T.h_law_machine_text
  refine ⟨f, fd, _, [], F.ok sc_law_machine_text (fun vs H Q E h => ?_) (fun cdv A outer s H vs Q E hr h => ?_), hm, F.kp, hb, .nil⟩
  · obtain ⟨_, _, _, _, _, _, _, _, rfl, _⟩ := h
    rfl
  · obtain ⟨oa, r, I, O, L, op, as, c, rfl, ho, hL, hI0, hO0, hL0, hol, hon, hcl, hcr, q⟩ := h
    refine ⟨_, (pss_cons
      (ps_set (i := 5) sc_law_machine_text.nd rfl (Or.inl rfl) (pe_op op_add_str (pe_op op_add_str (pe_op op_add_str (pe_op op_add_str (pe_op op_add_str (pe_op op_add_str pe_str (pe_callTy call_str_int (by rfl) T.z_str (by decide +kernel) (pa_cons (pv 0) pa_nil))) pe_str) (pe_callTy call_str_int (by rfl) T.z_str (by decide +kernel) (pa_cons (pv 1) pa_nil))) pe_str) (pe_callTy call_str_int (by rfl) T.z_str (by decide +kernel) (pa_cons (pv 2) pa_nil))) pe_str))
      (pss_cons
      (ps_set (i := 5) sc_law_machine_text.nd rfl (Or.inl rfl) (pe_op op_add_str (pe_op op_add_str (pv 5) (pe_join pe_str (pe_op op_cat (pe_lst (pa_cons pe_str pa_nil)) (pe_lc (own := [("letter", 7)]) (g := gName 7) (tt := tYes) rfl sc_law_machine_text.nd (pi_list (pv 3)) (blkOk_by (N := N_law_machine_text) (sc := defScope s_law_machine_text) (by decide +kernel)) (fun _ _ _ _ _ => (pg_name (i := 7) sc_law_machine_text.nd rfl (Or.inl rfl))) (fun _ _ _ _ _ => pts_nil) (fun _ _ _ _ _ => (pe_callTy call_str_int (by rfl) T.z_str (by decide +kernel) (pa_cons (pv 7) pa_nil))))))) pe_str))
      (pss_cons
      (ps_for PassesOwn.never rfl (pi_list (pv 4)) (pg_name (i := 6) sc_law_machine_text.nd rfl (.inl rfl)) (pss_one
      (ps_set (i := 5) sc_law_machine_text.nd rfl (Or.inl rfl) (pe_op op_add_str (pe_op op_add_str (pv 5) (pe_join pe_str (pe_lc (own := [("pair", 8)]) (g := gName 8) (tt := tYes) rfl sc_law_machine_text.nd (pi_list (pv 6)) (blkOk_by (N := N_law_machine_text) (sc := defScope s_law_machine_text) (by decide +kernel)) (fun _ _ _ _ _ => (pg_name (i := 8) sc_law_machine_text.nd rfl (Or.inl rfl))) (fun _ _ _ _ _ => pts_nil) (fun _ _ _ _ _ => (pe_op op_add_str (pe_op op_add_str (pe_callTy call_str_int (by rfl) T.z_str (by decide +kernel) (pa_cons (pe_ix (ix_tupK (K := K) rfl) (pv 8) pe_int (fun _ _ => rfl)) pa_nil)) pe_str) (pe_callTy call_str_int (by rfl) T.z_str (by decide +kernel) (pa_cons (pe_ix (ix_tupK (K := K) rfl) (pv 8) pe_int (fun _ _ => rfl)) pa_nil))))))) pe_str))))
      (pss_one
      (ps_ret (pv 5)))))), ?_⟩
    have hI := d1_len hI0.1 hI0.2
    have hO := d1_len hO0.1 hO0.2
    have hLl := l2_len hL0.1 hL0.2
    have hm8 : (Str.ofString "machine ").length = 8 := by decide +kernel
    have hb1 : (Str.ofString " ").length = 1 := by decide +kernel
    have hn1 : (Str.ofString "\n").length = 1 := by decide +kernel
    have hBz : sB.length = 1 := hb1
    refine ⟨_, rfl, I, rfl, lg_lt (by omega) (by omega), _, _, rfl, rfl, Nat.le_trans (m := 3000) (by (try simp only [slen]); omega) (by decide), _, _, rfl, rfl, Nat.le_trans (m := 3000) (by (try simp only [slen]); omega) (by decide), _, rfl, O, rfl, lg_lt (by omega) (by omega), _, _, rfl, rfl, Nat.le_trans (m := 3000) (by (try simp only [slen]); omega) (by decide), _, _, rfl, rfl, Nat.le_trans (m := 3000) (by (try simp only [slen]); omega) (by decide), _, rfl, L, rfl, lg_lt (by omega) (by omega), _, _, rfl, rfl, Nat.le_trans (m := 3000) (by (try simp only [slen]); omega) (by decide), _, _, rfl, rfl, Nat.le_trans (m := 3000) (by (try simp only [slen]); omega) (by decide), ?_⟩
    have hlx : (Str.ofString "machine " ++ Str.ofString (toString I) ++ Str.ofString " " ++ Str.ofString (toString O) ++ Str.ofString " " ++ Str.ofString (toString L) ++ Str.ofString "\n").length ≤ 15 := by
      simp only [slen]
      omega
    generalize Str.ofString "machine " ++ Str.ofString (toString I) ++ Str.ofString " " ++ Str.ofString (toString O) ++ Str.ofString " " ++ Str.ofString (toString L) ++ Str.ofString "\n" = tx at hlx ⊢
    refine ⟨_, rfl, ⟨_, rfl⟩, by show 1 ≤ sizeLine; decide, fun a ha => ?_⟩
    have s2 := same_new (o := .lst [V.str (Str.ofString "opening")]) ha
    have ea := upd_same (H := H) (a := a) (o := .lst [V.str (Str.ofString "opening")])
    generalize upd H a (.lst [V.str (Str.ofString "opening")]) = H6 at s2 ea ⊢
    have eo6 := s2 _ _ ho
    refine ⟨_, rfl, oa, rfl, ⟨_, .of eo6⟩, fun D hD => lc_list (K := K) (a := oa) (xs := op.map V.int) (fun i H4 => Same H6 H4 ∧ H4 D = some (.lst (((op.take i).map ts).map V.str))) ⟨same_new hD, upd_same⟩ (fun i H' _ z => .of (z.1 _ _ eo6)) ?_ ?_⟩
    · rintro i v H4 hi ⟨s4, e4⟩
      obtain ⟨z, hz, rfl⟩ := ints_get hi
      have hil := (List.getElem?_eq_some_iff.mp hz).1
      have hz2 := hon z (List.mem_of_getElem? hz)
      refine ⟨rfl, _, rfl, z, rfl, lg_lt (by omega) (by omega), _, e4, ?_, fun b o hb => ?_, ?_⟩
      · rw [List.length_map, List.length_map, List.length_take]
        exact Nat.lt_of_le_of_lt (show min i _ ≤ 100 by omega) (by decide)
      · rw [upd_ne (ne_of_none hb hD)]
        exact s4 _ _ hb
      · rw [upd_same, take_get hz, List.map_append, List.map_append]
        rfl
    rintro H7 ⟨s7, eD⟩
    rw [List.length_map, List.take_length] at eD
    refine ⟨a, D, _, _, rfl, rfl, s7 _ _ ea, eD, ?_, fun b hb => ?_⟩
    · rw [List.length_map, List.length_map]
      exact Nat.le_trans (show 1 + op.length ≤ 101 by omega) (by decide)
    have hps : ∀ p ∈ sO :: op.map ts, p.length ≤ 7 := fun p hp => by
      rcases List.mem_cons.mp hp with rfl | hp
      · decide +kernel
      · obtain ⟨z, hz, rfl⟩ := List.mem_map.mp hp
        exact Nat.le_trans (d1_len (hon z hz).1 (hon z hz).2) (by decide)
    have hsz := slens hps
    rw [List.length_cons, List.length_map] at hsz
    refine ⟨sB, b, sO :: op.map ts, rfl, rfl, .inl (.of upd_same), ?_, ?_⟩
    · rw [hBz, List.length_cons, List.length_map]
      omega
    have hlo : (Txt.join sB (sO :: op.map ts)).length ≤ 32 := by
      have := jlen (y := sB) hps
      rw [hBz, List.length_cons, List.length_map] at this
      omega
    have s07 : Same H (upd H7 b (.lst ([V.str (Str.ofString "opening")] ++ (op.map ts).map V.str))) := fun z o hz => same_new hb _ _ (s7 _ _ (s2 _ _ hz))
    refine ⟨_, _, rfl, rfl, Nat.le_trans (show tx.length + (Txt.join sB (sO :: op.map ts)).length ≤ 10000 by omega) (by decide), _, _, rfl, rfl, Nat.le_trans (show (tx ++ Txt.join sB (sO :: op.map ts)).length + (Str.ofString "\n").length ≤ 10000 by rw [slen]; omega) (by decide), ?_⟩
    have et2 : (tx ++ Txt.join sB (sO :: op.map ts) ++ Str.ofString "\n").length ≤ 48 := by
      simp only [slen]
      omega
    show gName 5 (V.str (tx ++ Txt.join sB (sO :: op.map ts) ++ Str.ofString "\n")) _ _ _
    generalize tx ++ Txt.join sB (sO :: op.map ts) ++ Str.ofString "\n" = t2 at et2 ⊢
    generalize upd H7 b (.lst ([V.str (Str.ofString "opening")] ++ (op.map ts).map V.str)) = H8 at s07 ⊢
    clear hlx s2 ea eo6 hD s7 eD hb ha
    refine ⟨_, rfl, r, rfl, ⟨_, .of (s07 _ _ hL.1)⟩, for_list (K := K) (a := r) (xs := as.map V.ref) (fun i σ H' => ∃ (t3 : Str) (v6 : Option V), σ = [some (.int I), some (.int O), some (.int L), some (.ref oa), some (.ref r), some (.str t3), v6, none, none] ∧ Same H H' ∧ t3.length ≤ 48 + 9 * i) ⟨_, _, rfl, s07, et2⟩ (fun i σ H' _ ⟨_, _, _, z, _⟩ => .of (z _ _ hL.1)) ?_ ?_⟩
    · rintro i y σ H3 hi ⟨t3, v6, rfl, s3, et3⟩
      obtain ⟨ra, hra, rfl⟩ := refs_get hi
      obtain ⟨bs, row, hrow, hrae, hbl, hR⟩ := hL.2.g i ra hra
      have hmem := List.mem_of_getElem? hrow
      have hil := (List.getElem?_eq_some_iff.mp hrow).1
      obtain ⟨hrl, hrn⟩ := hcr row hmem
      have mvl : ∀ p ∈ row.map mvS, p.length ≤ 3 := fun p hp => by
        obtain ⟨z, hz, rfl⟩ := List.mem_map.mp hp
        have h := hrn z hz
        have h1 := d1_len h.1.1 h.1.2
        have h2 := d1_len h.2.1 h.2.2
        have h3 : sQ.length = 1 := by decide +kernel
        unfold mvS ts
        rw [slen, slen]
        omega
      refine ⟨_, rfl, ⟨_, rfl⟩, _, rfl, ra, rfl, ⟨_, .of (s3 _ _ hrae)⟩, fun D hD => lc_list (K := K) (a := ra) (xs := bs.map V.ref) (fun i H4 => Same H3 H4 ∧ H4 D = some (.lst (((row.take i).map mvS).map V.str))) ⟨same_new hD, upd_same⟩ (fun i H' _ z => .of (z.1 _ _ (s3 _ _ hrae))) ?_ ?_⟩
      · rintro j v H4 hj ⟨s4, e4'⟩
        obtain ⟨b, hb, rfl⟩ := refs_get hj
        obtain ⟨t, u, hp, hbe⟩ := hR j b hb
        have hp2 := hrn _ (List.mem_of_getElem? hp)
        have hjl := (List.getElem?_eq_some_iff.mp hp).1
        have lt : (Str.ofString (toString t)).length ≤ 1 := d1_len hp2.1.1 hp2.1.2
        have lu : (Str.ofString (toString u)).length ≤ 1 := d1_len hp2.2.1 hp2.2.2
        have ht' : -3 ≤ t ∧ t < 10 := ⟨by have := hp2.1.1; dsimp only at this; omega, hp2.1.2⟩
        have hu' : -3 ≤ u ∧ u < 10 := ⟨by have := hp2.2.1; dsimp only at this; omega, hp2.2.2⟩
        have hQ2 : (Str.ofString "/").length = 1 := by decide +kernel
        have hb4 := s4 _ _ (s3 _ _ hbe)
        refine ⟨rfl, _, rfl, b, _, _, .int t, rfl, rfl, .of hb4, rfl, t, rfl, lg_lt ht'.1 ht'.2, _, _, rfl, rfl, Nat.le_trans (show (Str.ofString (toString t)).length + (Str.ofString "/").length ≤ 100 by omega) (by decide), _, rfl, b, _, _, .int u, rfl, rfl, .of hb4, rfl, u, rfl, lg_lt hu'.1 hu'.2, _, _, rfl, rfl, Nat.le_trans (show (Str.ofString (toString t) ++ Str.ofString "/").length + (Str.ofString (toString u)).length ≤ 100 by rw [slen]; omega) (by decide), _, e4', ?_, fun b o hb => ?_, ?_⟩
        · rw [List.length_map, List.length_map, List.length_take]
          exact Nat.lt_of_le_of_lt (show min j _ ≤ 100 by omega) (by decide)
        · rw [upd_ne (ne_of_none hb hD)]
          exact s4 _ _ hb
        · rw [upd_same, take_get hp, List.map_append, List.map_append]
          rfl
      · rintro H4 ⟨s4, eD⟩
        rw [List.length_map, hbl, List.take_length] at eD
        have hsz := slens mvl
        rw [List.length_map] at hsz
        have hrs : (Txt.join sB (row.map mvS)).length ≤ 8 := by
          have := jlen (y := sB) mvl
          rw [hBz, List.length_map] at this
          omega
        refine ⟨sB, D, row.map mvS, rfl, rfl, .inl (.of eD), ?_, ?_⟩
        · rw [hBz, List.length_map]
          omega
        refine ⟨_, _, rfl, rfl, Nat.le_trans (show t3.length + (Txt.join sB (row.map mvS)).length ≤ 1000 by omega) (by decide), _, _, rfl, rfl, Nat.le_trans (show (t3 ++ Txt.join sB (row.map mvS)).length + (Str.ofString "\n").length ≤ 1000 by rw [slen]; omega) (by decide), _, _, rfl, s3.trans s4, ?_⟩
        show (t3 ++ Txt.join sB (row.map mvS) ++ Str.ofString "\n").length ≤ _
        rw [slen, slen]
        omega
    · rintro σ H3 ⟨t3, v6, rfl, s3, et3⟩
      rw [List.length_map, hL.2.len] at et3
      exact ⟨_, rfl, q H3 t3 s3 (by omega)⟩
end
section
open TL
def jl (ms : List Str) : Nat := (ms.map (·.length)).sum + ms.length
theorem jl_app (a b : List Str) : jl (a ++ b) = jl a + jl b := by
  unfold jl
  rw [List.map_append, List.sum_append, List.length_append]
  omega
theorem jl_len (ms : List Str) : ms.length ≤ jl ms := by unfold jl; omega
theorem jl_join (ms : List Str) : (Txt.join sN ms).length ≤ jl ms := by
  have h : ∀ ps : List (List Nat), (joinL [10] ps).length ≤ (ps.map (·.length)).sum + ps.length := by
    intro ps
    induction ps with
    | nil => simp [joinL]
    | cons p ps ih =>
      cases ps with
      | nil => simp [joinL]
      | cons q ps =>
        have e : (p :: q :: ps).length = (q :: ps).length + 1 := rfl
        rw [joinL_cons, List.length_append, List.length_append, List.map_cons, List.sum_cons, e]
        show _ + (1 + _) ≤ _
        omega
  rw [len_tl, tl_jn, tl_sN]
  refine Nat.le_trans (h _) ?_
  unfold jl
  rw [List.map_map, List.length_map]
  have e : ((fun x : List Nat => x.length) ∘ tl) = fun x : Str => x.length := by
    funext x
    exact (len_tl x).symm
  rw [e]
  exact Nat.le_refl _
theorem spl_sum : ∀ (k : Nat) (acc l : List Nat), ((spl [10] k acc l).map (·.length)).sum + (spl [10] k acc l).length ≤ acc.length + l.length + 1
  | k, acc, [] => by rw [spl_nil]; simp
  | 0, acc, c :: r => by
    show ((if pre [10] (c :: r) = true then acc :: spl [10] 0 [] r else spl [10] 0 (acc ++ [c]) r).map (·.length)).sum + (if pre [10] (c :: r) = true then acc :: spl [10] 0 [] r else spl [10] 0 (acc ++ [c]) r).length ≤ _
    split
    · have := spl_sum 0 [] r
      rw [List.map_cons, List.sum_cons, List.length_cons, List.length_cons]
      simp only [List.length_nil] at this
      omega
    · have := spl_sum 0 (acc ++ [c]) r
      rw [List.length_append, List.length_singleton] at this
      rw [List.length_cons]
      omega
  | k + 1, acc, c :: r => by
    have := spl_sum k acc r
    rw [List.length_cons]
    show (List.map _ (spl [10] k acc r)).sum + (spl [10] k acc r).length ≤ _
    omega
def lnsOf (t : Str) : List Str := Txt.split t sN
theorem lnsOf_tl (t : Str) : (lnsOf t).map tl = spl [10] 0 [] (tl t) := by
  have := split_spl t sN (by rw [tl_sN]; simp) (kind_ok (by decide +kernel))
  rw [tl_sN] at this
  exact this
theorem jl_lns (t : Str) : jl (lnsOf t) ≤ t.length + 1 := by
  have h := spl_sum 0 [] (tl t)
  rw [← lnsOf_tl, List.map_map, List.length_map] at h
  have e : ((fun x : List Nat => x.length) ∘ tl) = fun x : Str => x.length := by
    funext x
    exact (len_tl x).symm
  rw [e, List.length_nil] at h
  rw [len_tl t]
  unfold jl
  omega
theorem lns_ne (t : Str) : lnsOf t ≠ [] := fun z => by
  have h := lnsOf_tl t
  rw [z] at h
  exact spl_ne _ _ _ _ h.symm
theorem mem_jl {m : Str} : ∀ {ms : List Str}, m ∈ ms → m.length + ms.length ≤ jl ms
  | a :: ms, h => by
    have e : jl (a :: ms) = a.length + 1 + jl ms := by unfold jl; rw [List.map_cons, List.sum_cons, List.length_cons]; omega
    rw [e, List.length_cons]
    rcases List.mem_cons.mp h with rfl | h
    · have := jl_len ms; omega
    · have := mem_jl h; omega
theorem jl_take_mono (ls : List Str) {a b : Nat} (h : a ≤ b) : jl (ls.take a) ≤ jl (ls.take b) := by
  have e : ls.take b = ls.take a ++ (ls.take b).drop a := by
    have := List.take_append_drop a (ls.take b)
    rw [List.take_take, Nat.min_eq_left h] at this
    exact this.symm
  rw [e, jl_app]
  omega
theorem jl_cut (ls : List Str) (k : Nat) : jl (ls.take k) + jl (ls.drop k) = jl ls := by rw [← jl_app, List.take_append_drop]
theorem cutV_mid (ls : List Str) (a b : Nat) : ∃ ms : List Str, cutV (ls.map V.str) (some (a : Int)) (some (b : Int)) = ms.map V.str ∧ jl ms ≤ jl (ls.take b) - jl (ls.take a) := by
  unfold cutV
  rw [HT.sIx_nat, HT.sIx_nat]
  refine ⟨(ls.drop (min a (ls.map V.str).length)).take (min b (ls.map V.str).length - min a (ls.map V.str).length), by rw [List.map_take, List.map_drop], ?_⟩
  rw [List.length_map]
  rcases Nat.lt_or_ge (min a ls.length) (min b ls.length) with h | h
  · have e1 : ls.take b = ls.take (min b ls.length) := List.take_eq_take_iff.mpr (by omega)
    have e2 : ls.take a = ls.take (min a ls.length) := List.take_eq_take_iff.mpr (by omega)
    rw [e1, e2]
    have e : ls.take (min b ls.length) = ls.take (min a ls.length) ++ (ls.drop (min a ls.length)).take (min b ls.length - min a ls.length) := by
      have h3 := List.take_append_drop (min a ls.length) (ls.take (min b ls.length))
      rw [List.take_take, Nat.min_eq_left (Nat.le_of_lt h), List.drop_take] at h3
      exact h3.symm
    rw [e, jl_app]
    omega
  · rw [show min b ls.length - min a ls.length = 0 by omega, List.take_zero]
    show 0 + 0 ≤ _
    omega
/-- te gives a new list of lines that is not too long -/
def Lj (σ : L2.St) (H : Hp) (te : TE) (n : Nat) : Prop := ∀ (H0 : Hp) (Q : VK), Same H H0 → (∀ (H' : Hp) (p : Addr) (ms : List Str), Same H0 H' → H' p = some (.lst (ms.map V.str)) → jl ms ≤ n → Q (.ref p) H') → te σ H0 Q
theorem Lj.cat {σ : L2.St} {H : Hp} {t u : TE} {n m : Nat} (h1 : Lj σ H t n) (h2 : Lj σ H u m) (hn : n + m ≤ 10000) : Lj σ H (tOp rCat t u) (n + m) := fun H0 Q s0 q =>
  h1 H0 _ s0 fun H1 p1 ms1 s1 e1 l1 => h2 H1 _ (s0.trans s1) fun H2 p2 ms2 s2 e2 l2 => by
    have j1 := jl_len ms1
    have j2 := jl_len ms2
    refine ⟨p1, p2, _, _, rfl, rfl, s2 _ _ e1, e2, by rw [List.length_map, List.length_map]; exact Nat.le_trans (show ms1.length + ms2.length ≤ 10000 by omega) (by decide), fun p np => ?_⟩
    have s := same_new (o := .lst (ms1.map V.str ++ ms2.map V.str)) np
    exact q _ p (ms1 ++ ms2) ((s1.trans s2).trans s) (by rw [upd_same, List.map_append]) (by rw [jl_app]; omega)
section
variable {a : Addr} {σ : L2.St} {H : Hp} {ls : List Str} {i : Nat}
theorem Lj.to (h1 : σ[i]? = some (some (.ref a))) (ha : H a = some (.lst (ls.map V.str))) {te : TE} {k : Nat} (hte : ∀ (H0 : Hp) (R : VK), R (.int (k : Int)) H0 → te σ H0 R) : Lj σ H (tSl (rSlL K) (tVar i) tNoPart (tPart te)) (jl (ls.take k)) := fun H0 Q s0 q =>
  ⟨_, h1, hte H0 _ ⟨_, rfl, a, _, rfl, .of (s0 _ _ ha), fun p np => by
    rw [cut_take, ← List.map_take]
    exact q _ p _ (same_new np) upd_same (Nat.le_refl _)⟩⟩
theorem Lj.fr (h1 : σ[i]? = some (some (.ref a))) (ha : H a = some (.lst (ls.map V.str))) {te : TE} {k : Nat} (hte : ∀ (H0 : Hp) (R : VK), R (.int (k : Int)) H0 → te σ H0 R) : Lj σ H (tSl (rSlL K) (tVar i) (tPart te) tNoPart) (jl (ls.drop k)) := fun H0 Q s0 q =>
  ⟨_, h1, hte H0 _ ⟨_, rfl, a, _, rfl, .of (s0 _ _ ha), fun p np => by
    rw [cut_drop, ← List.map_drop]
    exact q _ p _ (same_new np) upd_same (Nat.le_refl _)⟩⟩
theorem Lj.mid (h1 : σ[i]? = some (some (.ref a))) (ha : H a = some (.lst (ls.map V.str))) {te tf : TE} {k m : Nat} (hte : ∀ (H0 : Hp) (R : VK), R (.int (k : Int)) H0 → te σ H0 R) (htf : ∀ (H0 : Hp) (R : VK), R (.int (m : Int)) H0 → tf σ H0 R) : Lj σ H (tSl (rSlL K) (tVar i) (tPart te) (tPart tf)) (jl (ls.take m) - jl (ls.take k)) := fun H0 Q s0 q =>
  ⟨_, h1, hte H0 _ ⟨_, rfl, htf H0 _ ⟨_, rfl, a, _, rfl, .of (s0 _ _ ha), fun p np => by
    obtain ⟨ms, e, hl⟩ := cutV_mid ls k m
    rw [e]
    exact q _ p _ (same_new np) upd_same hl⟩⟩⟩
end
def spChM : Sp := fun vs H Q _ => ∃ (d : Addr) (t : Str), vs = [.ref d, .str t] ∧ Drw H d ∧ t.length ≤ 500 ∧ ∀ (H' : Hp) (t' : Str), Kp d H H' → Drw H' d → t'.length ≤ 2 * t.length + 2 → Q (.str t') H'
theorem cal_chM (T : Txt K mg) : C8.Cal P w K mg base 2 "_law_change" spChM [] := by
  have C_law_take : C8.Cal P w K mg base 1 "_law_take" spTake [] := cal_take T
  obtain ⟨f, fd, F, hm, hb⟩ := T.h_law_change
  refine ⟨f, fd, _, [], F.ok sc_law_change (fun vs H Q E h => ?_) (fun cdv A outer s H vs Q E hr h => ?_), hm, F.kp, hb, .nil⟩
  · obtain ⟨d, t, rfl, _⟩ := h
    rfl
  · obtain ⟨d, t, rfl, hd, hl, q⟩ := h
    refine ⟨_, (pss_cons
      (ps_set (i := 2) sc_law_change.nd rfl (Or.inl rfl) (C8.pe_c C_law_take hr (by decide) (by rfl) (pa_cons (pv 0) (pa_cons pe_int pa_nil))))
      (pss_cons
      (ps_set (i := 3) sc_law_change.nd rfl (Or.inl rfl) (C8.pe_c C_law_take hr (by decide) (by rfl) (pa_cons (pv 0) (pa_cons (pe_op op_add (pe_callB call_len_str (by rfl) T.z_len PySem.boot_len (pa_cons (pv 1) pa_nil)) pe_int) pa_nil))))
      (pss_cons
      (ps_set (i := 4) sc_law_change.nd rfl (Or.inl rfl) pe_str)
      (pss_cons
      (ps_set (i := 5) sc_law_change.nd rfl (Or.inl rfl) (pe_ix ix_str (pv 4) (C8.pe_c C_law_take hr (by decide) (by rfl) (pa_cons (pv 0) (pa_cons (pe_callB call_len_str (by rfl) T.z_len PySem.boot_len (pa_cons (pv 4) pa_nil)) pa_nil))) (fun _ _ => rfl)))
      (pss_cons
      (ps_set (i := 6) sc_law_change.nd rfl (Or.inl rfl) (pe_m1 PySem.F.slot_str_split PySem.F.type_str_split mt_split (pv 1) pe_str))
      (pss_cons
      (ps_set (i := 7) sc_law_change.nd rfl (Or.inl rfl) (C8.pe_c C_law_take hr (by decide) (by rfl) (pa_cons (pv 0) (pa_cons (pe_callB (call_lenK (K := K) rfl) (by rfl) T.z_len PySem.boot_len (pa_cons (pv 6) pa_nil)) pa_nil))))
      (pss_cons
      (ps_if (pt_cmpR op_eq (pv 2) pe_int (nomark _)) (pss_one
      (ps_ret (pe_op op_add_str (pe_slice sl_str (pv 1) po_none (po_some (pv 3))) (pe_slice sl_str (pv 1) (po_some (pe_op op_add (pv 3) pe_int)) po_none)))) pss_nil)
      (pss_cons
      (ps_if (pt_cmpR op_lt (pv 2) pe_int (nomark _)) (pss_one
      (ps_ret (pe_op op_add_str (pe_op op_add_str (pe_slice sl_str (pv 1) po_none (po_some (pv 3))) (pv 5)) (pe_slice sl_str (pv 1) (po_some (pv 3)) po_none)))) pss_nil)
      (pss_cons
      (ps_if (pt_cmpR op_lt (pv 2) pe_int (nomark _)) (pss_one
      (ps_ret (pe_op op_add_str (pe_op op_add_str (pe_slice sl_str (pv 1) po_none (po_some (pv 3))) (pv 5)) (pe_slice sl_str (pv 1) (po_some (pe_op op_add (pv 3) pe_int)) po_none)))) pss_nil)
      (pss_cons
      (ps_if (pt_cmpR op_eq (pv 2) pe_int (nomark _)) (pss_one
      (ps_ret (pe_join pe_str (pe_op op_cat (pe_slice (sl_listK (K := K) rfl) (pv 6) po_none (po_some (pv 7))) (pe_slice (sl_listK (K := K) rfl) (pv 6) (po_some (pe_op op_add (pv 7) pe_int)) po_none))))) pss_nil)
      (pss_cons
      (ps_if (pt_cmpR op_eq (pv 2) pe_int (nomark _)) (pss_one
      (ps_ret (pe_join pe_str (pe_op op_cat (pe_op op_cat (pe_slice (sl_listK (K := K) rfl) (pv 6) po_none (po_some (pv 7))) (pe_slice (sl_listK (K := K) rfl) (pv 6) (po_some (pv 7)) (po_some (pe_op op_add (pv 7) pe_int)))) (pe_slice (sl_listK (K := K) rfl) (pv 6) (po_some (pv 7)) po_none))))) pss_nil)
      (pss_cons
      (ps_if (pt_cmpR op_eq (pv 2) pe_int (nomark _)) (pss_one
      (ps_ret (pe_join pe_str (pe_op op_cat (pe_op op_cat (pe_op op_cat (pe_slice (sl_listK (K := K) rfl) (pv 6) po_none (po_some (pv 7))) (pe_slice (sl_listK (K := K) rfl) (pv 6) (po_some (pe_op op_add (pv 7) pe_int)) (po_some (pe_op op_add (pv 7) pe_int)))) (pe_slice (sl_listK (K := K) rfl) (pv 6) (po_some (pv 7)) (po_some (pe_op op_add (pv 7) pe_int)))) (pe_slice (sl_listK (K := K) rfl) (pv 6) (po_some (pe_op op_add (pv 7) pe_int)) po_none))))) pss_nil)
      (pss_one
      (ps_ret (pv 1))))))))))))))), ?_⟩
    have hz : t.length ≤ sizeLine := Nat.le_trans hl (by decide)
    refine ⟨_, rfl, d, 9, rfl, hd, by decide, fun kd ds k0 k1 => ?_⟩
    have K1 : Kp d H (upd H d (.lst (ds.map V.int))) := Kp.own
    have d1 : Drw (upd H d (.lst (ds.map V.int))) d := Drw.own
    generalize upd H d (.lst (ds.map V.int)) = H1 at K1 d1 ⊢
    refine ⟨_, rfl, _, rfl, t, rfl, hz, _, _, rfl, rfl, d, _, rfl, d1, by omega, fun at' us u0 u1 => ?_⟩
    have K2 : Kp d H1 (upd H1 d (.lst (us.map V.int))) := Kp.own
    have d2 : Drw (upd H1 d (.lst (us.map V.int))) d := Drw.own
    generalize upd H1 d (.lst (us.map V.int)) = H2 at K2 d2 ⊢
    have K02 := K1.trans K2
    obtain ⟨j, rfl⟩ : ∃ j : Nat, at' = (j : Int) := ⟨at'.toNat, by omega⟩
    have hcl : (Str.ofString "0123456789 /-\nmachineopg").length = 24 := by decide +kernel
    refine ⟨_, rfl, _, rfl, _, rfl, _, rfl, by rw [hcl]; decide, d, _, rfl, d2, by rw [hcl]; decide, fun si ws u2 u3 => ?_⟩
    rw [hcl] at u3
    have K3 : Kp d H2 (upd H2 d (.lst (ws.map V.int))) := Kp.own
    have d3 : Drw (upd H2 d (.lst (ws.map V.int))) d := Drw.own
    generalize upd H2 d (.lst (ws.map V.int)) = H3 at K3 d3 ⊢
    have K03 := K02.trans K3
    obtain ⟨si, rfl⟩ : ∃ m : Nat, si = (m : Int) := ⟨si.toNat, by omega⟩
    obtain ⟨c, hc⟩ : ∃ c, (Str.ofString "0123456789 /-\nmachineopg").cps.toList[si]? = some c := ⟨_, List.getElem?_eq_getElem (by
      have : (Str.ofString "0123456789 /-\nmachineopg").cps.toList.length = 24 := by decide +kernel
      omega)⟩
    refine ⟨_, _, c, rfl, rfl, by rw [hcl]; decide, atI_nat hc, ?_⟩
    have c1 : (⟨#[c]⟩ : Str).length = 1 := rfl
    show gName 5 (V.str ⟨#[c]⟩) _ _ _
    generalize (⟨#[c]⟩ : Str) = sg at c1 ⊢
    refine ⟨_, rfl, ⟨_, rfl⟩, t, sN, rfl, rfl, by decide +kernel, Nat.le_trans (Nat.add_le_add_right hl 2) (by decide), fun p5 np5 => ?_⟩
    rw [show Txt.split t sN = lnsOf t from rfl]
    have hj := jl_lns t
    have hne := lns_ne t
    generalize lnsOf t = ls at hj hne ⊢
    generalize hX : upd H3 p5 _ = H4; obtain ⟨sH4, ep5⟩ := nw np5 hX; clear hX
    have n5d : p5 ≠ d := fun z => by
      obtain ⟨ds, ed⟩ := d3
      rw [z, ed] at np5
      cases np5
    have d4 := d3.same sH4
    have hlm : (ls.map V.str).length = ls.length := List.length_map _
    have hpos : 0 < ls.length := List.length_pos_iff.mpr hne
    refine ⟨_, rfl, _, rfl, p5, _, rfl, .inl (.of ep5), d, _, rfl, d4, by rw [hlm]; omega, fun k vs' v0 v1 => ?_⟩
    have K5 : Kp d H4 (upd H4 d (.lst (vs'.map V.int))) := Kp.own
    have d5 : Drw (upd H4 d (.lst (vs'.map V.int))) d := Drw.own
    have e5 := K5 _ _ n5d ep5
    generalize upd H4 d (.lst (vs'.map V.int)) = H5 at K5 d5 e5 ⊢
    have K05 : Kp d H H5 := K03.trans ((Same.kp sH4).trans K5)
    obtain ⟨k, rfl⟩ : ∃ m : Nat, k = (m : Int) := ⟨k.toNat, by omega⟩
    clear K1 K2 K3 K5 K02 K03
    have cl : ∀ lo hi, (cutS t lo hi).length ≤ t.length := fun lo hi => cutS_length _ _ _
    refine ⟨_, rfl, rfl, _, rfl, ite2 (fun _ => ?_) (fun _ => ?_)⟩
    · have a1 := cl none (some (j : Int))
      have a2 := cl (some ((j : Int) + 1)) none
      refine ⟨_, rfl, _, rfl, (j : Int), rfl, t, rfl, hz, _, rfl, _, rfl, _, _, rfl, rfl, (j : Int) + 1, rfl, t, rfl, hz, _, _, rfl, rfl, Nat.le_trans (show _ ≤ 1000 by omega) (by decide), q H5 _ K05 d5 ?_⟩
      rw [slen]
      omega
    refine ⟨_, rfl, _, _, rfl, rfl, _, rfl, ite2 (fun _ => ?_) (fun _ => ?_)⟩
    · have a1 := cl none (some (j : Int))
      have a2 := cl (some (j : Int)) none
      refine ⟨_, rfl, _, rfl, (j : Int), rfl, t, rfl, hz, _, rfl, _, _, rfl, rfl, Nat.le_trans (show _ ≤ 1001 by omega) (by decide), _, rfl, _, rfl, (j : Int), rfl, t, rfl, hz, _, _, rfl, rfl, Nat.le_trans (show _ ≤ 1001 by rw [slen]; omega) (by decide), q H5 _ K05 d5 ?_⟩
      rw [slen, slen]
      omega
    refine ⟨_, rfl, _, _, rfl, rfl, _, rfl, ite2 (fun _ => ?_) (fun _ => ?_)⟩
    · have a1 := cl none (some (j : Int))
      have a2 := cl (some ((j : Int) + 1)) none
      refine ⟨_, rfl, _, rfl, (j : Int), rfl, t, rfl, hz, _, rfl, _, _, rfl, rfl, Nat.le_trans (show _ ≤ 1001 by omega) (by decide), _, rfl, _, rfl, _, _, rfl, rfl, (j : Int) + 1, rfl, t, rfl, hz, _, _, rfl, rfl, Nat.le_trans (show _ ≤ 1001 by rw [slen]; omega) (by decide), q H5 _ K05 d5 ?_⟩
      rw [slen, slen]
      omega
    have tvk : ∀ (m : Nat) (H0 : Hp) (R : VK), R (.int ((k + m : Nat) : Int)) H0 → (tOp (rI0 fun i j => V.int (i + j)) (tVar 7) (tC (V.int (m : Int)))) [some (.ref d), some (.str t), some (.int kd), some (.int (j : Int)), some (.str (Str.ofString "0123456789 /-\nmachineopg")), some (.str sg), some (.ref p5), some (.int (k : Int))] H0 R := fun m H0 R h => ⟨_, rfl, _, _, rfl, rfl, h⟩
    have tv0 : ∀ (H0 : Hp) (R : VK), R (.int (k : Int)) H0 → (tVar 7) [some (.ref d), some (.str t), some (.int kd), some (.int (j : Int)), some (.str (Str.ofString "0123456789 /-\nmachineopg")), some (.str sg), some (.ref p5), some (.int (k : Int))] H0 R := fun H0 R h => ⟨_, rfl, h⟩
    have to0 := Lj.to (K := K) (H := H5) (i := 6) (σ := [some (.ref d), some (.str t), some (.int kd), some (.int (j : Int)), some (.str (Str.ofString "0123456789 /-\nmachineopg")), some (.str sg), some (.ref p5), some (.int (k : Int))]) rfl e5 tv0
    have fr0 := Lj.fr (K := K) (H := H5) (i := 6) (σ := [some (.ref d), some (.str t), some (.int kd), some (.int (j : Int)), some (.str (Str.ofString "0123456789 /-\nmachineopg")), some (.str sg), some (.ref p5), some (.int (k : Int))]) rfl e5 tv0
    have frk := fun m => Lj.fr (K := K) (H := H5) (i := 6) (σ := [some (.ref d), some (.str t), some (.int kd), some (.int (j : Int)), some (.str (Str.ofString "0123456789 /-\nmachineopg")), some (.str sg), some (.ref p5), some (.int (k : Int))]) rfl e5 (tvk m)
    have md0 := Lj.mid (K := K) (H := H5) (i := 6) (σ := [some (.ref d), some (.str t), some (.int kd), some (.int (j : Int)), some (.str (Str.ofString "0123456789 /-\nmachineopg")), some (.str sg), some (.ref p5), some (.int (k : Int))]) rfl e5 tv0 (tvk 1)
    have md1 := Lj.mid (K := K) (H := H5) (i := 6) (σ := [some (.ref d), some (.str t), some (.int kd), some (.int (j : Int)), some (.str (Str.ofString "0123456789 /-\nmachineopg")), some (.str sg), some (.ref p5), some (.int (k : Int))]) rfl e5 (tvk 1) (tvk 2)
    have jk0 := jl_cut ls k
    have jk1 := jl_cut ls (k + 1)
    have jk2 := jl_cut ls (k + 2)
    have jm1 := jl_take_mono ls (show k ≤ k + 1 by omega)
    have jm2 := jl_take_mono ls (show k + 1 ≤ k + 2 by omega)
    have fin : ∀ {H' : Hp} {ms : List Str}, Same H5 H' → jl ms ≤ 2 * jl ls → (ms.map (·.length)).sum + ms.length * sN.length ≤ 16777216 ∧ Q (.str (Txt.join sN ms)) H' := fun {H' ms} s1 c => by
      have h1 := jl_join ms
      have h2 := jl_len ms
      have hn1 : sN.length = 1 := by decide +kernel
      refine ⟨?_, q H' _ (K05.trans (Same.kp s1)) (d5.same s1) (by omega)⟩
      have e : jl ms = (ms.map (·.length)).sum + ms.length := rfl
      rw [hn1]
      omega
    refine ⟨_, rfl, rfl, _, rfl, ite2 (fun _ => ?_) (fun _ => ?_)⟩
    · exact ⟨⟨_, rfl⟩, (to0.cat (frk 1) (by omega)) H5 _ (Same.refl _) fun H' p ms s1 e c => ⟨sN, p, ms, rfl, rfl, .inl (.of e), fin s1 (by omega)⟩⟩
    refine ⟨_, rfl, rfl, _, rfl, ite2 (fun _ => ?_) (fun _ => ?_)⟩
    · exact ⟨⟨_, rfl⟩, ((to0.cat md0 (by omega)).cat fr0 (by omega)) H5 _ (Same.refl _) fun H' p ms s1 e c => ⟨sN, p, ms, rfl, rfl, .inl (.of e), fin s1 (by omega)⟩⟩
    refine ⟨_, rfl, rfl, _, rfl, ite2 (fun _ => ?_) (fun _ => ?_)⟩
    · exact ⟨⟨_, rfl⟩, (((to0.cat md1 (by omega)).cat md0 (by omega)).cat (frk 2) (by omega)) H5 _ (Same.refl _) fun H' p ms s1 e c => ⟨sN, p, ms, rfl, rfl, .inl (.of e), fin s1 (by omega)⟩⟩
    exact ⟨_, rfl, q H5 t K05 d5 (by omega)⟩
end
section
open TL
/-- the text writes this machine -/
def GoodT (t : Str) (x y : Nat) (z : Int) (op : List Nat) (rows : List (List (Nat × Nat))) : Prop := pmR t = some (x, y, z, op, rows) ∧ Vm (x : Int) (y : Int) z (iOp op) (rows.map iRow)
theorem good_few {t : Str} {x y : Nat} {z : Int} {op : List Nat} {rows : List (List (Nat × Nat))} (h : GoodT t x y z op rows) : 4 ≤ (Txt.split t sN).length := by
  have h1 := h.1
  unfold pmR at h1
  generalize Txt.split t sN = ls at h1 ⊢
  match ls, h1 with
  | [], h1 => cases h1
  | [_], h1 => cases h1
  | a :: b :: rest, h1 =>
    by_cases c : 2 ≤ rest.length ∧ rest.getLast? = some sE
    · rw [List.length_cons, List.length_cons]; omega
    · dsimp only at h1; rw [if_neg c] at h1; cases h1
theorem good_inv {t a b e : Str} {ys : List Str} {x y : Nat} {z : Int} {op : List Nat} {rows : List (List (Nat × Nat))} (h : GoodT t x y z op rows) (hsp : Txt.split t sN = a :: b :: (ys ++ [e])) : e = sE ∧ szR a = some (x, y, z) ∧ opR b = some op ∧ rwsR ys = some rows := by
  have h1 := h.1
  unfold pmR at h1
  rw [hsp] at h1
  dsimp only at h1
  rw [List.getLast?_concat, List.dropLast_concat] at h1
  split at h1
  case isFalse => cases h1
  rename_i c
  split at h1
  · cases h1
  rename_i e1
  split at h1
  · cases h1
  rename_i e2
  split at h1
  · cases h1
  rename_i e3
  cases h1
  exact ⟨Option.some.inj c.2, e1, e2, e3⟩
theorem good_of {t a b : Str} {ys : List Str} {x y : Nat} {z : Int} {op : List Nat} {rows : List (List (Nat × Nat))} (hsp : Txt.split t sN = a :: b :: (ys ++ [sE])) (hy : 1 ≤ ys.length) (h1 : szR a = some (x, y, z)) (h2 : opR b = some op) (h3 : rwsR ys = some rows) (v : Vm (x : Int) (y : Int) z (iOp op) (rows.map iRow)) : GoodT t x y z op rows := by
  refine ⟨?_, v⟩
  unfold pmR
  rw [hsp]
  dsimp only
  rw [List.getLast?_concat, List.dropLast_concat, if_pos ⟨by rw [List.length_append, List.length_singleton]; omega, rfl⟩, h1]
  dsimp only
  rw [h2]
  dsimp only
  rw [h3]
theorem sz_inv {a : Str} {x y : Nat} {z : Int} (h : szR a = some (x, y, z)) : ∃ q1 q2 q3, wds a = [sM, q1, q2, q3] ∧ natF (tl q1) = some x ∧ natF (tl q2) = some y ∧ whV (tl q3) = .int z := by
  unfold szR at h
  split at h
  · rename_i m q1 q2 q3 e
    split at h
    · rename_i em
      split at h
      · rename_i x' y' z' e1 e2 e3
        cases h
        exact ⟨q1, q2, q3, by rw [e, em], e1, e2, e3⟩
      · cases h
    · cases h
  · cases h
theorem sz_of {a q1 q2 q3 : Str} {x y : Nat} {z : Int} (h : wds a = [sM, q1, q2, q3]) (h1 : natF (tl q1) = some x) (h2 : natF (tl q2) = some y) (h3 : whV (tl q3) = .int z) : szR a = some (x, y, z) := by
  unfold szR
  rw [h]
  dsimp only
  rw [if_pos rfl, h1, h2, h3]
theorem op_inv {b : Str} {op : List Nat} (h : opR b = some op) : ∃ ws, wds b = sO :: ws ∧ natW ws = some op := by
  unfold opR at h
  split at h
  · rename_i c
    cases e : wds b with
    | nil => rw [e] at c; cases c
    | cons w ws =>
      rw [e] at c h
      exact ⟨ws, by rw [Option.some.inj c], h⟩
  · cases h
theorem op_of {b : Str} {ws : List Str} {op : List Nat} (h : wds b = sO :: ws) (h2 : natW ws = some op) : opR b = some op := by
  unfold opR
  rw [h]
  exact (if_pos rfl).trans h2
theorem mapM_get {α β : Type} {f : α → Option β} : ∀ {ws : List α} {ns : List β}, ws.mapM f = some ns → ns.length = ws.length ∧ ∀ (i : Nat) (w : α), ws[i]? = some w → ∃ n, f w = some n ∧ ns[i]? = some n
  | [], ns, h => by
    cases h
    exact ⟨rfl, fun i w e => by (cases e)⟩
  | w :: ws, ns, h => by
    rw [List.mapM_cons] at h
    cases e : f w with
    | none => rw [e] at h; cases h
    | some n =>
      rw [e] at h
      cases e2 : ws.mapM f with
      | none => rw [e2] at h; cases h
      | some ms =>
        rw [e2] at h
        cases h
        obtain ⟨h1, h2⟩ := mapM_get e2
        refine ⟨by rw [List.length_cons, List.length_cons, h1], fun i x hx => ?_⟩
        cases i with
        | zero => cases hx; exact ⟨n, e, rfl⟩
        | succ i => exact h2 i x hx
theorem mapM_mk {α β : Type} {f : α → Option β} {g : α → β} : ∀ {ws : List α}, (∀ w ∈ ws, f w = some (g w)) → ws.mapM f = some (ws.map g)
  | [], _ => rfl
  | w :: ws, h => by
    rw [List.mapM_cons, h w List.mem_cons_self, mapM_mk (fun x hx => h x (List.mem_cons_of_mem _ hx))]
    rfl
/-- numbers as the law reads them -/
theorem natW_lnV {ws : List Str} {op : List Nat} (h : natW ws = some op) : ws.map lnV = iOp op := by
  obtain ⟨h1, h2⟩ := mapM_get h
  refine List.ext_getElem? fun i => ?_
  unfold iOp
  rw [List.getElem?_map, List.getElem?_map]
  cases e : ws[i]? with
  | none =>
    rw [List.getElem?_eq_none (by rw [h1]; exact List.getElem?_eq_none_iff.mp e)]
    rfl
  | some w =>
    obtain ⟨n, e1, e2⟩ := h2 i w e
    rw [e2]
    show some (lnV w) = _
    rw [lnV_some e1]
    rfl
theorem natW_mk {ws : List Str} (h : ∀ w ∈ ws, 0 ≤ lnV w) : ∃ op, natW ws = some op := by
  refine ⟨_, mapM_mk (g := fun w => (natF (tl w)).getD 0) fun w hw => ?_⟩
  cases e : natF (tl w) with
  | none => have := h w hw; rw [lnV_none e] at this; omega
  | some n => rfl
theorem ll_two {w : Str} {H : Hp} {Q : VK} (h : ∀ lv : Int, ((whV (tl w) = .int lv ∧ -3 ≤ lv ∧ lv ≤ 2) ∨ (lv = 9 ∧ ∀ L : Int, whV (tl w) = .int L → ¬ (-3 ≤ L ∧ L ≤ 2))) → ∀ H', Same H H' → Q (.int lv) H') : LlQ w H Q :=
  ⟨fun L h0 h1 e H' s => h L (.inl ⟨e, h0, h1⟩) H' s, fun n H' s => h 9 (.inr ⟨rfl, n⟩) H' s⟩
theorem cut_in2 (a b e : V) (xs : List V) : cutV (a :: b :: (xs ++ [e])) (some 2) (some (((a :: b :: (xs ++ [e])).length : Int) - 1)) = xs := by
  unfold cutV HT.sIx
  have hl : (a :: b :: (xs ++ [e])).length = xs.length + 3 := by simp
  simp only [hl]
  rw [if_neg (show ¬ ((xs.length + 3 : Nat) : Int) - 1 < 0 by omega), if_neg (by decide : ¬ (2 : Int) < 0), show min (((xs.length + 3 : Nat) : Int) - 1).toNat (xs.length + 3) = xs.length + 2 by omega, show min (2 : Int).toNat (xs.length + 3) = 2 by show min 2 _ = 2; omega]
  show (xs ++ [e]).take (xs.length + 2 - 2) = xs
  rw [Nat.add_sub_cancel, List.take_left' rfl]
def rwL (l : Str) : List (Int × Int) := iRow (prV l)
def spRdM : Sp := fun vs H Q _ => ∃ t : Str, vs = [.str t] ∧ t.length ≤ 400 ∧ (∀ x y z op rows, GoodT t x y z op rows → ∀ (H' : Hp) (T oa r : Addr) (as : List Addr), Same H H' → H' T = some (.tup [.int (x : Int), .int (y : Int), .int z, .ref oa, .ref r]) → H' oa = some (.lst ((iOp op).map V.int)) → LPr H' r as (rows.map iRow) → Q (.ref T) H') ∧ ((∀ x y z op rows, ¬ GoodT t x y z op rows) → ∀ H', Same H H' → Q .non H')
theorem cal_rdM (T : Txt K mg) : C8.Cal P w K mg base 3 "_law_read" spRdM [] := by
  have C_law_number : C8.Cal P w K mg base 1 "_law_number" spLn [] := cal_lnm T
  have C_law_lead : C8.Cal P w K mg base 1 "_law_lead" spLl [] := cal_llm T
  have C_law_pairs : C8.Cal P w K mg base 2 "_law_pairs" spPrs [] := cal_prs T
  obtain ⟨f, fd, F, hm, hb⟩ := T.h_law_read
  refine ⟨f, fd, _, [], F.ok sc_law_read (fun vs H Q E h => ?_) (fun cdv A outer s H vs Q E hr h => ?_), hm, F.kp, hb, .nil⟩
  · obtain ⟨t, rfl, _⟩ := h
    rfl
  · obtain ⟨t, rfl, hl, qs, bad⟩ := h
    refine ⟨_, (pss_cons
      (ps_set (i := 1) sc_law_read.nd rfl (Or.inl rfl) (pe_m1 PySem.F.slot_str_split PySem.F.type_str_split mt_split (pv 0) pe_str))
      (pss_cons
      (ps_if (PW.pt (pw_or (pt_cmpR op_lt (pe_callB (call_lenK (K := K) rfl) (by rfl) T.z_len PySem.boot_len (pa_cons (pv 1) pa_nil)) pe_int (nomark _)) (pw_or1 (pt_cmpR op_ne (pe_ix (ix_listK (K := K) rfl) (pv 1) (pe_un un_neg pe_int) (fun _ _ => rfl)) pe_str (nomark _))))) (pss_one
      (ps_ret pe_non)) pss_nil)
      (pss_cons
      (ps_set (i := 2) sc_law_read.nd rfl (Or.inl rfl) (pe_m1 PySem.F.slot_str_split PySem.F.type_str_split mt_split (pe_ix (ix_listK (K := K) rfl) (pv 1) pe_int (fun _ _ => rfl)) pe_str))
      (pss_cons
      (ps_set (i := 3) sc_law_read.nd rfl (Or.inl rfl) (pe_m1 PySem.F.slot_str_split PySem.F.type_str_split mt_split (pe_ix (ix_listK (K := K) rfl) (pv 1) pe_int (fun _ _ => rfl)) pe_str))
      (pss_cons
      (ps_if (PW.pt (pw_or (pt_cmpR op_ne (pe_callB (call_lenK (K := K) rfl) (by rfl) T.z_len PySem.boot_len (pa_cons (pv 2) pa_nil)) pe_int (nomark _)) (pw_or (pt_cmpR op_ne (pe_ix (ix_listK (K := K) rfl) (pv 2) pe_int (fun _ _ => rfl)) pe_str (nomark _)) (pw_or1 (pt_cmpR op_ne (pe_ix (ix_listK (K := K) rfl) (pv 3) pe_int (fun _ _ => rfl)) pe_str (nomark _)))))) (pss_one
      (ps_ret pe_non)) pss_nil)
      (pss_cons
      (ps_set (i := 4) sc_law_read.nd rfl (Or.inl rfl) (C8.pe_c C_law_number hr (by decide) (by rfl) (pa_cons (pe_ix (ix_listK (K := K) rfl) (pv 2) pe_int (fun _ _ => rfl)) pa_nil)))
      (pss_cons
      (ps_set (i := 5) sc_law_read.nd rfl (Or.inl rfl) (C8.pe_c C_law_number hr (by decide) (by rfl) (pa_cons (pe_ix (ix_listK (K := K) rfl) (pv 2) pe_int (fun _ _ => rfl)) pa_nil)))
      (pss_cons
      (ps_set (i := 6) sc_law_read.nd rfl (Or.inl rfl) (C8.pe_c C_law_lead hr (by decide) (by rfl) (pa_cons (pe_ix (ix_listK (K := K) rfl) (pv 2) pe_int (fun _ _ => rfl)) pa_nil)))
      (pss_cons
      (ps_setLc (i := 7) (own := [("word", 12)]) (g := gName 12) (tt := tYes) rfl sc_law_read.nd rfl rfl (sw_true rfl rfl rfl (by decide +kernel)) (pi_list (pe_slice (sl_listK (K := K) rfl) (pv 3) (po_some pe_int) po_none)) (blkOk_by (N := N_law_read) (sc := defScope s_law_read) (by decide +kernel)) (fun _ _ _ _ _ => (pg_name (i := 12) sc_law_read.nd rfl (Or.inl rfl))) (fun _ _ _ _ _ => pts_nil) (fun _ _ _ _ _ => (C8.pe_c C_law_number hr (by decide) (by rfl) (pa_cons (pv 12) pa_nil))))
      (pss_cons
      (ps_if (PW.pt (pw_or (pt_cmpR op_lt (pv 4) pe_int (nomark _)) (pw_or (pt_cmpR op_lt (pv 5) pe_int (nomark _)) (pw_or (pt_cmpR op_eq (pv 6) pe_int (nomark _)) (pw_or1 (pt_cmpR op_ne (pe_callB (call_lenK (K := K) rfl) (by rfl) T.z_len PySem.boot_len (pa_cons (pv 7) pa_nil)) (pe_callB (call_max2 rfl) (by rfl) T.z_max (by decide +kernel) (pa_cons pe_int (pa_cons (pe_un un_neg (pv 6)) pa_nil))) (nomark _))))))) (pss_one
      (ps_ret pe_non)) pss_nil)
      (pss_cons
      (ps_for PassesOwn.never rfl (pi_list (pv 7)) (pg_name (i := 8) sc_law_read.nd rfl (.inl rfl)) (pss_one
      (ps_if (PW.pt (pw_or (pt_cmpR op_lt (pv 8) pe_int (nomark _)) (pw_or1 (pt_cmpR op_ge (pv 8) (pv 5) (nomark _))))) (pss_one
      (ps_ret pe_non)) pss_nil)))
      (pss_cons
      (ps_setLc (i := 9) (own := [("line", 13)]) (g := gName 13) (tt := tYes) rfl sc_law_read.nd rfl rfl (sw_true rfl rfl rfl (by decide +kernel)) (pi_list (pe_slice (sl_listK (K := K) rfl) (pv 1) (po_some pe_int) (po_some (pe_op op_sub (pe_callB (call_lenK (K := K) rfl) (by rfl) T.z_len PySem.boot_len (pa_cons (pv 1) pa_nil)) pe_int)))) (blkOk_by (N := N_law_read) (sc := defScope s_law_read) (by decide +kernel)) (fun _ _ _ _ _ => (pg_name (i := 13) sc_law_read.nd rfl (Or.inl rfl))) (fun _ _ _ _ _ => pts_nil) (fun _ _ _ _ _ => (C8.pe_c C_law_pairs hr (by decide) (by rfl) (pa_cons (pv 13) pa_nil))))
      (pss_cons
      (ps_for PassesOwn.never rfl (pi_list (pv 9)) (pg_name (i := 10) sc_law_read.nd rfl (.inl rfl)) (pss_cons
      (ps_if (pt_cmpR op_ne (pe_callB (call_lenK (K := K) rfl) (by rfl) T.z_len PySem.boot_len (pa_cons (pv 10) pa_nil)) (pv 4) (nomark _)) (pss_one
      (ps_ret pe_non)) pss_nil)
      (pss_one
      (ps_for PassesOwn.never rfl (pi_list (pv 10)) (pg_name (i := 11) sc_law_read.nd rfl (.inl rfl)) (pss_one
      (ps_if (PW.pt (pw_or (pt_cmpR op_ge (pe_ix (ix_tupK (K := K) rfl) (pv 11) pe_int (fun _ _ => rfl)) (pe_callB (call_lenK (K := K) rfl) (by rfl) T.z_len PySem.boot_len (pa_cons (pv 9) pa_nil)) (nomark _)) (pw_or1 (pt_cmpR op_ge (pe_ix (ix_tupK (K := K) rfl) (pv 11) pe_int (fun _ _ => rfl)) (pv 5) (nomark _))))) (pss_one
      (ps_ret pe_non)) pss_nil))))))
      (pss_one
      (ps_ret (pe_tup (pa_cons (pv 4) (pa_cons (pv 5) (pa_cons (pv 6) (pa_cons (pv 7) (pa_cons (pv 9) pa_nil))))))))))))))))))))), ?_⟩
    refine ⟨_, rfl, ⟨_, rfl⟩, t, sN, rfl, rfl, by decide +kernel, Nat.le_trans (Nat.add_le_add_right hl 2) (by decide), fun p1 np1 => ?_⟩
    have hjl := jl_lns t
    have few := fun x y z op rows (h : GoodT t x y z op rows) => good_few h
    have inv := fun (a b e : Str) (ys : List Str) x y z op rows (h : GoodT t x y z op rows) => good_inv (a := a) (b := b) (e := e) (ys := ys) h
    have gof := fun (a b : Str) (ys : List Str) (x y : Nat) (z : Int) op rows => good_of (t := t) (a := a) (b := b) (ys := ys) (x := x) (y := y) (z := z) (op := op) (rows := rows)
    unfold lnsOf at hjl
    generalize Txt.split t sN = ls at few inv gof hjl ⊢
    generalize hX : upd H p1 _ = H1; obtain ⟨sH1, ep1⟩ := nw np1 hX; clear hX
    have hlm : (ls.map V.str).length = ls.length := List.length_map _
    refine ⟨_, rfl, p1, _, rfl, .inl (.of ep1), _, _, rfl, rfl, _, rfl, ?_⟩
    rw [hlm]
    by_cases c4 : ls.length < 4
    · exact ite_t (decide_eq_true (by omega)) (bad (fun x y z op rows h => by have := few _ _ _ _ _ h; omega) H1 sH1)
    refine ite_f (decide_eq_false (by omega)) ?_
    obtain ⟨a, b, rest, rfl⟩ : ∃ a b rest, ls = a :: b :: rest := by
      match ls, c4 with
      | a :: b :: rest, _ => exact ⟨a, b, rest, rfl⟩
      | [], c => exact absurd (Nat.zero_lt_succ 3) c
      | [x], c => exact absurd (show 1 < 4 by decide) c
    have hr2 : 2 ≤ rest.length := by rw [List.length_cons, List.length_cons] at c4; omega
    obtain ⟨ys, z, rfl⟩ : ∃ ys z, rest = ys ++ [z] := by
      rcases List.eq_nil_or_concat rest with h | ⟨ys, z, h⟩
      · rw [h] at hr2; exact absurd hr2 (by decide)
      · exact ⟨ys, z, by rw [h, List.concat_eq_append]⟩
    have inv := fun x y z op rows h => inv _ _ _ _ x y z op rows h rfl
    have ela : atI ((a :: b :: (ys ++ [z])).map V.str) (-1) = some (.str z) := by
      rw [show (a :: b :: (ys ++ [z])).map V.str = (V.str a :: V.str b :: ys.map V.str) ++ [V.str z] by simp]
      exact atI_last _ _
    refine ⟨_, rfl, _, rfl, p1, _, _, .str z, rfl, rfl, .of ep1, ela, rfl, _, rfl, ite_sn (fun k => ?_) (fun k => ?_)⟩
    · exact bad (fun x y z op rows h => k (inv _ _ _ _ _ h).1) H1 sH1
    obtain rfl : z = sE := k
    have hmem : ∀ l ∈ a :: b :: (ys ++ [sE]), l.length ≤ 400 := fun l hl => by have := mem_jl hl; rw [List.length_cons] at this; omega
    have hyl : ys.length ≤ 400 := by
      have := jl_len (a :: b :: (ys ++ [sE]))
      rw [List.length_cons, List.length_cons, List.length_append] at this
      omega
    have hal := hmem a (by simp)
    have hbl := hmem b (by simp)
    refine ⟨_, rfl, p1, _, _, .str a, rfl, rfl, .of ep1, at0, ⟨_, rfl⟩, a, sB, rfl, rfl, by decide +kernel, Nat.le_trans (Nat.add_le_add_right hal 2) (by decide), fun p2 np2 => ?_⟩
    rw [show Txt.split a sB = wds a from rfl]
    generalize hX : upd H1 p2 _ = H2; obtain ⟨sH2, ep2⟩ := nw np2 hX; clear hX
    have e12 := sH2 _ _ ep1
    refine ⟨_, rfl, p1, _, _, .str b, rfl, rfl, .of e12, atI_nat (j := 1) rfl, ⟨_, rfl⟩, b, sB, rfl, rfl, by decide +kernel, Nat.le_trans (Nat.add_le_add_right hbl 2) (by decide), fun p3 np3 => ?_⟩
    rw [show Txt.split b sB = wds b from rfl]
    generalize hX : upd H2 p3 _ = H3; obtain ⟨sH3, ep3⟩ := nw np3 hX; clear hX
    have s03 := (sH1.trans sH2).trans sH3
    have e13 := sH3 _ _ e12
    have e23 := sH3 _ _ ep2
    have szi := fun x y z (h : szR a = some (x, y, z)) => sz_inv h
    have szo := fun (q1 q2 q3 : Str) (x y : Nat) (z : Int) => sz_of (a := a) (q1 := q1) (q2 := q2) (q3 := q3) (x := x) (y := y) (z := z)
    have opi := fun op (h : opR b = some op) => op_inv h
    have opo := fun (ws : List Str) (op : List Nat) => op_of (b := b) (ws := ws) (op := op)
    have hla := wds_le a
    have hlb := wds_le b
    have hnb := wds_ne b
    generalize wds a = wa at szi szo ep2 e23 hla ⊢
    generalize wds b = wb at opi opo ep3 hlb hnb ⊢
    have lw : (wa.map V.str).length = wa.length := List.length_map _
    refine ⟨_, rfl, p2, _, rfl, .inl (.of e23), rfl, _, rfl, ?_⟩
    rw [lw]
    by_cases c : wa.length = 4
    case neg =>
      refine ite_t (by rw [decide_eq_false (fun z => c (by have := V.int.inj z; omega))]; rfl) (bad (fun x y z op rows h => ?_) H3 s03)
      obtain ⟨_, _, _, e, _⟩ := szi _ _ _ (inv _ _ _ _ _ h).2.1
      rw [e] at c
      exact c rfl
    refine ite_f (by rw [decide_eq_true (congrArg V.int (by rw [c]; rfl))]; rfl) ?_
    obtain ⟨m, q1, q2, q3, rfl⟩ : ∃ m q1 q2 q3, wa = [m, q1, q2, q3] := by
      match wa, c with
      | [m, a, b, d], _ => exact ⟨m, a, b, d, rfl⟩
    obtain ⟨w0, ws, rfl⟩ : ∃ w0 ws, wb = w0 :: ws := by
      cases e : wb with
      | nil => exact absurd e hnb
      | cons a b => exact ⟨a, b, rfl⟩
    have hq1 := hla.1 q1 (by simp)
    have hq2 := hla.1 q2 (by simp)
    have hq3 := hla.1 q3 (by simp)
    refine ⟨_, rfl, p2, _, _, .str m, rfl, rfl, .of e23, at0, rfl, _, rfl, ite_sn (fun k => ?_) (fun k => ?_)⟩
    · refine bad (fun x y z op rows h => ?_) H3 s03
      obtain ⟨_, _, _, e, _⟩ := szi _ _ _ (inv _ _ _ _ _ h).2.1
      exact k (List.cons.inj e).1
    obtain rfl : m = sM := k
    refine ⟨_, rfl, p3, _, _, .str w0, rfl, rfl, .of ep3, at0, rfl, _, rfl, ite_sn (fun k => ?_) (fun k => ?_)⟩
    · refine bad (fun x y z op rows h => ?_) H3 s03
      obtain ⟨_, e, _⟩ := opi _ (inv _ _ _ _ _ h).2.2.1
      exact k (List.cons.inj e).1
    obtain rfl : w0 = sO := k
    have szi : ∀ x y z, szR a = some (x, y, z) → natF (tl q1) = some x ∧ natF (tl q2) = some y ∧ whV (tl q3) = .int z := fun x y z h => by
      obtain ⟨q1', q2', q3', e, e1, e2, e3⟩ := szi x y z h
      cases e
      exact ⟨e1, e2, e3⟩
    have opi : ∀ op, opR b = some op → natW ws = some op := fun op h => by
      obtain ⟨ws', e, e1⟩ := opi op h
      cases e
      exact e1
    refine ⟨_, rfl, p2, _, _, .str q1, rfl, rfl, .of e23, atI_nat (j := 1) rfl, q1, rfl, by omega, ?_⟩
    show gName 4 (V.int (lnV q1)) _ _ _
    refine ⟨_, rfl, p2, _, _, .str q2, rfl, rfl, .of e23, atI_nat (j := 2) rfl, q2, rfl, by omega, ?_⟩
    show gName 5 (V.int (lnV q2)) _ _ _
    refine ⟨_, rfl, p2, _, _, .str q3, rfl, rfl, .of e23, atI_nat (j := 3) rfl, ?_⟩
    refine ⟨q3, rfl, by omega, ?_⟩
    refine ll_two fun lv hlv H4 s4 => ?_
    have s04 := s03.trans s4
    have e34 := s4 _ _ ep3
    have e14 := s4 _ _ e13
    refine ⟨_, rfl, (1 : Int), rfl, p3, _, rfl, .of e34, fun p5 np5 => ?_⟩
    rw [show cutV ((sO :: ws).map V.str) (some 1) none = ws.map V.str from cut_drop _ 1]
    generalize hX : upd H4 p5 _ = H5; obtain ⟨sH5, ep5⟩ := nw np5 hX; clear hX
    refine ⟨p5, rfl, ⟨_, .of ep5⟩, fun D hD => lc_list (K := K) (a := p5) (xs := ws.map V.str) (fun i H' => Same H5 H' ∧ H' D = some (.lst (((ws.take i).map lnV).map V.int))) ⟨same_new hD, upd_same⟩ (fun i H' _ z => .of (z.1 _ _ ep5)) ?_ ?_⟩
    · rintro i y H' hi ⟨s', eD⟩
      obtain ⟨q, hq, rfl⟩ := mapg hi
      have hil := lt_of_get hq
      have hql := hlb.1 q (List.mem_cons_of_mem _ (List.mem_of_getElem? hq))
      have hwl := hlb.2
      rw [List.length_cons] at hwl
      refine ⟨rfl, _, rfl, q, rfl, by omega, _, eD, ?_, fun b o hb => by rw [upd_ne (ne_of_none hb hD)]; exact s' _ _ hb, ?_⟩
      · rw [List.length_map, List.length_map, List.length_take]
        exact Nat.lt_of_le_of_lt (show min i _ ≤ 1000 by omega) (by decide)
      · rw [upd_same, take_get hq, List.map_append, List.map_append]
        rfl
    rintro H6 ⟨s6, eD⟩
    rw [List.length_map, List.take_length] at eD
    have s06 := (s04.trans sH5).trans s6
    have e16 := s6 _ _ (sH5 _ _ e14)
    clear e12 e13 e23 e34 e14 ep1 ep2 ep3 ep5 s03 s04 s4 s6 sH1 sH2 sH3 sH5 hD np1 np2 np3 np5
    have hlo : ((ws.map lnV).map V.int).length = ws.length := by rw [List.length_map, List.length_map]
    refine ⟨_, rfl, _, _, rfl, rfl, _, rfl, ite2 (fun k => ?_) (fun k => ?_)⟩
    · have k := of_decide_eq_true k
      refine bad (fun x y z op rows h => ?_) H6 s06
      have e := (szi _ _ _ (inv _ _ _ _ _ h).2.1).1
      rw [lnV_some e] at k
      have := h.2.i1
      omega
    have k1 : 1 ≤ lnV q1 := Int.not_lt.mp fun z => k (decide_eq_true z)
    refine ⟨_, rfl, _, _, rfl, rfl, _, rfl, ite2 (fun k => ?_) (fun k => ?_)⟩
    · have k := of_decide_eq_true k
      refine bad (fun x y z op rows h => ?_) H6 s06
      have e := (szi _ _ _ (inv _ _ _ _ _ h).2.1).2.1
      rw [lnV_some e] at k
      have := h.2.o1
      omega
    have k2 : 1 ≤ lnV q2 := Int.not_lt.mp fun z => k (decide_eq_true z)
    refine ⟨_, rfl, rfl, _, rfl, ite_eq (fun k => ?_) (fun k => ?_)⟩
    · refine bad (fun x y z op rows h => ?_) H6 s06
      have e := (szi _ _ _ (inv _ _ _ _ _ h).2.1).2.2
      have := h.2.l0
      have := h.2.l1
      rcases hlv with ⟨_, _, _⟩ | ⟨_, n⟩
      · omega
      · exact n _ e ⟨by omega, by omega⟩
    have hlv : whV (tl q3) = .int lv ∧ -3 ≤ lv ∧ lv ≤ 2 := hlv.resolve_right fun z => k z.1
    have emx : (if -lv > 0 then -lv else 0) = max 0 (-lv) := by split <;> omega
    refine ⟨_, rfl, D, _, rfl, .inl (.of eD), _, rfl, _, rfl, _, _, rfl, rfl, _, rfl, ?_⟩
    rw [emx, hlo]
    refine ite_ne (fun k => ?_) (fun k5 => ?_)
    · refine bad (fun x y z op rows h => ?_) H6 s06
      obtain ⟨_, _, e⟩ := szi _ _ _ (inv _ _ _ _ _ h).2.1
      have e2 := natW_lnV (opi _ (inv _ _ _ _ _ h).2.2.1)
      have := h.2.op_len
      rw [← e2, List.length_map] at this
      rw [hlv.1] at e
      cases e
      exact k this
    -- the letters of the opening
    refine ⟨_, rfl, D, rfl, ⟨_, .of eD⟩, for_list (K := K) (a := D) (xs := (ws.map lnV).map V.int) (fun i σ H' => ∃ v8 : Option V, σ = [some (.str t), some (.ref p1), some (.ref p2), some (.ref p3), some (.int (lnV q1)), some (.int (lnV q2)), some (.int lv), some (.ref D), v8, none, none, none, none, none] ∧ H' = H6 ∧ ∀ n ∈ (ws.map lnV).take i, 0 ≤ n ∧ n < lnV q2) ⟨none, rfl, rfl, by simp⟩ (fun i σ H' _ ⟨_, _, z, _⟩ => by rw [z]; exact .of eD) ?_ ?_⟩
    · rintro i y σ H' hi ⟨v8, rfl, rfl, hin⟩
      obtain ⟨n, hn, rfl⟩ := ints_get hi
      have hmem := List.mem_of_getElem? hn
      have badn : ¬ (0 ≤ n ∧ n < lnV q2) → Q .non H' := fun k => bad (fun x y z op rows h => k (by
        have e2 := natW_lnV (opi _ (inv _ _ _ _ _ h).2.2.1)
        rw [e2] at hmem
        have := h.2.op_in n hmem
        have e := (szi _ _ _ (inv _ _ _ _ _ h).2.1).2.1
        rw [lnV_some e]
        exact this)) H' s06
      refine ⟨_, rfl, _, _, rfl, rfl, _, rfl, ite2 (fun k => badn fun z => ?_) (fun k6 => ?_)⟩
      · have := of_decide_eq_true k; omega
      refine ⟨_, rfl, _, rfl, _, _, rfl, rfl, _, rfl, ite2 (fun k => badn fun z => ?_) (fun k7 => ?_)⟩
      · have := of_decide_eq_true k; omega
      have k6 : 0 ≤ n := Int.not_lt.mp fun z => k6 (decide_eq_true z)
      have k7 : n < lnV q2 := Int.not_le.mp fun z => k7 (decide_eq_true z)
      refine ⟨_, rfl, rfl, fun m hm => ?_⟩
      rw [take_get hn] at hm
      rcases List.mem_append.mp hm with y | y
      · exact hin m y
      · rw [List.mem_singleton.mp y]; exact ⟨k6, k7⟩
    rintro σ H' ⟨v8, rfl, rfl, hin⟩
    rw [hlo, List.take_of_length_le (by rw [List.length_map]; exact Nat.le_refl _)] at hin
    obtain ⟨op, hop⟩ := natW_mk (ws := ws) fun w hw => (hin _ (List.mem_map.mpr ⟨w, hw, rfl⟩)).1
    have eop := natW_lnV hop
    have hopn := hin
    refine ⟨_, rfl, (2 : Int), rfl, _, rfl, p1, _, rfl, .inl (.of e16), _, _, rfl, rfl, (_ : Int), rfl, p1, _, rfl, .of e16, fun p4 np4 => ?_⟩
    have ecut : cutV ((a :: b :: (ys ++ [sE])).map V.str) (some 2) (some ((((a :: b :: (ys ++ [sE])).map V.str).length : Int) - 1)) = ys.map V.str := by
      rw [show (a :: b :: (ys ++ [sE])).map V.str = V.str a :: V.str b :: (ys.map V.str ++ [V.str sE]) by simp]
      exact cut_in2 _ _ _ _
    rw [ecut]
    generalize hX : upd H' p4 _ = H7; obtain ⟨sH7, ep4⟩ := nw np4 hX; clear hX
    have hly : (ys.map V.str).length = ys.length := List.length_map _
    refine ⟨p4, rfl, ⟨_, .of ep4⟩, fun R hR => lc_list (K := K) (a := p4) (xs := ys.map V.str) (fun i H8 => ∃ as : List Addr, Same H7 H8 ∧ H8 R = some (.lst (as.map V.ref)) ∧ RP .lst H8 as ((ys.take i).map rwL) ∧ (∀ b ∈ as, b ≠ R) ∧ as.length = i) ⟨[], same_new hR, upd_same, My.RP.nil, by simp, rfl⟩ (fun i H' _ ⟨_, z, _⟩ => .of (z _ _ ep4)) ?_ ?_⟩
    · rintro i v H8 hi ⟨as, s8, e8, R8, n8, al⟩
      obtain ⟨l, hl', rfl⟩ := mapg hi
      have hil := lt_of_get hl'
      have hll := hmem l (by simp [List.mem_of_getElem? hl'])
      refine ⟨rfl, _, rfl, l, rfl, by omega, fun H9 pr bs s9 npr e9 rw9 => ?_⟩
      have e89 := s9 _ _ e8
      have npR : pr ≠ R := fun z => by
        rw [z, e8] at npr
        cases npr
      refine ⟨_, e89, by rw [List.length_map]; exact Nat.lt_of_le_of_lt (show as.length ≤ 1000 by omega) (by decide), as ++ [pr], fun b u hb => ?_, by rw [upd_same, List.map_append]; rfl, ?_, fun b hb => ?_, by rw [List.length_append, al]; rfl⟩
      · rw [upd_ne (ne_of_none hb hR)]
        exact s9 _ _ (s8 _ _ hb)
      · rw [take_get hl', List.map_append]
        have tu := tup_upd (o := .lst (as.map V.ref ++ [.ref pr])) e89
        refine My.RP.snoc (My.RP.keep (R8.same s9) (fun b hb o h => by rw [upd_ne (n8 b hb)]; exact h) tu) (bs := bs) (by rw [upd_ne npR]; exact e9) (by rw [rw9.1]; unfold rwL iRow; rw [List.length_map]) fun m b hb => ?_
        obtain ⟨t', l', g1, g2⟩ := rw9.2 m b hb
        exact ⟨t', l', g1, tu _ _ g2⟩
      · rcases List.mem_append.mp hb with y | y
        · exact n8 b y
        · rw [List.mem_singleton.mp y]; exact npR
    rintro H8 ⟨as, s8, e8, R8, n8, al⟩
    rw [hly, List.take_length] at R8
    rw [hly] at al
    have s08 := s06.trans (sH7.trans s8)
    have hRl : (ys.map rwL).length = ys.length := List.length_map _
    have hal' : (as.map V.ref).length = ys.length := by rw [List.length_map, al]
    have eD8 := s8 _ _ (sH7 _ _ eD)
    refine ⟨_, rfl, R, rfl, ⟨_, .of e8⟩, for_list (K := K) (a := R) (xs := as.map V.ref) (fun i σ H' => ∃ v10 v11 : Option V, σ = [some (.str t), some (.ref p1), some (.ref p2), some (.ref p3), some (.int (lnV q1)), some (.int (lnV q2)), some (.int lv), some (.ref D), v8, some (.ref R), v10, v11, none, none] ∧ H' = H8 ∧ ∀ r ∈ (ys.map rwL).take i, (r.length : Int) = lnV q1 ∧ ∀ p ∈ r, p.1 < (ys.length : Int) ∧ p.2 < lnV q2) ⟨none, none, rfl, rfl, by simp⟩ (fun i σ H' _ ⟨_, _, _, z, _⟩ => by rw [z]; exact .of e8) ?_ ?_⟩
    · rintro i y σ H' hi ⟨v10, v11, rfl, rfl, hin⟩
      obtain ⟨ra, hra, rfl⟩ := refs_get hi
      obtain ⟨bs, row, hrow, hae, hbl, hR8⟩ := R8.g i ra hra
      have hbl2 : (bs.map V.ref).length = row.length := by rw [List.length_map, hbl]
      have badr : ¬ ((row.length : Int) = lnV q1 ∧ ∀ p ∈ row, p.1 < (ys.length : Int) ∧ p.2 < lnV q2) → Q .non H' := fun k => bad (fun x y z op rows h => k (by
        obtain ⟨_, g1, g2, g3⟩ := inv _ _ _ _ _ h
        obtain ⟨e1, e2, e3⟩ := szi _ _ _ g1
        obtain ⟨m1, m2⟩ := mapM_get g3
        rw [List.getElem?_map] at hrow
        obtain ⟨l, hl1, hl2⟩ : ∃ l, ys[i]? = some l ∧ rwL l = row := by
          cases e : ys[i]? with
          | none => rw [e] at hrow; cases hrow
          | some l => rw [e] at hrow; exact ⟨l, rfl, Option.some.inj hrow⟩
        obtain ⟨n, hn1, hn2⟩ := m2 i l hl1
        have en : rwL l = iRow n := by unfold rwL prV; rw [hn1]; rfl
        have hmr : iRow n ∈ rows.map iRow := List.mem_map.mpr ⟨n, List.mem_of_getElem? hn2, rfl⟩
        rw [← hl2, en, lnV_some e1, lnV_some e2]
        refine ⟨h.2.w _ hmr, fun p hp => ⟨?_, (h.2.em _ hmr p hp).2⟩⟩
        have := (h.2.st _ hmr p hp).2
        rw [List.length_map, m1] at this
        exact this)) H' s08
      refine ⟨_, rfl, ra, _, rfl, .inl (.of hae), _, rfl, rfl, _, rfl, ?_⟩
      rw [hbl2]
      refine ite_ne (fun k => badr fun z => k z.1) (fun k6 => ?_)
      refine ⟨_, rfl, ra, rfl, ⟨_, .of hae⟩, for_list (K := K) (a := ra) (xs := bs.map V.ref) (fun j σ H2 => ∃ v11 : Option V, σ = [some (.str t), some (.ref p1), some (.ref p2), some (.ref p3), some (.int (lnV q1)), some (.int (lnV q2)), some (.int lv), some (.ref D), v8, some (.ref R), some (.ref ra), v11, none, none] ∧ H2 = H' ∧ ∀ p ∈ row.take j, p.1 < (ys.length : Int) ∧ p.2 < lnV q2) ⟨_, rfl, rfl, by simp⟩ (fun i σ H' _ ⟨_, _, z, _⟩ => by rw [z]; exact .of hae) ?_ ?_⟩
      · rintro j y σ H2 hj ⟨v11, rfl, rfl, hin2⟩
        obtain ⟨b', hb', rfl⟩ := refs_get hj
        obtain ⟨p, u, hp, hbe⟩ := hR8 j b' hb'
        have hpm := List.mem_of_getElem? hp
        refine ⟨_, rfl, b', _, _, _, rfl, rfl, .of hbe, at0, _, rfl, R, _, rfl, .inl (.of e8), _, _, rfl, rfl, _, rfl, ite2 (fun k => badr fun z => ?_) (fun k7 => ?_)⟩
        · have := (z.2 _ hpm).1
          rw [hal'] at k
          have := of_decide_eq_true k
          omega
        rw [hal'] at k7
        refine ⟨_, rfl, b', _, _, _, rfl, rfl, .of hbe, atI_nat (j := 1) rfl, _, rfl, _, _, rfl, rfl, _, rfl, ite2 (fun k => badr fun z => ?_) (fun k8 => ?_)⟩
        · have := (z.2 _ hpm).2
          have := of_decide_eq_true k
          omega
        have k7 : p < (ys.length : Int) := Int.not_le.mp fun z => k7 (decide_eq_true z)
        have k8 : u < lnV q2 := Int.not_le.mp fun z => k8 (decide_eq_true z)
        refine ⟨_, rfl, rfl, fun m hm => ?_⟩
        rw [take_get hp] at hm
        rcases List.mem_append.mp hm with y | y
        · exact hin2 m y
        · rw [List.mem_singleton.mp y]; exact ⟨k7, k8⟩
      rintro σ H2 ⟨v11, rfl, rfl, hin2⟩
      rw [hbl2, List.take_length] at hin2
      refine ⟨_, _, rfl, rfl, fun r hr => ?_⟩
      rw [take_get hrow] at hr
      rcases List.mem_append.mp hr with y | y
      · exact hin r y
      · rw [List.mem_singleton.mp y]; exact ⟨k6, hin2⟩
    rintro σ H' ⟨v10, v11, rfl, rfl, hin⟩
    rw [hal', List.take_of_length_le (by rw [hRl]; exact Nat.le_refl _)] at hin
    refine ⟨_, rfl, _, rfl, _, rfl, _, rfl, _, rfl, by show 5 ≤ sizeLine; decide, fun TP nTP => ?_⟩
    have sT := same_new (o := .tup [.int (lnV q1), .int (lnV q2), .int lv, .ref D, .ref R]) nTP
    -- what the numbers are
    obtain ⟨x, hx⟩ : ∃ x, natF (tl q1) = some x := by
      cases e : natF (tl q1) with
      | none => rw [lnV_none e] at k1; omega
      | some x => exact ⟨x, rfl⟩
    obtain ⟨y, hy⟩ : ∃ y, natF (tl q2) = some y := by
      cases e : natF (tl q2) with
      | none => rw [lnV_none e] at k2; omega
      | some x => exact ⟨x, rfl⟩
    rw [lnV_some hx] at k1 hin sT ⊢
    rw [lnV_some hy] at k2 hin sT hopn ⊢
    have hrows : rwsR ys = some (ys.map prV) := mapM_mk fun l hl' => by
      have h := (hin _ (List.mem_map.mpr ⟨l, hl', rfl⟩)).1
      cases e : rwR l with
      | none =>
        have : rwL l = [] := by unfold rwL prV; rw [e]; rfl
        rw [this] at h
        have h : ((0 : Nat) : Int) = (x : Int) := h
        omega
      | some r => unfold prV; rw [e]; rfl
    have erw : (ys.map prV).map iRow = ys.map rwL := by rw [List.map_map]; rfl
    have hy1 : 1 ≤ ys.length := by rw [List.length_append, List.length_singleton] at hr2; omega
    have nn : ∀ r ∈ ys.map rwL, ∀ p ∈ r, 0 ≤ p.1 ∧ 0 ≤ p.2 := fun r hr p hp => by
      obtain ⟨l, _, rfl⟩ := List.mem_map.mp hr
      obtain ⟨q, _, rfl⟩ := List.mem_map.mp hp
      exact ⟨Int.natCast_nonneg _, Int.natCast_nonneg _⟩
    have hV : Vm (x : Int) (y : Int) lv (iOp op) ((ys.map prV).map iRow) := by
      rw [erw]
      refine ⟨k1, k2, hlv.2.1, hlv.2.2, by rw [← eop, List.length_map]; exact k5, fun z => ?_, fun r hr => (hin r hr).1, fun r hr p hp => ⟨(nn r hr p hp).1, by rw [hRl]; exact ((hin r hr).2 p hp).1⟩, fun z hz => hopn z (by rw [eop]; exact hz), fun r hr p hp => ⟨(nn r hr p hp).2, ((hin r hr).2 p hp).2⟩⟩
      have := congrArg List.length z
      rw [hRl] at this
      simp at this
      rw [this] at hy1
      simp at hy1
    refine qs x y lv op (ys.map prV) (gof _ _ _ _ _ _ _ _ rfl hy1 (szo _ _ _ _ _ _ rfl hx hy hlv.1) (opo _ _ rfl hop) hrows hV) _ TP D R as (s08.trans sT) upd_same (sT _ _ (by rw [← eop]; exact eD8)) ?_
    rw [erw]
    exact ⟨sT _ _ e8, R8.same sT⟩
end
theorem cal_isint (T : Txt K mg) : C8.Cal P w K mg base 1 "_law_is_integer" spIsInt [] := by
  obtain ⟨f, fd, F, hm, hb⟩ := T.h_law_is_integer
  refine ⟨f, fd, _, [], F.ok sc_law_is_integer (fun vs H Q E h => ?_) (fun cdv A outer s H vs Q E hr h => ?_), hm, F.kp, hb, .nil⟩
  · obtain ⟨i, rfl, _⟩ := h
    rfl
  · obtain ⟨i, rfl, q⟩ := h
    refine ⟨_, (pss_one
      (ps_ret (pe_and (pe_callB (call_isiK' (K := K) rfl) (by rfl) T.z_isinstance (by decide +kernel) (pa_cons (pv 0) (pa_cons (pe_bltn (v := .ty "int") (by rfl) T.z_int (by decide +kernel) rfl) pa_nil))) (pe_one (pe_not (pe_callB (call_isiK' (K := K) rfl) (by rfl) T.z_isinstance (by decide +kernel) (pa_cons (pv 0) (pa_cons (pe_bltn (v := .ty "bool") (by rfl) T.z_bool (by decide +kernel) rfl) pa_nil)))))))), ?_⟩
    refine ⟨_, rfl, _, _, _, _, true, rfl, .ty "int", .base (.int i), kit_ty (by decide +kernel), true, rfl, iteT ?_⟩
    exact ⟨_, rfl, _, _, _, _, false, rfl, .ty "bool", .base (.int i), kit_ty (by decide +kernel), false, rfl, q⟩
theorem cal_ints (T : Txt K mg) : C8.Cal P w K mg base 2 "_law_integers" spInts [] := by
  have C_law_is_integer : C8.Cal P w K mg base 1 "_law_is_integer" spIsInt [] := cal_isint T
  obtain ⟨f, fd, F, hm, hb⟩ := T.h_law_integers
  refine ⟨f, fd, _, [], F.ok sc_law_integers (fun vs H Q E h => ?_) (fun cdv A outer s H vs Q E hr h => ?_), hm, F.kp, hb, .nil⟩
  · obtain ⟨a, xs, lo, hi, rfl, _⟩ := h
    rfl
  · obtain ⟨a, xs, lo, hi, rfl, ht, hx, q⟩ := h
    refine ⟨_, (pss_cons
      (ps_if (pt_not (pt_val (pe_callB (call_isiK' (K := K) rfl) (by rfl) T.z_isinstance (by decide +kernel) (pa_cons (pv 0) (pa_cons (pe_bltn (v := .ty "tuple") (by rfl) T.z_tuple (by decide +kernel) rfl) pa_nil))))) (pss_one
      (ps_ret pe_bl)) pss_nil)
      (pss_cons
      (ps_for PassesOwn.never rfl (pi_tup (pv 0)) (pg_name (i := 3) sc_law_integers.nd rfl (.inl rfl)) (pss_one
      (ps_if (PW.pt (pw_or (pt_not (pt_val (C8.pe_c C_law_is_integer hr (by decide) (by rfl) (pa_cons (pv 3) pa_nil)))) (pw_or (pt_cmpR op_lt (pv 3) (pv 1) (nomark _)) (pw_or1 (pt_cmpR op_ge (pv 3) (pv 2) (nomark _)))))) (pss_one
      (ps_ret pe_bl)) pss_nil)))
      (pss_one
      (ps_ret pe_bl)))), ?_⟩
    refine ⟨_, rfl, _, _, _, _, true, rfl, .ty "tuple", .base (.tup ht), kit_ty (by decide +kernel), true, rfl, ?_⟩
    refine ⟨_, rfl, a, rfl, ⟨_, .of ht⟩, for_tup (K := K) (a := a) (xs := xs.map V.int) (fun i σ H' => ∃ v : Option V, σ = [some (.ref a), some (.int lo), some (.int hi), v] ∧ H' = H) ⟨none, rfl, rfl⟩ (fun i σ H' _ ⟨_, _, e⟩ => by rw [e]; exact .of ht) ?_ ?_⟩
    · rintro i y σ H' hi ⟨v, rfl, rfl⟩
      obtain ⟨z, hz, rfl⟩ : ∃ z, xs[i]? = some z ∧ y = V.int z := by
        rw [List.getElem?_map] at hi
        cases e : xs[i]? with
        | none => rw [e] at hi; cases hi
        | some z => rw [e] at hi; exact ⟨z, rfl, (Option.some.inj hi).symm⟩
      obtain ⟨c1, c2⟩ := hx z (List.mem_of_getElem? hz)
      refine ⟨_, rfl, z, rfl, true, rfl, ?_⟩
      refine ⟨_, rfl, _, rfl, _, _, rfl, rfl, _, rfl, ite_lt (fun c => absurd c1 (by omega)) (fun _ => ?_)⟩
      refine ⟨_, rfl, _, rfl, _, _, rfl, rfl, _, rfl, ?_⟩
      refine ite2 (fun c => absurd (of_decide_eq_true c) (by omega)) (fun _ => ?_)
      exact ⟨_, rfl, rfl⟩
    · rintro σ H' ⟨v, rfl, rfl⟩
      exact q
def spIsM (C : Addr) : Sp := fun vs H Q _ => ∃ (x : Addr) (I O L : Int) (op : List Int) (c : List (List (Int × Int))), vs = [.ref x, .int I, .int O, .int L] ∧ MchAt C H x I O L op c ∧ Vm I O L op c ∧ op.length ≤ 1000 ∧ c.length ≤ 1000 ∧ ∀ H', Same H H' → Q (.bl true) H'
theorem cal_ism {C : Addr} (T : Txt K mg) (PC : MchC K C) : C8.Cal P w K mg base 3 "_law_is_machine" (spIsM C) [] := by
  have C_law_is_integer : C8.Cal P w K mg base 1 "_law_is_integer" spIsInt [] := cal_isint T
  have C_law_integers : C8.Cal P w K mg base 2 "_law_integers" spInts [] := cal_ints T
  obtain ⟨f, fd, F, hm, hb⟩ := T.h_law_is_machine
  refine ⟨f, fd, _, [], F.ok sc_law_is_machine (fun vs H Q E h => ?_) (fun cdv A outer s H vs Q E hr h => ?_), hm, F.kp, hb, .nil⟩
  · obtain ⟨x, I, O, L, op, c, rfl, _⟩ := h
    rfl
  · obtain ⟨x, I, O, L, op, c, rfl, hA, hV, b1, b2, q⟩ := h
    refine ⟨_, (pss_cons
      (ps_for PassesOwn.never rfl (pi_tup (pe_tup (pa_cons (pe_fld (pv 0) rfl) (pa_cons (pe_fld (pv 0) rfl) (pa_cons (pe_fld (pv 0) rfl) pa_nil))))) (pg_name (i := 4) sc_law_is_machine.nd rfl (.inl rfl)) (pss_one
      (ps_if (pt_not (pt_val (C8.pe_c C_law_is_integer hr (by decide) (by rfl) (pa_cons (pv 4) pa_nil)))) (pss_one
      (ps_ret pe_bl)) pss_nil)))
      (pss_cons
      (ps_if (PW.pt (pw_or (pt_cmpR op_ne (pe_fld (pv 0) rfl) (pv 1) (nomark _)) (pw_or (pt_cmpR op_ne (pe_fld (pv 0) rfl) (pv 2) (nomark _)) (pw_or1 (pt_cmpR op_ne (pe_fld (pv 0) rfl) (pv 3) (nomark _)))))) (pss_one
      (ps_ret pe_bl)) pss_nil)
      (pss_cons
      (ps_if (PW.pt (pw_or (pt_not (pt_val (C8.pe_c C_law_integers hr (by decide) (by rfl) (pa_cons (pe_fld (pv 0) rfl) (pa_cons pe_int (pa_cons (pv 2) pa_nil)))))) (pw_or1 (pt_cmpR op_ne (pe_callB (call_lenK (K := K) rfl) (by rfl) T.z_len PySem.boot_len (pa_cons (pe_fld (pv 0) rfl) pa_nil)) (pe_callB (call_max2 rfl) (by rfl) T.z_max (by decide +kernel) (pa_cons pe_int (pa_cons (pe_un un_neg (pv 3)) pa_nil))) (nomark _))))) (pss_one
      (ps_ret pe_bl)) pss_nil)
      (pss_cons
      (ps_if (PW.pt (pw_or (pt_not (pt_val (pe_callB (call_isiK' (K := K) rfl) (by rfl) T.z_isinstance (by decide +kernel) (pa_cons (pe_fld (pv 0) rfl) (pa_cons (pe_bltn (v := .ty "tuple") (by rfl) T.z_tuple (by decide +kernel) rfl) pa_nil))))) (pw_or1 (pt_cmpR op_eq (pe_callB (call_lenK (K := K) rfl) (by rfl) T.z_len PySem.boot_len (pa_cons (pe_fld (pv 0) rfl) pa_nil)) pe_int (nomark _))))) (pss_one
      (ps_ret pe_bl)) pss_nil)
      (pss_cons
      (ps_for PassesOwn.never rfl (pi_tup (pe_fld (pv 0) rfl)) (pg_name (i := 5) sc_law_is_machine.nd rfl (.inl rfl)) (pss_cons
      (ps_if (PW.pt (pw_or (pt_not (pt_val (pe_callB (call_isiK' (K := K) rfl) (by rfl) T.z_isinstance (by decide +kernel) (pa_cons (pv 5) (pa_cons (pe_bltn (v := .ty "tuple") (by rfl) T.z_tuple (by decide +kernel) rfl) pa_nil))))) (pw_or1 (pt_cmpR op_ne (pe_callB (call_lenK (K := K) rfl) (by rfl) T.z_len PySem.boot_len (pa_cons (pv 5) pa_nil)) (pv 1) (nomark _))))) (pss_one
      (ps_ret pe_bl)) pss_nil)
      (pss_one
      (ps_for PassesOwn.never rfl (pi_tup (pv 5)) (pg_name (i := 6) sc_law_is_machine.nd rfl (.inl rfl)) (pss_cons
      (ps_if (PW.pt (pw_or (pt_not (pt_val (C8.pe_c C_law_integers hr (by decide) (by rfl) (pa_cons (pv 6) (pa_cons pe_int (pa_cons (pe_callB (call_max2 rfl) (by rfl) T.z_max (by decide +kernel) (pa_cons (pv 2) (pa_cons (pe_callB (call_lenK (K := K) rfl) (by rfl) T.z_len PySem.boot_len (pa_cons (pe_fld (pv 0) rfl) pa_nil)) pa_nil))) pa_nil)))))) (pw_or1 (pt_cmpR op_ne (pe_callB (call_lenK (K := K) rfl) (by rfl) T.z_len PySem.boot_len (pa_cons (pv 6) pa_nil)) pe_int (nomark _))))) (pss_one
      (ps_ret pe_bl)) pss_nil)
      (pss_one
      (ps_if (PW.pt (pw_or (pt_cmpR op_ge (pe_ix (ix_tupK (K := K) rfl) (pv 6) pe_int (fun _ _ => rfl)) (pe_callB (call_lenK (K := K) rfl) (by rfl) T.z_len PySem.boot_len (pa_cons (pe_fld (pv 0) rfl) pa_nil)) (nomark _)) (pw_or1 (pt_cmpR op_ge (pe_ix (ix_tupK (K := K) rfl) (pv 6) pe_int (fun _ _ => rfl)) (pv 2) (nomark _))))) (pss_one
      (ps_ret pe_bl)) pss_nil)))))))
      (pss_one
      (ps_ret pe_bl))))))), ?_⟩
    obtain ⟨dx, ot, rt, as, e1, e2, e3, e4⟩ := id hA
    have hl2 : (as.map V.ref).length = c.length := by rw [List.length_map, e4.len]
    have hcn : 0 < c.length := List.length_pos_iff.mpr hV.ne
    refine ⟨_, rfl, x, C, dx, _, _, rfl, e1, PC.cl, PC.nI, mf_I _ _ _ _ _, _, rfl, x, C, dx, _, _, rfl, e1, PC.cl, PC.nO, mf_O _ _ _ _ _, _, rfl, x, C, dx, _, _, rfl, e1, PC.cl, PC.nL, mf_L _ _ _ _ _, by show 3 ≤ sizeLine; decide, fun p hp => ?_⟩
    have s1 := same_new (o := .tup [.int I, .int O, .int L]) hp
    have ep := upd_same (H := H) (a := p) (o := .tup [.int I, .int O, .int L])
    generalize upd H p (.tup [.int I, .int O, .int L]) = H1 at s1 ep ⊢
    refine ⟨p, rfl, ⟨_, .of ep⟩, for_tup (K := K) (a := p) (xs := [.int I, .int O, .int L]) (fun i σ H2 => ∃ v : Option V, σ = [some (.ref x), some (.int I), some (.int O), some (.int L), v, none, none] ∧ H2 = H1) ⟨_, rfl, rfl⟩ (fun i σ H2 _ ⟨_, _, e⟩ => by rw [e]; exact .of ep) ?_ ?_⟩
    · rintro i y σ H2 hi ⟨v, rfl, rfl⟩
      obtain ⟨z, rfl⟩ : ∃ z : Int, y = .int z := by
        rcases i with _ | _ | _ | i
        · exact ⟨I, (Option.some.inj hi).symm⟩
        · exact ⟨O, (Option.some.inj hi).symm⟩
        · exact ⟨L, (Option.some.inj hi).symm⟩
        · cases hi
      exact ⟨_, rfl, z, rfl, true, rfl, ⟨_, rfl, rfl⟩⟩
    · rintro σ H2 ⟨v, rfl, rfl⟩
      have f1 := s1 _ _ e1
      have f2 := s1 _ _ e2
      have f3 := s1 _ _ e3
      have f4 := e4.same s1
      refine ⟨_, rfl, x, C, dx, _, _, rfl, f1, PC.cl, PC.nI, mf_I _ _ _ _ _, _, rfl, rfl, _, rfl, ite_ne (fun k => absurd rfl k) (fun _ => ?_)⟩
      refine ⟨_, rfl, x, C, dx, _, _, rfl, f1, PC.cl, PC.nO, mf_O _ _ _ _ _, _, rfl, rfl, _, rfl, ite_ne (fun k => absurd rfl k) (fun _ => ?_)⟩
      refine ⟨_, rfl, x, C, dx, _, _, rfl, f1, PC.cl, PC.nL, mf_L _ _ _ _ _, _, rfl, rfl, _, rfl, ite_ne (fun k => absurd rfl k) (fun _ => ?_)⟩
      refine ⟨_, rfl, x, C, dx, _, _, rfl, f1, PC.cl, PC.no, mf_o _ _ _ _ _, _, rfl, ot, op, 0, O, rfl, f2, hV.op_in, true, rfl, ?_⟩
      have emx : (if -L > 0 then -L else 0) = max 0 (-L) := by split <;> omega
      refine ⟨_, rfl, x, C, dx, _, _, rfl, f1, PC.cl, PC.no, mf_o _ _ _ _ _, ot, _, rfl, .inr (.of f2), _, rfl, _, rfl, _, _, rfl, rfl, _, rfl, ite_ne (fun k => absurd (by rw [List.length_map, emx]; exact hV.op_len) k) (fun _ => ?_)⟩
      refine ⟨_, rfl, x, C, dx, _, _, rfl, f1, PC.cl, PC.nr, mf_r _ _ _ _ _, _, _, _, _, true, rfl, .ty "tuple", .base (.tup f3), kit_ty (by decide +kernel), true, rfl, ?_⟩
      refine ⟨_, rfl, x, C, dx, _, _, rfl, f1, PC.cl, PC.nr, mf_r _ _ _ _ _, rt, _, rfl, .inr (.of f3), rfl, _, rfl, ite_eq (fun k => absurd k (by rw [hl2]; omega)) (fun _ => ?_)⟩
      refine ⟨_, rfl, x, C, dx, _, _, rfl, f1, PC.cl, PC.nr, mf_r _ _ _ _ _, rt, rfl, ⟨_, .of f3⟩, for_tup (K := K) (a := rt) (xs := as.map V.ref) (fun i σ H3 => ∃ v4 v5 v6 : Option V, σ = [some (.ref x), some (.int I), some (.int O), some (.int L), v4, v5, v6] ∧ H3 = H2) ⟨_, _, _, rfl, rfl⟩ (fun i σ H3 _ ⟨_, _, _, _, e⟩ => by rw [e]; exact .of f3) ?_ ?_⟩
      · rintro i y σ H3 hi ⟨v4, v5, v6, rfl, rfl⟩
        obtain ⟨a, haa, rfl⟩ := refs_get hi
        obtain ⟨bs, row, hrow, hra, hbl, hR⟩ := f4.g i a haa
        have hmem := List.mem_of_getElem? hrow
        have hbl2 : (bs.map V.ref).length = row.length := by rw [List.length_map, hbl]
        refine ⟨_, rfl, _, _, _, _, true, rfl, .ty "tuple", .base (.tup hra), kit_ty (by decide +kernel), true, rfl, ?_⟩
        refine ⟨_, rfl, a, _, rfl, .inr (.of hra), _, rfl, rfl, _, rfl, ite_ne (fun k => absurd (by rw [hbl2]; exact hV.w row hmem) k) (fun _ => ?_)⟩
        refine ⟨_, rfl, a, rfl, ⟨_, .of hra⟩, for_tup (K := K) (a := a) (xs := bs.map V.ref) (fun i σ H4 => ∃ v6 : Option V, σ = [some (.ref x), some (.int I), some (.int O), some (.int L), v4, some (.ref a), v6] ∧ H4 = H3) ⟨_, rfl, rfl⟩ (fun i σ H4 _ ⟨_, _, e⟩ => by rw [e]; exact .of hra) ?_ ?_⟩
        · rintro j y σ H4 hj ⟨v6, rfl, rfl⟩
          obtain ⟨b, hb, rfl⟩ := refs_get hj
          obtain ⟨t, l, hp, hbe⟩ := hR j b hb
          have hm2 := List.mem_of_getElem? hp
          have hst := hV.st row hmem _ hm2
          have hem := hV.em row hmem _ hm2
          have ec : (if (c.length : Int) > O then (c.length : Int) else O) ≥ O ∧ (if (c.length : Int) > O then (c.length : Int) else O) ≥ (c.length : Int) := by split <;> omega
          refine ⟨_, rfl, _, rfl, _, rfl, x, C, dx, _, _, rfl, f1, PC.cl, PC.nr, mf_r _ _ _ _ _, rt, _, rfl, .inr (.of f3), _, _, rfl, b, [t, l], 0, _, rfl, hbe, ?_, true, rfl, ?_⟩
          · rw [hl2]
            intro z hz
            simp only [List.mem_cons, List.not_mem_nil, or_false] at hz
            rcases hz with rfl | rfl
            · exact ⟨hst.1, by omega⟩
            · exact ⟨hem.1, by omega⟩
          refine ⟨_, rfl, b, _, rfl, .inr (.of hbe), rfl, _, rfl, ite_ne (fun k => absurd rfl k) (fun _ => ?_)⟩
          refine ⟨_, rfl, b, _, _, .int t, rfl, rfl, .of hbe, rfl, _, rfl, x, C, dx, _, _, rfl, f1, PC.cl, PC.nr, mf_r _ _ _ _ _, rt, _, rfl, .inr (.of f3), _, _, rfl, rfl, _, rfl, ite2 (fun k => ?_) (fun _ => ?_)⟩
          · have k := of_decide_eq_true k
            rw [hl2] at k
            omega
          refine ⟨_, rfl, b, _, _, .int l, rfl, rfl, .of hbe, rfl, _, rfl, _, _, rfl, rfl, _, rfl, ite2 (fun k => ?_) (fun _ => ⟨_, rfl, rfl⟩)⟩
          have k := of_decide_eq_true k
          omega
        · rintro σ H4 ⟨v6, rfl, rfl⟩
          exact ⟨_, _, _, rfl, rfl⟩
      · rintro σ H3 ⟨v4, v5, v6, rfl, rfl⟩
        exact q _ s1
theorem shaped_of {d : PyData} (h1 : d.canLay0 = true) (h2 : d.depth ≤ 64) : SeqAt.shaped d = true := by
  unfold SeqAt.shaped
  rw [h1, decide_eq_true h2]
  rfl
def dPr (p : Int × Int) : PyData := .tuple [.int p.1, .int p.2]
def dRw (r : List (Int × Int)) : PyData := .list (r.map dPr)
def dTb (c : List (List (Int × Int))) : PyData := .list (c.map dRw)
theorem layPr : ∀ r : List (Int × Int), PyData.canLayAll0 (r.map dPr) = true
  | [] => rfl
  | p :: r => by
    rw [List.map_cons, PyData.canLayAll0, layPr r]
    rfl
theorem layRw : ∀ c : List (List (Int × Int)), PyData.canLayAll0 (c.map dRw) = true
  | [] => rfl
  | r :: c => by
    rw [List.map_cons, PyData.canLayAll0, layRw c]
    unfold dRw
    rw [PyData.canLay0, layPr]
    rfl
theorem lay_tb (c : List (List (Int × Int))) : (dTb c).canLay0 = true := by
  unfold dTb
  rw [PyData.canLay0, layRw]
theorem depPr : ∀ r : List (Int × Int), PyData.depthAll (r.map dPr) ≤ 1
  | [] => by simp [PyData.depthAll]
  | p :: r => by
    have := depPr r
    rw [List.map_cons, PyData.depthAll]
    have e : (dPr p).depth = 1 := by simp [dPr, PyData.depth, PyData.depthAll]
    omega
theorem depRw : ∀ c : List (List (Int × Int)), PyData.depthAll (c.map dRw) ≤ 2
  | [] => by simp [PyData.depthAll]
  | r :: c => by
    have := depRw c
    have := depPr r
    rw [List.map_cons, PyData.depthAll]
    have e : (dRw r).depth = PyData.depthAll (r.map dPr) + 1 := by unfold dRw; rw [PyData.depth]
    omega
theorem dep_tb (c : List (List (Int × Int))) : (dTb c).depth ≤ 3 := by
  unfold dTb
  have := depRw c
  rw [PyData.depth]
  omega
theorem shaped_tb (c : List (List (Int × Int))) : SeqAt.shaped (dTb c) = true := shaped_of (lay_tb c) (by have := dep_tb c; omega)
theorem dpAll_pr {K : PySem.W.Frag} {H : Hp} : ∀ {bs : List Addr} {r : List (Int × Int)}, bs.length = r.length → (∀ (j : Nat) (b : Addr), bs[j]? = some b → ∃ t l, r[j]? = some (t, l) ∧ H b = some (.tup [.int t, .int l])) → DpAll K H (bs.map V.ref) (r.map dPr)
  | [], [], _, _ => .nil
  | b :: bs, p :: r, hl, h => by
    obtain ⟨t, l, h1, h2⟩ := h 0 b rfl
    cases h1
    exact .cons (.tup (.of h2) (.cons (.int _) (.cons (.int _) .nil))) (dpAll_pr (Nat.succ.inj hl) fun j b' hj => h (j + 1) b' hj)
  | [], _ :: _, hl, _ => by cases hl
  | _ :: _, [], hl, _ => by cases hl
theorem dpAll_rw {K : PySem.W.Frag} {H : Hp} : ∀ {as : List Addr} {c : List (List (Int × Int))}, RP .lst H as c → DpAll K H (as.map V.ref) (c.map dRw)
  | [], [], _ => .nil
  | a :: as, r :: c, h => by
    obtain ⟨bs, row, h1, h2, h3, h4⟩ := h.g 0 a rfl
    cases h1
    exact .cons (.lst (.of h2) (dpAll_pr h3 h4)) (dpAll_rw ⟨Nat.succ.inj h.len, fun i a' e => h.g (i + 1) a' e⟩)
  | [], _ :: _, h => by have := h.len; cases this
  | _ :: _, [], h => by have := h.len; cases this
theorem dp_tb {K : PySem.W.Frag} {H : Hp} {r : Addr} {as : List Addr} {c : List (List (Int × Int))} (h : LPr H r as c) : Dp K H (.ref r) (dTb c) := .lst (.of h.1) (dpAll_rw h.2)
def dM2 (op : List Int) (c : List (List (Int × Int))) : PyData := .list [.list (op.map PyData.int), dTb c]
theorem lay_m2 (op : List Int) (c : List (List (Int × Int))) : (dM2 op c).canLay0 = true := by
  unfold dM2
  rw [PyData.canLay0, PyData.canLayAll0, PyData.canLayAll0, PyData.canLayAll0, PyData.canLay0, layAll, lay_tb]
  rfl
theorem shaped_m2 (op : List Int) (c : List (List (Int × Int))) : SeqAt.shaped (dM2 op c) = true := by
  refine shaped_of (lay_m2 op c) ?_
  unfold dM2
  have := dep_tb c
  rw [PyData.depth, PyData.depthAll, PyData.depthAll, PyData.depthAll, PyData.depth, depAll]
  omega
theorem dp_m2 {K : PySem.W.Frag} {H : Hp} {t oa r : Addr} {as : List Addr} {op : List Int} {c : List (List (Int × Int))} (ht : H t = some (.lst [.ref oa, .ref r])) (ho : H oa = some (.lst (op.map V.int))) (hr : LPr H r as c) : Dp K H (.ref t) (dM2 op c) := .lst (.of ht) (.cons (dp_lst ho) (.cons (dp_tb hr) .nil))
def KLs (S : List Addr) (H H' : Hp) : Prop := ∀ b o, b ∉ S → H b = some o → H' b = some o
theorem mch_kl {C : Addr} {S : List Addr} {H H' : Hp} {x : Addr} {I O L : Int} {op : List Int} {c : List (List (Int × Int))} (k : KLs S H H') (hs : ∀ b ∈ S, ∃ ys, H b = some (.lst ys)) (h : MchAt C H x I O L op c) : MchAt C H' x I O L op c := by
  obtain ⟨dx, ot, rt, as, e1, e2, e3, e4⟩ := h
  have nl : ∀ {b : Addr} {o : HO}, H b = some o → (∀ ys, o ≠ .lst ys) → b ∉ S := fun hb hn z => by
    obtain ⟨ys, y⟩ := hs _ z
    rw [hb] at y
    exact hn ys (Option.some.inj y)
  exact ⟨dx, ot, rt, as, k _ _ (nl e1 fun ys z => by cases z) e1, k _ _ (nl e2 fun ys z => by cases z) e2, k _ _ (nl e3 fun ys z => by cases z) e3, RP.keepT (fun b xs hb => k _ _ (nl hb fun ys z => by cases z) hb) e4⟩
section
open TL
theorem pm_bd {t : Str} {x y : Nat} {z : Int} {op : List Nat} {rows : List (List (Nat × Nat))} (h : pmR t = some (x, y, z, op, rows)) (hl : t.length ≤ 330) : op.length ≤ 1000 ∧ rows.length ≤ 400 ∧ ∀ r ∈ rows, r.length ≤ 400 := by
  have hj := jl_lns t
  unfold lnsOf at hj
  unfold pmR at h
  generalize Txt.split t sN = ls at h hj
  match ls, h, hj with
  | [], h, _ => cases h
  | [_], h, _ => cases h
  | a :: b :: rest, h, hj =>
    dsimp only at h
    split at h
    case isFalse => cases h
    split at h
    · cases h
    split at h
    · cases h
    rename_i e2
    split at h
    · cases h
    rename_i e3
    cases h
    have hb := mem_jl (m := b) (ms := a :: b :: rest) (by simp)
    have hml : ∀ l ∈ rest.dropLast, l.length + (a :: b :: rest).length ≤ jl (a :: b :: rest) := fun l hl => mem_jl (by have := List.mem_of_mem_take (List.dropLast_eq_take ▸ hl); simp [this])
    refine ⟨?_, ?_, fun r hr => ?_⟩
    · obtain ⟨ws, e, e1⟩ := op_inv e2
      have h1 := (mapM_get e1).1
      have h2 := (wds_le b).2
      rw [e, List.length_cons] at h2
      omega
    · have h1 := (mapM_get e3).1
      have := jl_len (a :: b :: rest)
      rw [List.length_dropLast] at h1
      simp only [List.length_cons] at this
      omega
    · obtain ⟨h1, h2⟩ := mapM_get e3
      obtain ⟨i, hi⟩ := List.mem_iff_getElem?.mp hr
      obtain ⟨l, hl'⟩ : ∃ l, rest.dropLast[i]? = some l := ⟨_, List.getElem?_eq_getElem (by rw [← h1]; exact lt_of_get hi)⟩
      obtain ⟨n, hn, hn2⟩ := h2 i l hl'
      rw [hi] at hn2
      cases hn2
      have h3 := (mapM_get hn).1
      have h4 := (wds_le l).2
      have h5 := hml l (List.mem_of_getElem? hl')
      omega
theorem ok_law {f : Addr} {fd : FuncData} (F : L2.Fun K "law" "law" s_law f fd) (T : Txt K mg) : FnOk P w K mg base CX0 8 f fd ["script"] (spLaw K) := by
  obtain ⟨C, gC, PC, hIC, hEq, C_law_outcome⟩ := cal_outM (P := P) (w := w) (base := base) T
  have C_law_draws : C8.Cal P w K mg base 1 "_law_draws" (spDraws K) [] := cal_draws T
  have C_law_take : C8.Cal P w K mg base 1 "_law_take" spTake [] := cal_take T
  have C_law_machine : C8.Cal P w K mg base 2 "_law_machine" spMach [] := cal_mach T
  have C_law_machine_text : C8.Cal P w K mg base 1 "_law_machine_text" spLt [] := cal_ltxM T
  have C_law_change : C8.Cal P w K mg base 2 "_law_change" spChM [] := cal_chM T
  have C_law_read : C8.Cal P w K mg base 3 "_law_read" spRdM [] := cal_rdM T
  have C_law_is_machine : C8.Cal P w K mg base 3 "_law_is_machine" (spIsM C) [] := cal_ism T PC
  refine F.ok sc_law (fun vs H Q E h => ?_) (fun cdv A outer s H vs Q E hr h => ?_)
  · obtain ⟨a, ns, rfl, _⟩ := h
    rfl
  · obtain ⟨sa, ns, rfl, hS, hlen, q⟩ := h
    refine ⟨_, (pss_cons
      (ps_set (i := 1) sc_law.nd rfl (Or.inl rfl) (C8.pe_c C_law_draws hr (by decide) (by rfl) (pa_cons (pv 0) (pa_cons pe_int pa_nil))))
      (pss_cons
      (ps_set (i := 2) sc_law.nd rfl (Or.inl rfl) (pe_op op_add pe_int (C8.pe_c C_law_take hr (by decide) (by rfl) (pa_cons (pv 1) (pa_cons pe_int pa_nil)))))
      (pss_cons
      (ps_set (i := 3) sc_law.nd rfl (Or.inl rfl) (pe_op op_add pe_int (C8.pe_c C_law_take hr (by decide) (by rfl) (pa_cons (pv 1) (pa_cons pe_int pa_nil)))))
      (pss_cons
      (ps_set (i := 4) sc_law.nd rfl (Or.inl rfl) (pe_op op_sub (C8.pe_c C_law_take hr (by decide) (by rfl) (pa_cons (pv 1) (pa_cons pe_int pa_nil))) pe_int))
      (pss_cons
      (ps_asg (C8.pe_c C_law_machine hr (by decide) (by rfl) (pa_cons (pv 1) (pa_cons (pv 2) (pa_cons (pv 3) (pa_cons (pv 4) (pa_cons pe_int pa_nil)))))) (pg_tup (by rfl) (pgs_cons (pg_name (i := 5) sc_law.nd rfl (.inl rfl)) (pgs_cons (pg_name (i := 6) sc_law.nd rfl (.inl rfl)) pgs_nil))))
      (pss_cons
      (ps_set (i := 7) sc_law.nd rfl (Or.inl rfl) (C8.pe_c C_law_machine_text hr (by decide) (by rfl) (pa_cons (pv 2) (pa_cons (pv 3) (pa_cons (pv 4) (pa_cons (pv 5) (pa_cons (pv 6) pa_nil)))))))
      (pss_cons
      (ps_for PassesOwn.never rfl (pi_range1 (by rfl) T.z_range (pa_cons (pe_op op_add pe_int (C8.pe_c C_law_take hr (by decide) (by rfl) (pa_cons (pv 1) (pa_cons pe_int pa_nil)))) pa_nil)) (pg_name (i := 8) sc_law.nd rfl (.inl rfl)) (pss_one
      (ps_set (i := 7) sc_law.nd rfl (Or.inl rfl) (C8.pe_c C_law_change hr (by decide) (by rfl) (pa_cons (pv 1) (pa_cons (pv 7) pa_nil))))))
      (pss_cons
      (ps_set (i := 9) sc_law.nd rfl (Or.inl rfl) (C8.pe_c C_law_read hr (by decide) (by rfl) (pa_cons (pv 7) pa_nil)))
      (pss_cons
      (ps_set (i := 10) sc_law.nd rfl (Or.inl rfl) (C8.pe_c C_law_outcome hr (by decide) (by rfl) (pa_cons (pv 7) pa_nil)))
      (pss_cons
      (ps_if (pt_cmpR op_isN (pv 9) pe_non (nomark _)) (pss_one
      (ps_ret (pe_cmpR op_isN (pv 10) pe_non (nomark _)))) pss_nil)
      (pss_cons
      (ps_if (PW.pt (pw_or (pt_cmpR op_isN (pv 10) pe_non (nomark _)) (pw_or (pt_cmpR (Ieq.op_insInt (K := K) rfl hr.units0) (pv 10) pe_int (nomark _)) (pw_or1 (pt_not (pt_val (C8.pe_c C_law_is_machine hr (by decide) (by rfl) (pa_cons (pv 10) (pa_cons (pe_ix (ix_tupK (K := K) rfl) (pv 9) pe_int (fun _ _ => rfl)) (pa_cons (pe_ix (ix_tupK (K := K) rfl) (pv 9) pe_int (fun _ _ => rfl)) (pa_cons (pe_ix (ix_tupK (K := K) rfl) (pv 9) pe_int (fun _ _ => rfl)) pa_nil))))))))))) (pss_one
      (ps_ret pe_bl)) pss_nil)
      (pss_one
      (ps_ret (pe_and (pe_cmpR (op_eqDK (K := K) rfl hr.units) (pe_callTy (call_list_ofK (K := K) rfl) (by rfl) T.z_list (by decide +kernel) (pa_cons (pe_fld (pv 10) rfl) pa_nil)) (pe_ix (ix_tupK (K := K) rfl) (pv 9) pe_int (fun _ _ => rfl)) (nomark _)) (pe_one (pe_cmpR (op_eqDK (K := K) rfl hr.units) (pe_lc (own := [("row", 11)]) (g := gName 11) (tt := tYes) rfl sc_law.nd (pi_tup (pe_fld (pv 10) rfl)) (blkOk_by (N := N_law) (sc := defScope s_law) (by decide +kernel)) (fun _ _ _ _ _ => (pg_name (i := 11) sc_law.nd rfl (Or.inl rfl))) (fun _ _ _ _ _ => pts_nil) (fun _ _ _ _ _ => (pe_callTy (call_list_ofK (K := K) rfl) (by rfl) T.z_list (by decide +kernel) (pa_cons (pv 11) pa_nil)))) (pe_ix (ix_tupK (K := K) rfl) (pv 9) pe_int (fun _ _ => rfl)) (nomark _))))))))))))))))), ?_⟩
    refine ⟨_, rfl, sa, ns, 100, rfl, hS, by decide, fun H1 d s1 hd0 d1 => ?_⟩
    refine ⟨_, rfl, d, 2, rfl, d1, by decide, fun iv ds i0 i1 => ?_⟩
    have d2 : Drw (upd H1 d (.lst (ds.map V.int))) d := Drw.own
    generalize upd H1 d (.lst (ds.map V.int)) = H2 at d2 ⊢
    refine ⟨_, _, rfl, rfl, ?_⟩
    show gName 2 (V.int (1 + iv)) _ _ _
    have hI1 : 1 ≤ 1 + iv := by omega
    have hI3 : 1 + iv ≤ 2 := by omega
    generalize 1 + iv = I at hI1 hI3 ⊢
    refine ⟨_, rfl, d, 3, rfl, d2, by decide, fun ov ds3 o0 o1 => ?_⟩
    have d3 : Drw (upd H2 d (.lst (ds3.map V.int))) d := Drw.own
    generalize upd H2 d (.lst (ds3.map V.int)) = H3 at d3 ⊢
    refine ⟨_, _, rfl, rfl, ?_⟩
    show gName 3 (V.int (1 + ov)) _ _ _
    have hO1 : 1 ≤ 1 + ov := by omega
    have hO3 : 1 + ov ≤ 3 := by omega
    generalize 1 + ov = O at hO1 hO3 ⊢
    refine ⟨_, rfl, d, 6, rfl, d3, by decide, fun lv ds4 l0 l1 => ?_⟩
    have d4 : Drw (upd H3 d (.lst (ds4.map V.int))) d := Drw.own
    generalize upd H3 d (.lst (ds4.map V.int)) = H4 at d4 ⊢
    refine ⟨_, _, rfl, rfl, ?_⟩
    show gName 4 (V.int (lv - 3)) _ _ _
    have hL0 : -3 ≤ lv - 3 := by omega
    have hL1 : lv - 3 ≤ 2 := by omega
    generalize lv - 3 = L at hL0 hL1 ⊢
    clear d1 d2 d3 s1 i0 i1 o0 o1 l0 l1
    refine ⟨_, rfl, _, rfl, _, rfl, _, rfl, d, I, O, L, 3, rfl, d4, by omega, by omega, by omega, by omega, by omega, by decide, by decide, fun H5 t oa r as op c k5 d5 et ho hL g1 g2 g3 hV hc4 => ?_⟩
    refine ⟨t, _, rfl, .of et, rfl, _, _, rfl, _, _, rfl, rfl, ?_⟩
    clear k5 et d4 g3
    have hopL := hV.op_len
    refine ⟨_, rfl, _, rfl, _, rfl, _, rfl, _, rfl, oa, r, I, O, L, op, as, c, rfl, ho, hL, ⟨by omega, by omega⟩, ⟨by omega, by omega⟩, ⟨by omega, by omega⟩, by omega, fun z hz => by have := hV.op_in z hz; omega, by omega, fun row hr => ⟨by have := hV.w row hr; omega, fun p hp => by
      have h1 := hV.st row hr p hp
      have h2 := hV.em row hr p hp
      exact ⟨⟨h1.1, by omega⟩, h2.1, by omega⟩⟩, fun H6 t0 s6 ht0 => ?_⟩
    have d6 := d5.same s6
    clear hV hopL ho hL g1 g2 s6 d5
    -- the changes
    refine ⟨_, rfl, d, 2, rfl, d6, by decide, fun nv ds5 n0 n1 => ?_⟩
    have d7 : Drw (upd H6 d (.lst (ds5.map V.int))) d := Drw.own
    generalize upd H6 d (.lst (ds5.map V.int)) = H7 at d7 ⊢
    refine ⟨_, _, rfl, rfl, _, rfl, by omega, by omega, for_range (lo := 0) (n := (1 + nv).toNat) (fun i σ H' => ∃ (t1 : Str) (v8 : Option V), σ = [some (.ref sa), some (.ref d), some (.int I), some (.int O), some (.int L), some (.ref oa), some (.ref r), some (.str t1), v8, none, none, none] ∧ Drw H' d ∧ (i = 0 → t1.length ≤ 80) ∧ (i = 1 → t1.length ≤ 162) ∧ t1.length ≤ 326) ⟨_, _, rfl, d7, fun _ => ht0, fun z => by omega, by omega⟩ ?_ ?_⟩
    · rintro i σ H' hi ⟨t1, v8, rfl, d8, b0, b1, b2⟩
      refine ⟨_, rfl, _, rfl, d, t1, rfl, d8, by omega, fun H9 t2 _ d9 hl => ⟨_, _, rfl, d9, fun z => by omega, fun z => by have := b0 (by omega); omega, ?_⟩⟩
      rcases (show i = 0 ∨ i = 1 by omega) with e | e
      · have := b0 e; omega
      · have := b1 e; omega
    rintro σ H8 ⟨t1, v8, rfl, d8, _, _, b2⟩
    clear d6 d7 d8
    have hbd : ∀ x y z op rows, GoodT t1 x y z op rows → op.length ≤ 1000 ∧ rows.length ≤ 400 ∧ ∀ r ∈ rows, r.length ≤ 400 := fun x y z op rows h => pm_bd h.1 (by omega)
    have hjl := jl_lns t1
    have hll : ∀ l ∈ Txt.split t1 sN, l.length ≤ 5000 := fun l hl => by have := mem_jl (ms := lnsOf t1) hl; omega
    have hnl : (Txt.split t1 sN).length ≤ 5001 := by have : (Txt.split t1 sN).length ≤ jl (lnsOf t1) := jl_len (lnsOf t1); omega
    by_cases hG : ∃ x y z op rows, GoodT t1 x y z op rows
    case neg =>
      have noG : ∀ x y z op rows, ¬ GoodT t1 x y z op rows := fun x y z op rows h => hG ⟨x, y, z, op, rows, h⟩
      refine ⟨_, rfl, t1, rfl, by omega, fun x y z op rows h => absurd h (noG _ _ _ _ _), fun _ H9 s9 => ?_⟩
      have fin : ∀ H', Same H9 H' → Q (.bl (decide (V.non = V.non))) H' := fun H' _ => q H'
      refine ⟨_, rfl, t1, rfl, by omega, hll, hnl, fun x y z op rows h => pm_bd h (by omega), fun _ HA sA => ?_, fun x y z op rows h => ⟨fun _ HA sA => ?_, fun v => absurd ⟨h, v⟩ (noG _ _ _ _ _)⟩⟩
      · exact ⟨_, rfl, rfl, _, rfl, ite_t rfl ⟨_, rfl, rfl, fin HA sA⟩⟩
      · exact ⟨_, rfl, rfl, _, rfl, ite_t rfl ⟨_, rfl, rfl, fin HA sA⟩⟩
    obtain ⟨x, y, z, op', rows, hg⟩ := hG
    obtain ⟨b1, b3, b4⟩ := hbd _ _ _ _ _ hg
    have hgV := hg.2
    have same : ∀ {x' y' z' op'' rows'}, pmR t1 = some (x', y', z', op'', rows') → x = x' ∧ y = y' ∧ z = z' ∧ op' = op'' ∧ rows = rows' := fun h => by
      rw [hg.1] at h
      cases h
      exact ⟨rfl, rfl, rfl, rfl, rfl⟩
    refine ⟨_, rfl, t1, rfl, by omega, fun x' y' z' op'' rows' h H9 TT oa' r' as' s9 eT eO hL' => ?_, fun h => absurd hg (h _ _ _ _ _)⟩
    obtain ⟨rfl, rfl, rfl, rfl, rfl⟩ := same h.1
    refine ⟨_, rfl, t1, rfl, by omega, hll, hnl, fun x y z op rows h => pm_bd h (by omega), fun h => (by rw [hg.1] at h; cases h), fun x'' y'' z'' op''' rows'' h' => ?_⟩
    obtain ⟨rfl, rfl, rfl, rfl, rfl⟩ := same h'
    refine ⟨fun nv => absurd hgV nv, fun _ HA m sA A => ?_⟩
    obtain ⟨dx, ot, rt, ams, e1, e2, e3, e4⟩ := id A
    have eTA := sA _ _ eT
    have eOA := sA _ _ eO
    have hLA := hL'.same sA
    refine ⟨_, rfl, rfl, _, rfl, ite_f (decide_eq_false nofun) ?_⟩
    refine ⟨_, rfl, rfl, _, rfl, ite_f (decide_eq_false nofun) ?_⟩
    refine ⟨_, rfl, m, C, dx, _, 0, rfl, rfl, e1, hIC.hm, hEq, _, rfl, ite_f rfl ?_⟩
    refine ⟨_, rfl, _, rfl, TT, _, _, _, rfl, rfl, .of eTA, at0, _, rfl, TT, _, _, _, rfl, rfl, .of eTA, atI_nat (j := 1) rfl, _, rfl, TT, _, _, _, rfl, rfl, .of eTA, atI_nat (j := 2) rfl, m, _, _, _, _, _, rfl, A, hgV, by unfold iOp; rw [List.length_map]; exact b1, by rw [List.length_map]; omega, fun HD sD => ⟨true, rfl, ?_⟩⟩
    refine ⟨_, rfl, m, C, dx, _, _, rfl, sD _ _ e1, PC.cl, PC.no, mf_o _ _ _ _ _, ot, _, rfl, .inr (.of (sD _ _ e2)), fun p1 n1 => ?_⟩
    have sE := sD.trans (same_new (o := .lst ((iOp op').map V.int)) n1)
    have eE := upd_same (H := HD) (a := p1) (o := .lst ((iOp op').map V.int))
    generalize upd HD p1 (.lst ((iOp op').map V.int)) = HE at sE eE ⊢
    refine ⟨_, rfl, TT, _, _, _, rfl, rfl, .of (sE _ _ eTA), atI_nat (j := 3) rfl, ?_⟩
    refine ⟨_, _, dp_lst eE, dp_lst (sE _ _ eOA), shaped_lst _, shaped_lst _, _, rfl, ite_t (by rw [eqv_lst, decide_eq_true rfl]) ?_⟩
    have hcw : (rows.map iRow).length = rows.length := List.length_map _
    have hlm : (ams.map V.ref).length = (rows.map iRow).length := by rw [List.length_map, e4.len]
    refine ⟨_, rfl, m, C, dx, _, _, rfl, sE _ _ e1, PC.cl, PC.nr, mf_r _ _ _ _ _, rt, rfl, ⟨_, .of (sE _ _ e3)⟩, fun D hD => lc_tup (K := K) (a := rt) (xs := ams.map V.ref) (fun i H' => ∃ as3 : List Addr, Same HE H' ∧ H' D = some (.lst (as3.map V.ref)) ∧ RP .lst H' as3 ((rows.map iRow).take i) ∧ ∀ b ∈ as3, b ≠ D)
      ⟨[], same_new hD, upd_same, My.RP.nil, by simp⟩ (fun i H' _ ⟨_, z, _⟩ => .of (z _ _ (sE _ _ e3))) ?_ ?_⟩
    · rintro i v HF hi ⟨as3, sF, eF, RF, hf⟩
      obtain ⟨ra, hra, rfl⟩ := refs_get hi
      obtain ⟨bs, row, hrow, hae, hbl, hR⟩ := e4.g i ra hra
      have hil := (List.getElem?_eq_some_iff.mp hrow).1
      refine ⟨rfl, _, rfl, ra, _, rfl, .inr (.of (sF _ _ (sE _ _ hae))), fun t ht => ?_⟩
      have sG := same_new (o := .lst (bs.map V.ref)) ht
      have eG := upd_same (H := HF) (a := t) (o := .lst (bs.map V.ref))
      generalize upd HF t (.lst (bs.map V.ref)) = HG at sG eG ⊢
      have nDt : t ≠ D := fun z => by rw [z, eF] at ht; cases ht
      have hal := RF.len
      rw [List.length_take] at hal
      have eDG := sG _ _ eF
      have tu := tup_upd (o := .lst (as3.map V.ref ++ [.ref t])) eDG
      refine ⟨_, eDG, by rw [List.length_map]; exact Nat.lt_of_le_of_lt (show as3.length ≤ 1000 by omega) (by decide), as3 ++ [t], fun b u hb => ?_, by rw [upd_same, List.map_append]; rfl, ?_, fun b hb => ?_⟩
      · rw [upd_ne (ne_of_none hb hD)]
        exact sG _ _ (sF _ _ hb)
      · rw [take_get hrow]
        refine My.RP.snoc (My.RP.keep (RF.same sG) (fun b hb o h => by rw [upd_ne (hf b hb)]; exact h) tu) (bs := bs) (by rw [upd_ne nDt]; exact eG) hbl fun m b hb => ?_
        obtain ⟨t', l', g1, g2⟩ := hR m b hb
        exact ⟨t', l', g1, tu _ _ (sG _ _ (sF _ _ (sE _ _ g2)))⟩
      · rcases List.mem_append.mp hb with y | y
        · exact hf b y
        · rw [List.mem_singleton.mp y]; exact nDt
    rintro HF ⟨as3, sF, eF, RF, hf⟩
    rw [hlm, List.take_length] at RF
    have sZF := sE.trans sF
    refine ⟨_, rfl, TT, _, _, _, rfl, rfl, .of (sZF _ _ eTA), atI_nat (j := 4) rfl, ?_⟩
    refine ⟨dTb (rows.map iRow), dTb (rows.map iRow), dp_tb ⟨eF, RF⟩, dp_tb (hLA.same sZF), shaped_tb _, shaped_tb _, ?_⟩
    rw [SeqAt.eqv_refl _ (lay_tb (rows.map iRow))]
    exact q _
end
end

theorem all_mk {l : PySem.W.OpenLaw} {w : World} {K : PySem.W.Frag} {h : Heap} {mg : Str → Option Value} {fa : Addr} {f0 f1 f2 f3 f4 f5 f6 f7 f8 f9 f10 f11 f12 f13 f14 f15 f16 f17 f18 f19 f20 f21 f22 f23 f24 cI cL C fI fC cMx cSx : Addr} (X : K.In h) (G : h.Ns mainGlobals mg) (hfa : mg "law" = some (.ref fa))
    {od0 an0 od1 an1 od2 an2 od3 an3 od4 an4 od5 an5 od6 an6 od7 an7 od8 an8 od9 an9 od10 an10 od11 an11 od12 an12 od13 an13 od14 an14 od15 an15 od16 an16 od17 an17 od18 an18 od19 an19 od20 an20 od21 an21 od22 an22 od23 an23 od24 an24 : Option Addr} {sl0 sl1 sl2 sl3 sl4 sl5 sl6 sl7 sl8 sl9 sl10 sl11 sl12 sl13 sl14 sl15 sl16 sl17 sl18 sl19 sl20 sl21 sl22 sl23 sl24 : Array (Option Value)} {oc0 kV0 dc0 pm0 cd0 ct0 oc1 kV1 dc1 pm1 cd1 ct1 oc2 kV2 dc2 pm2 cd2 ct2 oc3 kV3 dc3 pm3 cd3 ct3 oc4 kV4 dc4 pm4 cd4 ct4 oc5 kV5 dc5 pm5 cd5 ct5 oc6 kV6 dc6 pm6 cd6 ct6 oc7 kV7 dc7 pm7 cd7 ct7 oc8 kV8 dc8 pm8 cd8 ct8 oc9 kV9 dc9 pm9 cd9 ct9 oc10 kV10 dc10 pm10 cd10 ct10 oc11 kV11 dc11 pm11 cd11 ct11 oc12 kV12 dc12 pm12 cd12 ct12 oc13 kV13 dc13 pm13 cd13 ct13 oc14 kV14 dc14 pm14 cd14 ct14 oc15 kV15 dc15 pm15 cd15 ct15 oc16 kV16 dc16 pm16 cd16 ct16 oc17 kV17 dc17 pm17 cd17 ct17 oc18 kV18 dc18 pm18 cd18 ct18 oc19 kV19 dc19 pm19 cd19 ct19 oc20 kV20 dc20 pm20 cd20 ct20 oc21 kV21 dc21 pm21 cd21 ct21 oc22 kV22 dc22 pm22 cd22 ct22 oc23 kV23 dc23 pm23 cd23 ct23 oc24 kV24 dc24 pm24 cd24 ct24 : Value} {odI anI : Option Addr} {slI : Array (Option Value)} {ocI kVI dcI pmI cdI ctI : Value} {odJ anJ : Option Addr} {slJ : Array (Option Value)} {ocJ kVJ dcJ pmJ cdJ ctJ : Value} {tk1 tk2 tk5 : Tok}
    (a0 : PySem.W.nsIn K mainGlobals "check_rows" = some (some (.ref f0))) (l0 : K.lookup f0 = some ⟨oc0, od0, .func (PySem.W.fnOf "check_rows" "check_rows" (defArgs s_check_rows) (defBody s_check_rows) (defScope s_check_rows) .none kV0 dc0 pm0 an0 cd0 ct0), sl0⟩) (c0 : PySem.W.codeIn K cd0 "check_rows" = true) (k0 : PySem.W.keepIn K (.ref f0) = true)
    (a1 : PySem.W.nsIn K mainGlobals "check_said" = some (some (.ref f1))) (l1 : K.lookup f1 = some ⟨oc1, od1, .func (PySem.W.fnOf "check_said" "check_said" (defArgs s_check_said) (defBody s_check_said) (defScope s_check_said) .none kV1 dc1 pm1 an1 cd1 ct1), sl1⟩) (c1 : PySem.W.codeIn K cd1 "check_said" = true) (k1 : PySem.W.keepIn K (.ref f1) = true)
    (a2 : PySem.W.nsIn K mainGlobals "run" = some (some (.ref f2))) (l2 : K.lookup f2 = some ⟨oc2, od2, .func (PySem.W.fnOf "run" "run" (defArgs s_run) (defBody s_run) (defScope s_run) .none kV2 dc2 pm2 an2 cd2 ct2), sl2⟩) (c2 : PySem.W.codeIn K cd2 "run" = true) (k2 : PySem.W.keepIn K (.ref f2) = true)
    (a3 : PySem.W.nsIn K mainGlobals "natural" = some (some (.ref f3))) (l3 : K.lookup f3 = some ⟨oc3, od3, .func (PySem.W.fnOf "natural" "natural" (defArgs s_natural) (defBody s_natural) (defScope s_natural) .none kV3 dc3 pm3 an3 cd3 ct3), sl3⟩) (c3 : PySem.W.codeIn K cd3 "natural" = true) (k3 : PySem.W.keepIn K (.ref f3) = true)
    (a4 : PySem.W.nsIn K mainGlobals "whole" = some (some (.ref f4))) (l4 : K.lookup f4 = some ⟨oc4, od4, .func (PySem.W.fnOf "whole" "whole" (defArgs s_whole) (defBody s_whole) (defScope s_whole) .none kV4 dc4 pm4 an4 cd4 ct4), sl4⟩) (c4 : PySem.W.codeIn K cd4 "whole" = true) (k4 : PySem.W.keepIn K (.ref f4) = true)
    (a5 : PySem.W.nsIn K mainGlobals "parse_machine" = some (some (.ref f5))) (l5 : K.lookup f5 = some ⟨oc5, od5, .func (PySem.W.fnOf "parse_machine" "parse_machine" (defArgs s_parse_machine) (defBody s_parse_machine) (defScope s_parse_machine) .none kV5 dc5 pm5 an5 cd5 ct5), sl5⟩) (c5 : PySem.W.codeIn K cd5 "parse_machine" = true) (k5 : PySem.W.keepIn K (.ref f5) = true)
    (a6 : PySem.W.nsIn K mainGlobals "read_sizes" = some (some (.ref f6))) (l6 : K.lookup f6 = some ⟨oc6, od6, .func (PySem.W.fnOf "read_sizes" "read_sizes" (defArgs s_read_sizes) (defBody s_read_sizes) (defScope s_read_sizes) .none kV6 dc6 pm6 an6 cd6 ct6), sl6⟩) (c6 : PySem.W.codeIn K cd6 "read_sizes" = true) (k6 : PySem.W.keepIn K (.ref f6) = true)
    (a7 : PySem.W.nsIn K mainGlobals "read_opening" = some (some (.ref f7))) (l7 : K.lookup f7 = some ⟨oc7, od7, .func (PySem.W.fnOf "read_opening" "read_opening" (defArgs s_read_opening) (defBody s_read_opening) (defScope s_read_opening) .none kV7 dc7 pm7 an7 cd7 ct7), sl7⟩) (c7 : PySem.W.codeIn K cd7 "read_opening" = true) (k7 : PySem.W.keepIn K (.ref f7) = true)
    (a8 : PySem.W.nsIn K mainGlobals "read_move" = some (some (.ref f8))) (l8 : K.lookup f8 = some ⟨oc8, od8, .func (PySem.W.fnOf "read_move" "read_move" (defArgs s_read_move) (defBody s_read_move) (defScope s_read_move) .none kV8 dc8 pm8 an8 cd8 ct8), sl8⟩) (c8 : PySem.W.codeIn K cd8 "read_move" = true) (k8 : PySem.W.keepIn K (.ref f8) = true)
    (a9 : PySem.W.nsIn K mainGlobals "read_natural" = some (some (.ref f9))) (l9 : K.lookup f9 = some ⟨oc9, od9, .func (PySem.W.fnOf "read_natural" "read_natural" (defArgs s_read_natural) (defBody s_read_natural) (defScope s_read_natural) .none kV9 dc9 pm9 an9 cd9 ct9), sl9⟩) (c9 : PySem.W.codeIn K cd9 "read_natural" = true) (k9 : PySem.W.keepIn K (.ref f9) = true)
    (a10 : PySem.W.nsIn K mainGlobals "checked" = some (some (.ref f10))) (l10 : K.lookup f10 = some ⟨oc10, od10, .func (PySem.W.fnOf "checked" "checked" (defArgs s_checked) (defBody s_checked) (defScope s_checked) .none kV10 dc10 pm10 an10 cd10 ct10), sl10⟩) (c10 : PySem.W.codeIn K cd10 "checked" = true) (k10 : PySem.W.keepIn K (.ref f10) = true)
    (a11 : PySem.W.nsIn K mainGlobals "_law_draws" = some (some (.ref f11))) (l11 : K.lookup f11 = some ⟨oc11, od11, .func (PySem.W.fnOf "_law_draws" "_law_draws" (defArgs s_law_draws) (defBody s_law_draws) (defScope s_law_draws) .none kV11 dc11 pm11 an11 cd11 ct11), sl11⟩) (c11 : PySem.W.codeIn K cd11 "_law_draws" = true) (k11 : PySem.W.keepIn K (.ref f11) = true)
    (a12 : PySem.W.nsIn K mainGlobals "_law_take" = some (some (.ref f12))) (l12 : K.lookup f12 = some ⟨oc12, od12, .func (PySem.W.fnOf "_law_take" "_law_take" (defArgs s_law_take) (defBody s_law_take) (defScope s_law_take) .none kV12 dc12 pm12 an12 cd12 ct12), sl12⟩) (c12 : PySem.W.codeIn K cd12 "_law_take" = true) (k12 : PySem.W.keepIn K (.ref f12) = true)
    (a13 : PySem.W.nsIn K mainGlobals "_law_is_integer" = some (some (.ref f13))) (l13 : K.lookup f13 = some ⟨oc13, od13, .func (PySem.W.fnOf "_law_is_integer" "_law_is_integer" (defArgs s_law_is_integer) (defBody s_law_is_integer) (defScope s_law_is_integer) .none kV13 dc13 pm13 an13 cd13 ct13), sl13⟩) (c13 : PySem.W.codeIn K cd13 "_law_is_integer" = true) (k13 : PySem.W.keepIn K (.ref f13) = true)
    (a14 : PySem.W.nsIn K mainGlobals "_law_integers" = some (some (.ref f14))) (l14 : K.lookup f14 = some ⟨oc14, od14, .func (PySem.W.fnOf "_law_integers" "_law_integers" (defArgs s_law_integers) (defBody s_law_integers) (defScope s_law_integers) .none kV14 dc14 pm14 an14 cd14 ct14), sl14⟩) (c14 : PySem.W.codeIn K cd14 "_law_integers" = true) (k14 : PySem.W.keepIn K (.ref f14) = true)
    (a15 : PySem.W.nsIn K mainGlobals "_law_machine" = some (some (.ref f15))) (l15 : K.lookup f15 = some ⟨oc15, od15, .func (PySem.W.fnOf "_law_machine" "_law_machine" (defArgs s_law_machine) (defBody s_law_machine) (defScope s_law_machine) .none kV15 dc15 pm15 an15 cd15 ct15), sl15⟩) (c15 : PySem.W.codeIn K cd15 "_law_machine" = true) (k15 : PySem.W.keepIn K (.ref f15) = true)
    (a16 : PySem.W.nsIn K mainGlobals "_law_is_machine" = some (some (.ref f16))) (l16 : K.lookup f16 = some ⟨oc16, od16, .func (PySem.W.fnOf "_law_is_machine" "_law_is_machine" (defArgs s_law_is_machine) (defBody s_law_is_machine) (defScope s_law_is_machine) .none kV16 dc16 pm16 an16 cd16 ct16), sl16⟩) (c16 : PySem.W.codeIn K cd16 "_law_is_machine" = true) (k16 : PySem.W.keepIn K (.ref f16) = true)
    (a17 : PySem.W.nsIn K mainGlobals "_law_machine_text" = some (some (.ref f17))) (l17 : K.lookup f17 = some ⟨oc17, od17, .func (PySem.W.fnOf "_law_machine_text" "_law_machine_text" (defArgs s_law_machine_text) (defBody s_law_machine_text) (defScope s_law_machine_text) .none kV17 dc17 pm17 an17 cd17 ct17), sl17⟩) (c17 : PySem.W.codeIn K cd17 "_law_machine_text" = true) (k17 : PySem.W.keepIn K (.ref f17) = true)
    (a18 : PySem.W.nsIn K mainGlobals "_law_outcome" = some (some (.ref f18))) (l18 : K.lookup f18 = some ⟨oc18, od18, .func (PySem.W.fnOf "_law_outcome" "_law_outcome" (defArgs s_law_outcome) (defBody s_law_outcome) (defScope s_law_outcome) .none kV18 dc18 pm18 an18 cd18 ct18), sl18⟩) (c18 : PySem.W.codeIn K cd18 "_law_outcome" = true) (k18 : PySem.W.keepIn K (.ref f18) = true)
    (a19 : PySem.W.nsIn K mainGlobals "_law_number" = some (some (.ref f19))) (l19 : K.lookup f19 = some ⟨oc19, od19, .func (PySem.W.fnOf "_law_number" "_law_number" (defArgs s_law_number) (defBody s_law_number) (defScope s_law_number) .none kV19 dc19 pm19 an19 cd19 ct19), sl19⟩) (c19 : PySem.W.codeIn K cd19 "_law_number" = true) (k19 : PySem.W.keepIn K (.ref f19) = true)
    (a20 : PySem.W.nsIn K mainGlobals "_law_lead" = some (some (.ref f20))) (l20 : K.lookup f20 = some ⟨oc20, od20, .func (PySem.W.fnOf "_law_lead" "_law_lead" (defArgs s_law_lead) (defBody s_law_lead) (defScope s_law_lead) .none kV20 dc20 pm20 an20 cd20 ct20), sl20⟩) (c20 : PySem.W.codeIn K cd20 "_law_lead" = true) (k20 : PySem.W.keepIn K (.ref f20) = true)
    (a21 : PySem.W.nsIn K mainGlobals "_law_pairs" = some (some (.ref f21))) (l21 : K.lookup f21 = some ⟨oc21, od21, .func (PySem.W.fnOf "_law_pairs" "_law_pairs" (defArgs s_law_pairs) (defBody s_law_pairs) (defScope s_law_pairs) .none kV21 dc21 pm21 an21 cd21 ct21), sl21⟩) (c21 : PySem.W.codeIn K cd21 "_law_pairs" = true) (k21 : PySem.W.keepIn K (.ref f21) = true)
    (a22 : PySem.W.nsIn K mainGlobals "_law_read" = some (some (.ref f22))) (l22 : K.lookup f22 = some ⟨oc22, od22, .func (PySem.W.fnOf "_law_read" "_law_read" (defArgs s_law_read) (defBody s_law_read) (defScope s_law_read) .none kV22 dc22 pm22 an22 cd22 ct22), sl22⟩) (c22 : PySem.W.codeIn K cd22 "_law_read" = true) (k22 : PySem.W.keepIn K (.ref f22) = true)
    (a23 : PySem.W.nsIn K mainGlobals "_law_change" = some (some (.ref f23))) (l23 : K.lookup f23 = some ⟨oc23, od23, .func (PySem.W.fnOf "_law_change" "_law_change" (defArgs s_law_change) (defBody s_law_change) (defScope s_law_change) .none kV23 dc23 pm23 an23 cd23 ct23), sl23⟩) (c23 : PySem.W.codeIn K cd23 "_law_change" = true) (k23 : PySem.W.keepIn K (.ref f23) = true)
    (a24 : PySem.W.nsIn K mainGlobals "law" = some (some (.ref f24))) (l24 : K.lookup f24 = some ⟨oc24, od24, .func (PySem.W.fnOf "law" "law" (defArgs s_law) (defBody s_law) (defScope s_law) .none kV24 dc24 pm24 an24 cd24 ct24), sl24⟩) (c24 : PySem.W.codeIn K cd24 "law" = true) (k24 : PySem.W.keepIn K (.ref f24) = true)
    (z0 : PySem.W.nsIn K mainGlobals "bool" = some none) (z1 : PySem.W.nsIn K mainGlobals "int" = some none) (z2 : PySem.W.nsIn K mainGlobals "isinstance" = some none) (z3 : PySem.W.nsIn K mainGlobals "len" = some none) (z4 : PySem.W.nsIn K mainGlobals "list" = some none) (z5 : PySem.W.nsIn K mainGlobals "max" = some none) (z6 : PySem.W.nsIn K mainGlobals "range" = some none) (z7 : PySem.W.nsIn K mainGlobals "str" = some none) (z8 : PySem.W.nsIn K mainGlobals "tuple" = some none) (xa : PySem.W.nsIn K mainGlobals "InvalidMachine" = some (some (.ref cI))) (xb : PySem.W.excIn K cI [.type "ValueError", .type "Exception", .type "BaseException", .type "object"] "ValueError.__new__" = true) (xc : PySem.W.keepIn K (.ref cI) = true) (xd : PySem.W.typeIn K (.ref cI) = some (.type "type")) (xe : PySem.W.subIn K (.ref cI) (.ref cI) = some true) (xf : PySem.W.findIn K (.ref cI) "__getattribute__" = some (some (.builtin "BaseException.__getattribute__"))) (xg : PySem.W.findIn K (.ref cI) "__getattr__" = some none) (xh : PySem.W.subIn K (.ref cI) (.type "BaseException") = some true) (xi : PySem.W.hasDictIn K cI = true) (xj : PySem.W.findIn K (.ref cI) "__class__" = some (some (.builtin "object.__class__"))) (xk : PySem.W.specialIn K (.builtin "object.__class__") "__get__" = some (some (.builtin "getset_descriptor.__get__"))) (xl : PySem.W.takesIn K (.builtin "object.__class__") = some true) (xm : PySem.W.mroIn K cI (.type "object") = some true) (wa : PySem.W.nsIn K mainGlobals "InvalidLetter" = some (some (.ref cL))) (wb : PySem.W.excIn K cL [.type "ValueError", .type "Exception", .type "BaseException", .type "object"] "ValueError.__new__" = true) (wc : PySem.W.keepIn K (.ref cL) = true) (wd : PySem.W.typeIn K (.ref cL) = some (.type "type")) (we : PySem.W.subIn K (.ref cL) (.ref cL) = some true) (wf : PySem.W.findIn K (.ref cL) "__getattribute__" = some (some (.builtin "BaseException.__getattribute__"))) (wg : PySem.W.findIn K (.ref cL) "__getattr__" = some none) (wh : PySem.W.subIn K (.ref cL) (.type "BaseException") = some true) (wi : PySem.W.hasDictIn K cL = true) (wj : PySem.W.findIn K (.ref cL) "__class__" = some (some (.builtin "object.__class__"))) (wk : PySem.W.specialIn K (.builtin "object.__class__") "__get__" = some (some (.builtin "getset_descriptor.__get__"))) (wl : PySem.W.takesIn K (.builtin "object.__class__") = some true) (wm : PySem.W.mroIn K cL (.type "object") = some true) (ya : PySem.W.nsIn K mainGlobals "Machine" = some (some (.ref C))) (yb : PySem.W.plainGet K C Str.empty = true) (yc : PySem.W.hasDictIn K C = true) (yd : PySem.W.plainOver K C = true) (ye : PySem.W.findIn K (.ref C) "__setattr__" = some (some (.builtin "object.__setattr__"))) (yf : PySem.W.findIn K (.ref C) "inputs" = some none) (yg : PySem.W.findIn K (.ref C) "outputs" = some none) (yh : PySem.W.findIn K (.ref C) "lead" = some none) (yi : PySem.W.findIn K (.ref C) "opening" = some none) (yi2 : PySem.W.findIn K (.ref C) "rows" = some none) (yj : PySem.W.makesIn K C = true) (yk : PySem.W.findIn K (.ref C) "__init__" = some (some (.ref fI))) (yl : PySem.W.isFn K (.ref fI) = true) (ym : PySem.W.keepIn K (.ref C) = true) (yn : K.lookup fI = some ⟨ocI, odI, .func (PySem.W.fnOf "__init__" "Machine.__init__" (defArgs s_Machine_init) (defBody s_Machine_init) (defScope s_Machine_init) .none kVI dcI pmI anI cdI ctI), slI⟩) (yo : PySem.W.codeIn K cdI "Machine.__init__" = true) (yp : PySem.W.keepIn K (.ref fI) = true) (yq : PySem.W.findIn K (.ref C) "__call__" = some (some (.ref fC))) (yr : PySem.W.isFn K (.ref fC) = true) (ys : PySem.W.fnIn K fC = true) (yt : K.lookup fC = some ⟨ocJ, odJ, .func (PySem.W.fnOf "__call__" "Machine.__call__" (defArgs s_Machine_call) (defBody s_Machine_call) (defScope s_Machine_call) .none kVJ dcJ pmJ anJ cdJ ctJ), slJ⟩) (yu : PySem.W.codeIn K cdJ "Machine.__call__" = true) (yv : PySem.W.keepIn K (.ref fC) = true) (ga : PySem.W.nsIn K mainGlobals "LEAST_LEAD" = some (some (.int (-3) tk1))) (gb : PySem.W.nsIn K mainGlobals "GREATEST_LEAD" = some (some (.int 2 tk2))) (qa : PySem.W.findIn K (.ref C) "__class__" = some (some (.builtin "object.__class__"))) (qb : PySem.W.specialIn K (.builtin "object.__class__") "__get__" = some (some (.builtin "getset_descriptor.__get__"))) (qc : PySem.W.takesIn K (.builtin "object.__class__") = some true) (qd : PySem.W.mroIn K C (.type "object") = some true) (ge : PySem.W.nsIn K mainGlobals "DIGITS" = some (some (.str "0123456789" tk5))) (mxa : PySem.W.nsIn K mainGlobals "MachineSyntaxError" = some (some (.ref cMx))) (mxb : PySem.W.excIn K cMx [.type "ValueError", .type "Exception", .type "BaseException", .type "object"] "ValueError.__new__" = true) (mxc : PySem.W.keepIn K (.ref cMx) = true) (mxd : PySem.W.typeIn K (.ref cMx) = some (.type "type")) (mxe : PySem.W.subIn K (.ref cMx) (.ref cMx) = some true) (mxf : PySem.W.findIn K (.ref cMx) "__getattribute__" = some (some (.builtin "BaseException.__getattribute__"))) (mxg : PySem.W.findIn K (.ref cMx) "__getattr__" = some none) (mxh : PySem.W.subIn K (.ref cMx) (.type "BaseException") = some true) (mxi : PySem.W.hasDictIn K cMx = true) (mxj : PySem.W.findIn K (.ref cMx) "__class__" = some (some (.builtin "object.__class__"))) (mxk : PySem.W.specialIn K (.builtin "object.__class__") "__get__" = some (some (.builtin "getset_descriptor.__get__"))) (mxl : PySem.W.takesIn K (.builtin "object.__class__") = some true) (mxm : PySem.W.mroIn K cMx (.type "object") = some true) (sy : PySem.W.nsIn K mainGlobals "SynthError" = some (some (.ref cSx))) (xsz : PySem.W.kitOne K (.ref cMx) (.ref cSx) = some true) (se : PySem.W.findIn K (.ref C) "__eq__" = some (some (.builtin "object.__eq__"))) :
    ∃ fd : FuncData, (∀ (s : Shared) (v : Value), BindsTo s fd ⟨[v], []⟩ [("script", v)]) ∧ ∀ base : Heap, K.In base → base.Ns mainGlobals mg → FnOk l.prog w K mg base CX0 8 fa fd ["script"] (spLaw K) := by
  have e := hfa.symm.trans (PySem.W.mg_of X G a24)
  cases e
  have T : Txt K mg := ⟨⟨f0, _, fun_mk (st := s_check_rows) l0 c0 k0, PySem.W.mg_of X G a0, (fun_mk (st := s_check_rows) l0 c0 k0).binds fun _ _ _ _ _ _ us hl => match us, hl with | [_, _], _ => rfl⟩, ⟨f1, _, fun_mk (st := s_check_said) l1 c1 k1, PySem.W.mg_of X G a1, (fun_mk (st := s_check_said) l1 c1 k1).binds fun _ _ _ _ _ _ us hl => match us, hl with | [_, _], _ => rfl⟩, ⟨f2, _, fun_mk (st := s_run) l2 c2 k2, PySem.W.mg_of X G a2, (fun_mk (st := s_run) l2 c2 k2).binds fun _ _ _ _ _ _ us hl => match us, hl with | [_, _, _], _ => rfl⟩, ⟨f3, _, fun_mk (st := s_natural) l3 c3 k3, PySem.W.mg_of X G a3, (fun_mk (st := s_natural) l3 c3 k3).binds fun _ _ _ _ _ _ us hl => match us, hl with | [_], _ => rfl⟩, ⟨f4, _, fun_mk (st := s_whole) l4 c4 k4, PySem.W.mg_of X G a4, (fun_mk (st := s_whole) l4 c4 k4).binds fun _ _ _ _ _ _ us hl => match us, hl with | [_], _ => rfl⟩, ⟨f5, _, fun_mk (st := s_parse_machine) l5 c5 k5, PySem.W.mg_of X G a5, (fun_mk (st := s_parse_machine) l5 c5 k5).binds fun _ _ _ _ _ _ us hl => match us, hl with | [_], _ => rfl⟩, ⟨f6, _, fun_mk (st := s_read_sizes) l6 c6 k6, PySem.W.mg_of X G a6, (fun_mk (st := s_read_sizes) l6 c6 k6).binds fun _ _ _ _ _ _ us hl => match us, hl with | [_], _ => rfl⟩, ⟨f7, _, fun_mk (st := s_read_opening) l7 c7 k7, PySem.W.mg_of X G a7, (fun_mk (st := s_read_opening) l7 c7 k7).binds fun _ _ _ _ _ _ us hl => match us, hl with | [_], _ => rfl⟩, ⟨f8, _, fun_mk (st := s_read_move) l8 c8 k8, PySem.W.mg_of X G a8, (fun_mk (st := s_read_move) l8 c8 k8).binds fun _ _ _ _ _ _ us hl => match us, hl with | [_], _ => rfl⟩, ⟨f9, _, fun_mk (st := s_read_natural) l9 c9 k9, PySem.W.mg_of X G a9, (fun_mk (st := s_read_natural) l9 c9 k9).binds fun _ _ _ _ _ _ us hl => match us, hl with | [_], _ => rfl⟩, ⟨f10, _, fun_mk (st := s_checked) l10 c10 k10, PySem.W.mg_of X G a10, (fun_mk (st := s_checked) l10 c10 k10).binds fun _ _ _ _ _ _ us hl => match us, hl with | [_], _ => rfl⟩, ⟨f11, _, fun_mk (st := s_law_draws) l11 c11 k11, PySem.W.mg_of X G a11, (fun_mk (st := s_law_draws) l11 c11 k11).binds fun _ _ _ _ _ _ us hl => match us, hl with | [_, _], _ => rfl⟩, ⟨f12, _, fun_mk (st := s_law_take) l12 c12 k12, PySem.W.mg_of X G a12, (fun_mk (st := s_law_take) l12 c12 k12).binds fun _ _ _ _ _ _ us hl => match us, hl with | [_, _], _ => rfl⟩, ⟨f13, _, fun_mk (st := s_law_is_integer) l13 c13 k13, PySem.W.mg_of X G a13, (fun_mk (st := s_law_is_integer) l13 c13 k13).binds fun _ _ _ _ _ _ us hl => match us, hl with | [_], _ => rfl⟩, ⟨f14, _, fun_mk (st := s_law_integers) l14 c14 k14, PySem.W.mg_of X G a14, (fun_mk (st := s_law_integers) l14 c14 k14).binds fun _ _ _ _ _ _ us hl => match us, hl with | [_, _, _], _ => rfl⟩, ⟨f15, _, fun_mk (st := s_law_machine) l15 c15 k15, PySem.W.mg_of X G a15, (fun_mk (st := s_law_machine) l15 c15 k15).binds fun _ _ _ _ _ _ us hl => match us, hl with | [_, _, _, _, _], _ => rfl⟩, ⟨f16, _, fun_mk (st := s_law_is_machine) l16 c16 k16, PySem.W.mg_of X G a16, (fun_mk (st := s_law_is_machine) l16 c16 k16).binds fun _ _ _ _ _ _ us hl => match us, hl with | [_, _, _, _], _ => rfl⟩, ⟨f17, _, fun_mk (st := s_law_machine_text) l17 c17 k17, PySem.W.mg_of X G a17, (fun_mk (st := s_law_machine_text) l17 c17 k17).binds fun _ _ _ _ _ _ us hl => match us, hl with | [_, _, _, _, _], _ => rfl⟩, ⟨f18, _, fun_mk (st := s_law_outcome) l18 c18 k18, PySem.W.mg_of X G a18, (fun_mk (st := s_law_outcome) l18 c18 k18).binds fun _ _ _ _ _ _ us hl => match us, hl with | [_], _ => rfl⟩, ⟨f19, _, fun_mk (st := s_law_number) l19 c19 k19, PySem.W.mg_of X G a19, (fun_mk (st := s_law_number) l19 c19 k19).binds fun _ _ _ _ _ _ us hl => match us, hl with | [_], _ => rfl⟩, ⟨f20, _, fun_mk (st := s_law_lead) l20 c20 k20, PySem.W.mg_of X G a20, (fun_mk (st := s_law_lead) l20 c20 k20).binds fun _ _ _ _ _ _ us hl => match us, hl with | [_], _ => rfl⟩, ⟨f21, _, fun_mk (st := s_law_pairs) l21 c21 k21, PySem.W.mg_of X G a21, (fun_mk (st := s_law_pairs) l21 c21 k21).binds fun _ _ _ _ _ _ us hl => match us, hl with | [_], _ => rfl⟩, ⟨f22, _, fun_mk (st := s_law_read) l22 c22 k22, PySem.W.mg_of X G a22, (fun_mk (st := s_law_read) l22 c22 k22).binds fun _ _ _ _ _ _ us hl => match us, hl with | [_], _ => rfl⟩, ⟨f23, _, fun_mk (st := s_law_change) l23 c23 k23, PySem.W.mg_of X G a23, (fun_mk (st := s_law_change) l23 c23 k23).binds fun _ _ _ _ _ _ us hl => match us, hl with | [_, _], _ => rfl⟩, PySem.W.mg_none_of X G z0, PySem.W.mg_none_of X G z1, PySem.W.mg_none_of X G z2, PySem.W.mg_none_of X G z3, PySem.W.mg_none_of X G z4, PySem.W.mg_none_of X G z5, PySem.W.mg_none_of X G z6, PySem.W.mg_none_of X G z7, PySem.W.mg_none_of X G z8, ⟨cI, cL, C, fI, fC, _, _, tk1, tk2, tk5, ⟨PySem.W.mg_of X G xa, xb, xc, xd, xe, ⟨xf, xg, xh, xi, xj, xk, xl, xm⟩⟩, ⟨PySem.W.mg_of X G wa, wb, wc, wd, we, ⟨wf, wg, wh, wi, wj, wk, wl, wm⟩⟩, ⟨⟨yb, yc, yd, ye⟩, yf, yg, yh, yi, yi2⟩, ⟨yj, yk, yl, ym⟩, PySem.W.mg_of X G ya, fun_mk (st := s_Machine_init) yn yo yp, (fun_mk (st := s_Machine_init) yn yo yp).binds fun _ _ _ _ _ _ us hl => match us, hl with | [_, _, _, _, _, _], _ => rfl, ⟨yq, yr, ys⟩, fun_mk (st := s_Machine_call) yt yu yv, (fun_mk (st := s_Machine_call) yt yu yv).binds fun _ _ _ _ _ _ us hl => match us, hl with | [_, _], _ => rfl, PySem.W.mg_of X G ga, PySem.W.mg_of X G gb, ⟨⟨yb, yc, yd, ye⟩, qa, qb, qc, qd, (if_pos (beq_self_eq_true _))⟩, PySem.W.mg_of X G ge, ⟨cMx, cSx, ⟨PySem.W.mg_of X G mxa, mxb, mxc, mxd, mxe, ⟨mxf, mxg, mxh, mxi, mxj, mxk, mxl, mxm⟩⟩, PySem.W.mg_of X G sy, xsz, se⟩⟩⟩
  exact ⟨_, fun s v => .of_eq rfl, fun base _ _ => ok_law (fun_mk (st := s_law) l24 c24 k24) T⟩
end My
open PySem PySem.W PyProof.Rows
set_option maxHeartbeats 0 in
theorem PySem.Challenge.cw_reactivesynth_k44_machine_text_refused_holds : PySem.Challenge.rw_reactivesynth_k44_machine_text_refused.Holds := by
  w_on; o_law; k_head; (case hw => w_witness2)
  k_fill
  refine L2.walk_of (l := PySem.Challenge.rw_reactivesynth_k44_machine_text_refused) (n := 63) (k := 8) (x := "script") (CX := fun _ => L2.CX0) (sp := fun w => My.spLaw _) rfl (by decide) rfl ⟨rfl, by decide, by decide⟩ (fun w h Y => PySem.W.kIn_of Y) ?F (fun _ _ a ns hl _ hS => ⟨a, ns, rfl, hS, hl, fun _ => rfl⟩) (fun _ _ _ _ _ h => h)
  case F =>
    intro w mg fa h KX G hmg
    refine' My.all_mk KX G hmg ?a0 ?l0 ?c0 ?k0 ?a1 ?l1 ?c1 ?k1 ?a2 ?l2 ?c2 ?k2 ?a3 ?l3 ?c3 ?k3 ?a4 ?l4 ?c4 ?k4 ?a5 ?l5 ?c5 ?k5 ?a6 ?l6 ?c6 ?k6 ?a7 ?l7 ?c7 ?k7 ?a8 ?l8 ?c8 ?k8 ?a9 ?l9 ?c9 ?k9 ?a10 ?l10 ?c10 ?k10 ?a11 ?l11 ?c11 ?k11 ?a12 ?l12 ?c12 ?k12 ?a13 ?l13 ?c13 ?k13 ?a14 ?l14 ?c14 ?k14 ?a15 ?l15 ?c15 ?k15 ?a16 ?l16 ?c16 ?k16 ?a17 ?l17 ?c17 ?k17 ?a18 ?l18 ?c18 ?k18 ?a19 ?l19 ?c19 ?k19 ?a20 ?l20 ?c20 ?k20 ?a21 ?l21 ?c21 ?k21 ?a22 ?l22 ?c22 ?k22 ?a23 ?l23 ?c23 ?k23 ?a24 ?l24 ?c24 ?k24 ?z0 ?z1 ?z2 ?z3 ?z4 ?z5 ?z6 ?z7 ?z8 ?xa ?xb ?xc ?xd ?xe ?xf ?xg ?xh ?xi ?xj ?xk ?xl ?xm ?wa ?wb ?wc ?wd ?we ?wf ?wg ?wh ?wi ?wj ?wk ?wl ?wm ?ya ?yb ?yc ?yd ?ye ?yf ?yg ?yh ?yi ?yi2 ?yj ?yk ?yl ?ym ?yn ?yo ?yp ?yq ?yr ?ys ?yt ?yu ?yv ?ga ?gb ?qa ?qb ?qc ?qd ?ge ?mxa ?mxb ?mxc ?mxd ?mxe ?mxf ?mxg ?mxh ?mxi ?mxj ?mxk ?mxl ?mxm ?sy ?xsz ?se
    (case a0 => k_is); (case l0 => k_is); (case c0 => k_is); (case k0 => k_is); (case a1 => k_is); (case l1 => k_is); (case c1 => k_is); (case k1 => k_is); (case a2 => k_is); (case l2 => k_is); (case c2 => k_is); (case k2 => k_is); (case a3 => k_is); (case l3 => k_is); (case c3 => k_is); (case k3 => k_is); (case a4 => k_is); (case l4 => k_is); (case c4 => k_is); (case k4 => k_is); (case a5 => k_is); (case l5 => k_is); (case c5 => k_is); (case k5 => k_is); (case a6 => k_is); (case l6 => k_is); (case c6 => k_is); (case k6 => k_is); (case a7 => k_is); (case l7 => k_is); (case c7 => k_is); (case k7 => k_is); (case a8 => k_is); (case l8 => k_is); (case c8 => k_is); (case k8 => k_is); (case a9 => k_is); (case l9 => k_is); (case c9 => k_is); (case k9 => k_is); (case a10 => k_is); (case l10 => k_is); (case c10 => k_is); (case k10 => k_is); (case a11 => k_is); (case l11 => k_is); (case c11 => k_is); (case k11 => k_is); (case a12 => k_is); (case l12 => k_is); (case c12 => k_is); (case k12 => k_is); (case a13 => k_is); (case l13 => k_is); (case c13 => k_is); (case k13 => k_is); (case a14 => k_is); (case l14 => k_is); (case c14 => k_is); (case k14 => k_is); (case a15 => k_is); (case l15 => k_is); (case c15 => k_is); (case k15 => k_is); (case a16 => k_is); (case l16 => k_is); (case c16 => k_is); (case k16 => k_is); (case a17 => k_is); (case l17 => k_is); (case c17 => k_is); (case k17 => k_is); (case a18 => k_is); (case l18 => k_is); (case c18 => k_is); (case k18 => k_is); (case a19 => k_is); (case l19 => k_is); (case c19 => k_is); (case k19 => k_is); (case a20 => k_is); (case l20 => k_is); (case c20 => k_is); (case k20 => k_is); (case a21 => k_is); (case l21 => k_is); (case c21 => k_is); (case k21 => k_is); (case a22 => k_is); (case l22 => k_is); (case c22 => k_is); (case k22 => k_is); (case a23 => k_is); (case l23 => k_is); (case c23 => k_is); (case k23 => k_is); (case a24 => k_is); (case l24 => k_is); (case c24 => k_is); (case k24 => k_is); (case z0 => k_is); (case z1 => k_is); (case z2 => k_is); (case z3 => k_is); (case z4 => k_is); (case z5 => k_is); (case z6 => k_is); (case z7 => k_is); (case z8 => k_is); (case xa => first | rfl | k_is); (case xb => first | k_exc | rfl | k_is); (case xc => first | rfl | k_is); (case xd => first | rfl | k_is); (case xe => first | rfl | k_is); (case xf => first | rfl | k_is); (case xg => first | rfl | k_is); (case xh => first | rfl | k_is); (case xi => first | rfl | k_is); (case xj => first | rfl | k_is); (case xk => first | rfl | k_is); (case xl => first | rfl | k_is); (case xm => first | rfl | k_is); (case wa => k_is); (case wb => first | k_exc | rfl | k_is); (case wc => k_is); (case wd => k_is); (case we => k_is); (case wf => k_is); (case wg => k_is); (case wh => k_is); (case wi => k_is); (case wj => k_is); (case wk => k_is); (case wl => k_is); (case wm => k_is); (case ya => k_is); (case yb => k_is); (case yc => k_is); (case yd => k_is); (case ye => k_is); (case yf => k_is); (case yg => k_is); (case yh => k_is); (case yi => k_is); (case yi2 => k_is); (case yj => k_is); (case yk => k_is); (case yl => k_is); (case ym => k_is); (case yn => k_is); (case yo => k_is); (case yp => k_is); (case yq => k_is); (case yr => k_is); (case ys => k_is); (case yt => k_is); (case yu => k_is); (case yv => k_is); (case ga => k_is); (case gb => k_is); (case qa => k_is); (case qb => k_is); (case qc => k_is); (case qd => k_is); (case ge => k_is); (case mxa => k_is); (case mxb => first | k_exc | rfl | k_is); (case mxc => k_is); (case mxd => k_is); (case mxe => k_is); (case mxf => k_is); (case mxg => k_is); (case mxh => k_is); (case mxi => k_is); (case mxj => k_is); (case mxk => k_is); (case mxl => k_is); (case mxm => k_is); (case sy => k_is); (case xsz => first | rfl | k_is); (case se => k_is)
