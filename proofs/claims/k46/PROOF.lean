import PyProof.Rows.All
import Wide.All
import OpenK.AllK
import Wide.FinOn
import HandS.ForMost
import HandS.ForExc
import HandS.ExcIs
import HandS.ExcOwn
import HandS.WordsExc
import HandS.TryMany
import HandS.TryOnly
import HandS.Codes
import HandS.IsInst
import HandS.TupAny
import HandS.TupMul
import HandS.SortKw
import KE.KMinKey
import PyProof.WalksMore
import HandS.Dict
import HandS.Style
import HandS.Conv
import HandS.Walk
import HandS.Zip
import PyProof.AutoSeq1
import HandS.Text
import HandS.More
import HandS.Strs
import HandS.SetFor
import HandS.SetTxt0
import HandS.MakeKwOnly
import HandS.Property
import HandS.Star
import HandS.Defaults
import HandS.AnyAll
import PySem.Challenge.RW_reactivesynth_k46_spec_and_dual
set_option Elab.async false
set_option linter.all false
set_option maxRecDepth 100000
set_option maxHeartbeats 4000000
namespace Wd
/-- m is the length of a proper border of the first k letters -/
def Bd (w : Nat → Int) (k m : Nat) : Prop := m < k ∧ ∀ i, i < m → w i = w (k - m + i)
/-- .. the greatest -/
def Lg (w : Nat → Int) (k m : Nat) : Prop := Bd w k m ∧ ∀ j, Bd w k j → j ≤ m
theorem Bd.zero {w : Nat → Int} {k : Nat} (h : 0 < k) : Bd w k 0 := ⟨h, fun i hi => absurd hi (Nat.not_lt_zero i)⟩
theorem Bd.down {w : Nat → Int} {k m : Nat} (h : Bd w (k + 1) (m + 1)) : Bd w k m ∧ w m = w k := by
  obtain ⟨h1, h2⟩ := h
  refine ⟨⟨by omega, fun i hi => ?_⟩, ?_⟩
  · have := h2 i (by omega)
    rw [this]
    congr 1
    omega
  · have := h2 m (by omega)
    rw [this]
    congr 1
    omega
theorem Bd.up {w : Nat → Int} {k m : Nat} (h : Bd w k m) (e : w m = w k) : Bd w (k + 1) (m + 1) := by
  obtain ⟨h1, h2⟩ := h
  refine ⟨by omega, fun i hi => ?_⟩
  rcases Nat.lt_or_ge i m with c | c
  · rw [h2 i c]
    congr 1
    omega
  · have : i = m := by omega
    subst this
    rw [e]
    congr 1
    omega
theorem Bd.inner {w : Nat → Int} {k b j : Nat} (h : Bd w k b) (g : Bd w k j) (l : j < b) : Bd w b j := by
  obtain ⟨h1, h2⟩ := h
  obtain ⟨g1, g2⟩ := g
  refine ⟨l, fun i hi => ?_⟩
  rw [g2 i hi, h2 (b - j + i) (by omega)]
  congr 1
  omega
theorem Bd.trans {w : Nat → Int} {k b j : Nat} (h : Bd w k b) (g : Bd w b j) : Bd w k j := by
  obtain ⟨h1, h2⟩ := h
  obtain ⟨g1, g2⟩ := g
  refine ⟨by omega, fun i hi => ?_⟩
  rw [g2 i hi, h2 (b - j + i) (by omega)]
  congr 1
  omega
/-- what the inner loop keeps: b is a border of the first k letters, and no border of the first k + 1 is longer than b + 1 -/
def In (w : Nat → Int) (k b : Nat) : Prop := Bd w k b ∧ ∀ j, Bd w (k + 1) (j + 1) → j ≤ b
theorem In.start {w : Nat → Int} {k b : Nat} (h : Lg w k b) : In w k b := ⟨h.1, fun j hj => h.2 j hj.down.1⟩
theorem In.step {w : Nat → Int} {k b c : Nat} (h : In w k b) (hb : 0 < b) (ne : w k ≠ w b) (g : Lg w b c) : In w k c ∧ c < b := by
  refine ⟨⟨h.1.trans g.1, fun j hj => ?_⟩, g.1.1⟩
  have h1 := h.2 j hj
  obtain ⟨h2, h3⟩ := hj.down
  have : j ≠ b := fun z => ne (by rw [← h3, z])
  exact g.2 j (h.1.inner h2 (by omega))
theorem In.found {w : Nat → Int} {k b : Nat} (h : In w k b) (e : w k = w b) : Lg w (k + 1) (b + 1) := by
  refine ⟨h.1.up e.symm, fun j hj => ?_⟩
  cases j with
  | zero => omega
  | succ j => exact Nat.succ_le_succ (h.2 j hj)
theorem In.none {w : Nat → Int} {k : Nat} (h : In w k 0) (ne : w k ≠ w 0) : Lg w (k + 1) 0 := by
  refine ⟨Bd.zero (by omega), fun j hj => ?_⟩
  cases j with
  | zero => omega
  | succ j =>
    have h1 := h.2 j hj
    have : j = 0 := by omega
    subst this
    exact absurd hj.down.2.symm ne
/-! periods -/
/-- the letters of the word without end that repeats the first n letters -/
def cyc (w : Nat → Int) (n i : Nat) : Int := w (i % n)
def Rp (w : Nat → Int) (n p : Nat) : Prop := ∀ i, cyc w n (i + p) = cyc w n i
theorem Rp.mul {w : Nat → Int} {n p : Nat} (h : Rp w n p) : ∀ k i, cyc w n (i + k * p) = cyc w n i
  | 0, i => by rw [Nat.zero_mul, Nat.add_zero]
  | k + 1, i => by
    rw [Nat.succ_mul, ← Nat.add_assoc, h, h.mul k i]
theorem Rp.mod {w : Nat → Int} {n p i : Nat} (h : Rp w n p) : cyc w n i = cyc w n (i % p) := by
  have := h.mul (i / p) (i % p)
  rw [Nat.mul_comm, Nat.mod_add_div] at this
  exact this
theorem cyc_lt {w : Nat → Int} {n i : Nat} (h : i < n) : cyc w n i = w i := by
  unfold cyc
  rw [Nat.mod_eq_of_lt h]
theorem rp_self (w : Nat → Int) (n : Nat) : Rp w n n := fun i => by
  unfold cyc
  rw [Nat.add_mod_right]
/-- a period of the finite word that divides its length is one of the word without end -/
theorem rp_of {w : Nat → Int} {n p : Nat} (hp : 0 < p) (hd : p ∣ n) (hn : 0 < n) (h : ∀ i, i + p < n → w i = w (i + p)) : Rp w n p := by
  have red : ∀ k i, i + k * p < n → w (i + k * p) = w i := by
    intro k
    induction k with
    | zero => intro i _; rw [Nat.zero_mul, Nat.add_zero]
    | succ k ih =>
      intro i hi
      rw [Nat.succ_mul] at hi ⊢
      rw [← Nat.add_assoc, ← h (i + k * p) (by omega)]
      exact ih i (by omega)
  have toMod : ∀ i, cyc w n i = w (i % p) := by
    intro i
    unfold cyc
    have h1 : i % n < n := Nat.mod_lt _ hn
    have e : i % n % p + (i % n / p) * p = i % n := by
      rw [Nat.mul_comm]
      exact Nat.mod_add_div _ _
    have h2 := red (i % n / p) (i % n % p) (by rw [e]; exact h1)
    rw [e] at h2
    rw [h2, Nat.mod_mod_of_dvd _ hd]
  intro i
  rw [toMod, toMod, Nat.add_mod_right]
/-- the least repetition: r divides n, the word repeats its first r letters, and no shorter one does -/
structure Least (w : Nat → Int) (n r : Nat) : Prop where
  pos : 0 < r
  dvd : r ∣ n
  rp : Rp w n r
  min : ∀ p, 0 < p → p ∣ n → Rp w n p → r ≤ p
theorem least_of {w : Nat → Int} {n b : Nat} (hn : 0 < n) (h : Lg w n b) : Least w n (if n % (n - b) = 0 then n - b else n) := by
  obtain ⟨⟨hb, h1⟩, h2⟩ := h
  have hs : 0 < n - b := by omega
  -- n - b is the least period of the finite word
  have per : ∀ i, i + (n - b) < n → w i = w (i + (n - b)) := fun i hi => by
    have := h1 i (by omega)
    rw [this]
    congr 1
    omega
  have low : ∀ p, 0 < p → p ≤ n → (∀ i, i + p < n → w i = w (i + p)) → n - b ≤ p := fun p hp hpn hq => by
    have := h2 (n - p) ⟨by omega, fun i hi => by
      have := hq i (by omega)
      rw [this]
      congr 1
      omega⟩
    omega
  have fin : ∀ p, Rp w n p → ∀ i, i + p < n → w i = w (i + p) := fun p hp i hi => by
    have := hp i
    rw [cyc_lt hi, cyc_lt (by omega)] at this
    exact this.symm
  -- a shorter repetition makes n - b a repetition
  have key : ∀ p, 0 < p → p ∣ n → p < n → Rp w n p → n % (n - b) = 0 ∧ n - b ≤ p := by
    intro p hp hd hlt hr
    have le := low p hp (by omega) (fin p hr)
    obtain ⟨q, hq⟩ := hd
    have hq2 : 2 ≤ q := by
      rcases Nat.lt_or_ge q 2 with c | c
      · have : q = 0 ∨ q = 1 := by omega
        rcases this with z | z
        · rw [z] at hq; omega
        · rw [z] at hq; omega
      · exact c
    have h2p : 2 * p ≤ n := by
      rw [hq, Nat.mul_comm 2 p]
      exact Nat.mul_le_mul_left p hq2
    have rs : Rp w n (n - b) := by
      intro i
      have e1 : cyc w n (i + (n - b)) = cyc w n (i % p + (n - b)) := by
        have := hr.mul (i / p) (i % p + (n - b))
        rw [← this]
        congr 1
        have := Nat.mod_add_div i p
        rw [Nat.mul_comm (i / p) p]
        omega
      have hm : i % p < p := Nat.mod_lt _ hp
      rw [e1, hr.mod (i := i), cyc_lt (show i % p + (n - b) < n by omega), cyc_lt (show i % p < n by omega)]
      exact (per _ (by omega)).symm
    -- p is a multiple of n - b
    have hmod : p % (n - b) = 0 := by
      rcases Nat.eq_zero_or_pos (p % (n - b)) with z | z
      · exact z
      · have lt : p % (n - b) < n - b := Nat.mod_lt _ hs
        have rm : Rp w n (p % (n - b)) := by
          intro i
          have a := rs.mul (p / (n - b)) (i + p % (n - b))
          have e : i + p % (n - b) + p / (n - b) * (n - b) = i + p := by
            rw [Nat.mul_comm, Nat.add_assoc, Nat.mod_add_div]
          rw [e] at a
          rw [← a]
          exact hr i
        have := low _ z (by omega) (fin _ rm)
        omega
    refine ⟨?_, le⟩
    exact Nat.mod_eq_zero_of_dvd (Nat.dvd_trans (Nat.dvd_of_mod_eq_zero hmod) ⟨q, hq⟩)
  by_cases c : n % (n - b) = 0
  · rw [if_pos c]
    refine ⟨hs, Nat.dvd_of_mod_eq_zero c, rp_of hs (Nat.dvd_of_mod_eq_zero c) hn per, fun p hp hd hr => ?_⟩
    exact low p hp (Nat.le_of_dvd hn hd) (fin p hr)
  · rw [if_neg c]
    refine ⟨hn, Nat.dvd_refl n, rp_self w n, fun p hp hd hr => ?_⟩
    have le := Nat.le_of_dvd hn hd
    rcases Nat.lt_or_ge p n with l | l
    · exact absurd (key p hp hd l hr).1 c
    · exact l
end Wd
/-! ### min(xs, default=d) of a list of ints: own rule -/
namespace MinD
open PySem PySem.W PyProof.Rows
def kwD (d : Value) : List (Str × Value) := [(Str.ofString "default", d)]
theorem nameL : (toString "min" ++ toString ".loop" : String) = "min.loop" := by decide
section
variable {prog : Program} {w : World} {A : Around} {R : Result → Shared → Prop} {I S : Addr} {fp wr : List Addr} {n : Nat} {P : Nat → Value → Prop} {St : Nat → Heap → Prop} {d : Value}
theorem loopD (W : Walks prog w A.in1 I fp wr n P St) (bt : Nat → Nat → Bool) (cm : CmpOf prog w A.in1 .Lt P bt) (nf : S ∉ fp) :
    ∀ (m j : Nat) (u : Shared) (best : Value) (c : Nat), n - (j + 1) = m → j + 1 ≤ n → St (j + 1) u.heap → P (argBest bt j) best →
    u.heap.get? S = some { cls := .type "list", dict := none, data := .seq #[best, best] c, slots := #[] } →
    (∀ v g tk, P (argBest bt (n - 1)) v → (∀ b o, b ∉ wr → b ≠ S → u.heap.get? b = some o → g.get? b = some o) → R (.ok (.ret v)) { u with heap := g, toks := tk }) →
    codeAny (model prog w) A (.builtin "min.loop" ⟨[.ref I, .none, .ref S], kwD d⟩) R u := by
  have nw : S ∉ wr := fun q => nf (W.sub _ q)
  intro m
  induction m with
  | zero =>
    intro j u best c em hj st pb gS out
    have ej : j + 1 = n := by omega
    refine codeAny_builtin PySem.F.entry_min_loop ?_
    rw [Around.under_plainId PySem.F.plain_min_loop _]
    show wpAny _ A.in1 (seqItems? (.ref S) >>= _) _ _ u
    refine wpAny_bind (wpAny_seqItems gS rfl ?_)
    show wpAny _ A.in1 (tryCatch (pyNext (.ref I)) _ >>= _) _ _ u
    refine wpAny_bind (wpAny_tryCatch (W.done u _ _ (ej ▸ st) fun g tk keep => ?_))
    have gS2 := keep S _ nw gS
    show wpAny _ A.in1 (updateSeq S (fun _ => #[]) >>= _) _ _ _
    refine wpAny_bind (wpAny_updateSeq gS2 rfl (wpAny_bind (wpAny_letGo (wpAny_pure ?_))))
    exact out best _ tk (by rw [← ej]; exact pb) fun b o hb hS e => (Heap.get?_update_other _ _ (Ne.symm hS)).trans (keep b o hb e)
  | succ m ih =>
    intro j u best c em hj st pb gS out
    have lt : j + 1 < n := by omega
    refine codeAny_builtin PySem.F.entry_min_loop ?_
    rw [Around.under_plainId PySem.F.plain_min_loop _]
    show wpAny _ A.in1 (seqItems? (.ref S) >>= _) _ _ u
    refine wpAny_bind (wpAny_seqItems gS rfl ?_)
    show wpAny _ A.in1 (tryCatch (pyNext (.ref I)) _ >>= _) _ _ u
    refine wpAny_bind (wpAny_tryCatch (W.item (j + 1) u _ _ lt st fun v g tk pv st2 keep => ?_))
    have gS2 := keep S _ nw gS
    show wpAny _ A.in1 (tryCatch (holding [v, v] (richCompare .Lt v best >>= _)) _ >>= _) _ _ _
    refine wpAny_bind (wpAny_tryCatch (wpAny_holding (wpAny_bind (cm (j + 1) (argBest bt j) v best _ _ _ pv pb ?_))))
    refine wpAny_bind (wpAny_holding (wpAny_truthy_bool (wpAny_bind (wpAny_letGo (wpAny_pure ?_)))))
    cases hb : bt (j + 1) (argBest bt j) with
    | true =>
      simp only [if_true]
      refine wpAny_bind (wpAny_updateSeq gS2 rfl (wpAny_bind (wpAny_letGo ?_)))
      rw [nameL]
      refine wpAny_pure ⟨plainId_quiet PySem.F.plain_min_loop _, ih (j + 1) _ v _ (by omega) lt (W.frame _ _ _ st2 fun b bf o e => ?_) (by simp only [argBest, hb, if_true]; exact pv) (Heap.get?_update_self _ gS2 rfl)
        fun v2 g2 tk2 p2 keep2 => ?_⟩
      · exact (Heap.get?_update_other _ _ (fun q : S = b => nf (by rw [q]; exact bf))).trans e
      · exact out v2 g2 tk2 p2 fun b o hw hS e => keep2 b o hw hS ((Heap.get?_update_other _ _ (Ne.symm hS)).trans (keep b o hw e))
    | false =>
      simp only [Bool.false_eq_true, if_false]
      refine wpAny_bind (wpAny_letGo ?_)
      rw [nameL]
      exact wpAny_pure ⟨plainId_quiet PySem.F.plain_min_loop _, ih (j + 1) _ best c (by omega) lt st2 (by simp only [argBest, hb, Bool.false_eq_true, if_false]; exact pb) gS2 fun v2 g2 tk2 p2 keep2 =>
        out v2 g2 tk2 p2 fun b o hw hS e => keep2 b o hw hS (keep b o hw e)⟩
theorem firstD (W : Walks prog w A.in1 I fp wr n P St) (bt : Nat → Nat → Bool) (cm : CmpOf prog w A.in1 .Lt P bt) (nf : S ∉ fp) {u : Shared} {c : Nat} (st : St 0 u.heap)
    (gS : u.heap.get? S = some { cls := .type "list", dict := none, data := .seq #[] c, slots := #[] })
    (out : ∀ v g tk, (0 < n → P (argBest bt (n - 1)) v) → (n = 0 → v = d) → (∀ b o, b ∉ wr → b ≠ S → u.heap.get? b = some o → g.get? b = some o) → R (.ok (.ret v)) { u with heap := g, toks := tk }) :
    codeAny (model prog w) A (.builtin "min.loop" ⟨[.ref I, .none, .ref S], kwD d⟩) R u := by
  have nw : S ∉ wr := fun q => nf (W.sub _ q)
  refine codeAny_builtin PySem.F.entry_min_loop ?_
  rw [Around.under_plainId PySem.F.plain_min_loop _]
  show wpAny _ A.in1 (seqItems? (.ref S) >>= _) _ _ u
  refine wpAny_bind (wpAny_seqItems gS rfl ?_)
  show wpAny _ A.in1 (tryCatch (pyNext (.ref I)) _ >>= _) _ _ u
  by_cases h0 : 0 < n
  · refine wpAny_bind (wpAny_tryCatch (W.item 0 u _ _ h0 st fun v g tk pv st2 keep => ?_))
    have gS2 := keep S _ nw gS
    show wpAny _ A.in1 (updateSeq S (fun _ => #[v, v]) >>= _) _ _ _
    refine wpAny_bind (wpAny_updateSeq gS2 rfl ?_)
    rw [nameL]
    refine wpAny_pure ⟨plainId_quiet PySem.F.plain_min_loop _, loopD W bt cm nf _ 0 _ v _ rfl h0 (W.frame _ _ _ st2 fun b bf o e => ?_) pv (Heap.get?_update_self _ gS2 rfl) fun v2 g2 tk2 p2 keep2 => ?_⟩
    · exact (Heap.get?_update_other _ _ (fun q : S = b => nf (by rw [q]; exact bf))).trans e
    · exact out v2 g2 tk2 (fun _ => p2) (fun z => by omega) fun b o hw hS e => keep2 b o hw hS ((Heap.get?_update_other _ _ (Ne.symm hS)).trans (keep b o hw e))
  · have e0 : n = 0 := by omega
    refine wpAny_bind (wpAny_tryCatch (W.done u _ _ (by rw [e0]; exact st) fun g tk keep => ?_))
    show wpAny _ A.in1 (rule _ >>= _) _ _ _
    refine wpAny_bind (wpAny_rule (wpAny_pure ?_))
    exact out d g tk (fun z => absurd z h0) (fun _ => rfl) fun b o hw _ e => keep b o hw e
end
section
variable {prog : Program} {w : World} {A : Around} {E : Value → Shared → Prop} {s : Shared} {d : Value}
theorem args_d (a v : Value) : argsOk "min" ⟨[a], kwD v⟩ := by
  unfold argsOk
  kernel_rfl
theorem callD {l : Addr} {xs : Array (Int × Tok)} {Q : Value → Shared → Prop} (hh : A.handled = none) (hl : s.heap.IsList l (intItems xs))
    (h : ∀ v g tk, (0 < xs.size → (intItems xs)[argBest (fun i j => decide (numAt xs i < numAt xs j)) (xs.size - 1)]? = some v) → (xs.size = 0 → v = d) → (∀ b o, s.heap.get? b = some o → g.get? b = some o) → Q v { s with heap := g, toks := tk }) :
    wpAny (model prog w) A (call (.builtin "min") [.ref l] (kwD d)) Q E s := by
  refine kmk_tree PySem.F.kind_min PySem.F.plain_min PySem.F.entry_min (args_d _ _) ?_
  show wpAny _ A.in1 (Builtin.Builtins.bindParams "min" ["key", "default"] 0 ⟨[], kwD d⟩ >>= _) _ _ s
  refine wpAny_bind (wpAny_of_eq (show Builtin.Builtins.bindParams "min" ["key", "default"] 0 ⟨[], kwD d⟩ = pure [none, some d] from rfl) ?_)
  refine wpAny_bind (wpAny_pure ?_)
  refine wpAny_bind (iter_intList hl fun u eu st hfp hlI => ?_)
  subst eu
  refine wpAny_bind (wpAny_newObj_type ?_)
  rw [nameL]
  refine wpAny_pure ⟨plainId_quiet PySem.F.plain_min_loop _, firstD (Walks.list (A := A.in1) hh _ l hlI (intItems xs)) _ (CmpOf.ints_lt (numAt xs) (fun _ _ => intItems_at)) (fun hm => Nat.lt_irrefl _ (hfp _ hm)) ?_ (Heap.get?_push_size _ rfl) fun v g tk p1 p2 keep => ?_⟩
  · exact (Walks.list (prog := prog) (w := w) (A := A.in1) hh _ l hlI (intItems xs)).frame _ _ _ st fun b _ o e => Heap.get?_push_of_some _ e
  · have hsz : (intItems xs).size = xs.size := by simp [intItems]
    refine h v g tk (fun z => by have := p1 (by rw [hsz]; exact z); rw [hsz] at this; exact this) (fun z => p2 (by rw [hsz]; exact z)) (old_kept (l := l) fun b o hb e => ?_)
    exact keep b o hb (Nat.ne_of_lt (Heap.lt_size e)) (Heap.get?_push_of_some _ e)
end
theorem rawD {prog : Program} {w : World} {A : Around} {E : Value → Shared → Prop} {s : Shared} {l : Addr} {its : List Value} {ns : List Int} {z : Int} {t : Tok} {Q : Value → Shared → Prop} (hh : A.handled = none) (hl : s.heap.IsList l its.toArray) (hi : IntsAre its ns)
    (h : ∀ (g : Heap) (tk : Nat) (m : Int) (t' : Tok), (∀ b o, s.heap.get? b = some o → g.get? b = some o) → (ns = [] → m = z) → (ns ≠ [] → m ∈ ns ∧ ∀ y ∈ ns, m ≤ y) → Q (.int m t') { s with heap := g, toks := tk }) :
    wpAny (model prog w) A (call (.builtin "min") [.ref l] (kwD (.int z t))) Q E s := by
  obtain ⟨xs, e⟩ := hi.allInts.items
  have hn : numsOf (intItems xs).toList = ns := by rw [← e]; exact hi.numsOf
  rw [PySem.nums_intItems] at hn
  subst hn
  rw [e] at hl
  refine callD hh hl fun v g tk p1 p2 keep => ?_
  by_cases c : 0 < xs.size
  · obtain ⟨u, rfl⟩ := intItems_at (p1 c)
    obtain ⟨a1, a2⟩ := argBest_lt (numAt xs) (xs.size - 1)
    refine h g tk _ u keep (fun z => ?_) fun _ => ⟨?_, fun y hy => ?_⟩
    · have q : xs.size = 0 := by simpa using congrArg List.length z
      omega
    · rw [PySem.numAt_eq]
      refine PySem.getD_mem ?_
      rw [List.length_map, Array.length_toList]
      exact Nat.lt_of_le_of_lt a1 (by omega)
    · obtain ⟨j, hj, rfl⟩ := PySem.mem_getD hy
      rw [List.length_map, Array.length_toList] at hj
      rw [← PySem.numAt_eq]
      exact a2 j (by omega)
  · rw [p2 (by omega)]
    refine h g tk z t keep (fun _ => rfl) fun q => absurd ?_ q
    have : xs = #[] := Array.eq_empty_of_size_eq_zero (by omega)
    rw [this]
    rfl
end MinD
namespace Bx
open PySem PySem.Spec PyProof.Rows L2
def rMinD (K : PySem.W.Frag) : List V → List V → Hp → VK → Prop := fun xs zs H Q => ∃ (a : Addr) (ns : List Int) (z : Int), xs = [.ref a] ∧ zs = [.int z] ∧ SqL K H a (ns.map V.int) ∧
  ∀ m, (ns = [] → m = z) → (ns ≠ [] → m ∈ ns ∧ ∀ y ∈ ns, m ≤ y) → Q (.int m) H
theorem call_minD {X : Cx} {K : PySem.W.Frag} (h : X.K = K) (hc : X.calm = true) : CallRK X (.builtin "min") ["default"] (rMinD K) := by
  subst h
  intro pins s σ H xs zs us ws Q I r r2 hw
  obtain ⟨a, ns, z, rfl, rfl, hs, q⟩ := hw
  obtain ⟨its, rv, hl, _⟩ := I.list hs
  rw [Vals.ref1 r]
  obtain ⟨u, rfl, ru⟩ := vals1 r2
  obtain ⟨t, rfl⟩ := ru
  exact MinD.rawD (I.ok.hd hc) hl.isList rv.ints fun g tk m t' hk h1 h2 => ⟨.int m, H, I.kept hk, ⟨_, rfl⟩, q m h1 h2⟩
end Bx
namespace Bx
open PySem PySem.Spec PyProof.Rows L2
/-! ### rules over the written part by its name -/
section
variable {X : Cx} {K : PySem.W.Frag}
theorem ix_tupK (h : X.K = K) : IxR X (rIxT K) := h ▸ ix_tup
theorem ix_listK (h : X.K = K) : IxR X (rIxL K) := h ▸ ix_list
theorem ix_seqK (h : X.K = K) : IxR X (rIx K) := h ▸ ix_seq
def rLen (K : PySem.W.Frag) : List V → Hp → VK → Prop := fun xs H Q => ∃ (p : Addr) (ys : List V), xs = [.ref p] ∧ (SqL K H p ys ∨ SqT K H p ys) ∧ Q (.int ys.length) H
theorem call_lenK (h : X.K = K) : CallR X (.builtin "len") (rLen K) := by
  subst h
  exact call_len_seq
def rTupOf (K : PySem.W.Frag) : List V → Hp → VK → Prop := fun xs H Q => ∃ (p : Addr) (ys : List V), xs = [.ref p] ∧ ((SqL K H p ys ∧ ∀ l, H l = none → Q (.ref l) (upd H l (.tup ys))) ∨ (SqT K H p ys ∧ Q (.ref p) H))
theorem call_tuple_ofK (h : X.K = K) : CallR X (.type "tuple") (rTupOf K) := by
  subst h
  exact call_tuple_of
def rLstOf (K : PySem.W.Frag) : List V → Hp → VK → Prop := fun xs H Q => ∃ (p : Addr) (ys : List V), xs = [.ref p] ∧ (SqL K H p ys ∨ SqT K H p ys) ∧ ∀ l, H l = none → Q (.ref l) (upd H l (.lst ys))
theorem call_list_ofK (h : X.K = K) : CallR X (.type "list") (rLstOf K) := by
  subst h
  exact call_list_of
end
end Bx
/-! ### heaps: what one list at d may lose, all else as it was -/
namespace Bx
open PySem PySem.Spec PyProof.Rows L2
def Kp (d : Addr) (H H' : Hp) : Prop := ∀ b o, b ≠ d → H b = some o → H' b = some o
theorem Kp.refl (d : Addr) (H : Hp) : Kp d H H := fun _ _ _ h => h
theorem Kp.trans {d : Addr} {H H1 H2 : Hp} (a : Kp d H H1) (b : Kp d H1 H2) : Kp d H H2 := fun c o n h => b c o n (a c o n h)
theorem Same.kp {d : Addr} {H H' : Hp} (s : Same H H') : Kp d H H' := fun b o _ h => s b o h
theorem Kp.own {d : Addr} {H : Hp} {o : HO} : Kp d H (upd H d o) := fun b _ n h => by rw [upd_ne n]; exact h
theorem same_new {H : Hp} {p : Addr} {o : HO} (h : H p = none) : Same H (upd H p o) := fun b x e => by
  rw [upd_ne (ne_of_none e h)]
  exact e
theorem Kp.new {d p : Addr} {H : Hp} {o : HO} (h : H p = none) : Kp d H (upd H p o) := Same.kp (same_new h)
theorem upd_self {H : Hp} {d : Addr} {o : HO} (h : H d = some o) : upd H d o = H := by
  funext b
  by_cases e : b = d
  · rw [e, upd_same, h]
  · rw [upd_ne e]
/-- a list of ints at d -/
def Ints (H : Hp) (d : Addr) (xs : List Int) : Prop := H d = some (.lst (xs.map V.int))
/-- the draws: some list of ints -/
def Drw (H : Hp) (d : Addr) : Prop := ∃ ds : List Int, H d = some (.lst (ds.map V.int))
theorem Drw.new {H : Hp} {d p : Addr} {o : HO} (h : Drw H d) (n : H p = none) : Drw (upd H p o) d := by
  obtain ⟨ds, e⟩ := h
  exact ⟨ds, same_new n _ _ e⟩
theorem Drw.own {H : Hp} {d : Addr} {ds : List Int} : Drw (upd H d (.lst (ds.map V.int))) d := ⟨ds, upd_same⟩
theorem Drw.same {H H' : Hp} {d : Addr} (h : Drw H d) (s : Same H H') : Drw H' d := by
  obtain ⟨ds, e⟩ := h
  exact ⟨ds, s _ _ e⟩
/-- a tuple of ints -/
def TupI (H : Hp) (a : Addr) (xs : List Int) : Prop := H a = some (.tup (xs.map V.int))
theorem Drw.ne_tup {H : Hp} {d a : Addr} {xs : List V} (h : Drw H d) (e : H a = some (.tup xs)) : a ≠ d := by
  obtain ⟨ds, e2⟩ := h
  exact ne_of e e2 (by intro z; cases z)
/-- a lasso: a pair of tuples of ints -/
def Las (H : Hp) (p : Addr) (h l : List Int) : Prop := ∃ a b, H p = some (.tup [.ref a, .ref b]) ∧ H a = some (.tup (h.map V.int)) ∧ H b = some (.tup (l.map V.int))
theorem Las.keep {H H' : Hp} {d p : Addr} {h l : List Int} (k : Kp d H H') (w : Drw H d) (x : Las H p h l) : Las H' p h l := by
  obtain ⟨a, b, e1, e2, e3⟩ := x
  exact ⟨a, b, k _ _ (w.ne_tup e1) e1, k _ _ (w.ne_tup e2) e2, k _ _ (w.ne_tup e3) e3⟩
theorem Las.same {H H' : Hp} {p : Addr} {h l : List Int} (k : Same H H') (x : Las H p h l) : Las H' p h l := by
  obtain ⟨a, b, e1, e2, e3⟩ := x
  exact ⟨a, b, k _ _ e1, k _ _ e2, k _ _ e3⟩
theorem lenI {xs : List Int} (h : xs.length ≤ 1000000) : (xs.map V.int).length < sizeLine := by
  rw [List.length_map]
  exact Nat.lt_of_le_of_lt h (by decide)
theorem ixN_at {n j : Nat} (h : j < n) : ixN n (j : Int) = some j := by
  unfold ixN
  rw [if_pos (by omega), if_pos (by omega)]
  rfl
theorem set_mapI {xs : List Int} {j : Nat} {v : Int} : (xs.map V.int).set j (.int v) = (xs.set j v).map V.int := by rw [List.map_set]
/-- a list or a tuple of ints -/
def SeqI (H : Hp) (a : Addr) (xs : List Int) : Prop := H a = some (.lst (xs.map V.int)) ∨ H a = some (.tup (xs.map V.int))
theorem SeqI.sq {K : PySem.W.Frag} {H : Hp} {a : Addr} {xs : List Int} (h : SeqI H a xs) : SqL K H a (xs.map V.int) ∨ SqT K H a (xs.map V.int) := by
  rcases h with h | h
  · exact .inl (.of h)
  · exact .inr (.of h)
theorem SeqI.same {H H' : Hp} {a : Addr} {xs : List Int} (k : Same H H') (h : SeqI H a xs) : SeqI H' a xs := by
  rcases h with h | h
  · exact .inl (k _ _ h)
  · exact .inr (k _ _ h)
/-- a pair of lists or tuples of ints -/
def Pr (H : Hp) (p : Addr) (h l : List Int) : Prop := ∃ a b, H p = some (.tup [.ref a, .ref b]) ∧ SeqI H a h ∧ SeqI H b l
theorem Las.pr {H : Hp} {p : Addr} {h l : List Int} (x : Las H p h l) : Pr H p h l := by
  obtain ⟨a, b, e1, e2, e3⟩ := x
  exact ⟨a, b, e1, .inr e2, .inr e3⟩
theorem Pr.same {H H' : Hp} {p : Addr} {h l : List Int} (k : Same H H') (x : Pr H p h l) : Pr H' p h l := by
  obtain ⟨a, b, e1, e2, e3⟩ := x
  exact ⟨a, b, k _ _ e1, e2.same k, e3.same k⟩
/-- an item -/
theorem ixq {K : PySem.W.Frag} {H : Hp} {a : Addr} {xs : List Int} {i : Int} {j : Nat} {v : V} {Q : VK} (h : SeqI H a xs) (ei : i = (j : Int)) (e : (xs.map V.int)[j]? = some v) (q : Q v H) : rIx K (.ref a) (.int i) H Q := by
  subst ei
  rcases h with h | h
  · exact .inl ⟨_, _, _, _, rfl, rfl, .of h, atI_nat e, q⟩
  · exact .inr (.inl ⟨_, _, _, _, rfl, rfl, .of h, atI_nat e, q⟩)
theorem ixq_last {K : PySem.W.Frag} {H : Hp} {a : Addr} {xs : List Int} {z : Int} {Q : VK} (h : SeqI H a xs) (e : xs.getLast? = some z) (q : Q (.int z) H) : rIx K (.ref a) (.int (-1)) H Q := by
  obtain ⟨ys, rfl⟩ := List.getLast?_eq_some_iff.mp e
  have g : atI ((ys ++ [z]).map V.int) (-1) = some (.int z) := by
    rw [List.map_append]
    exact atI_last _ _
  rcases h with h | h
  · exact .inl ⟨_, _, _, _, rfl, rfl, .of h, g, q⟩
  · exact .inr (.inl ⟨_, _, _, _, rfl, rfl, .of h, g, q⟩)
theorem at_map {xs : List Int} {j : Nat} (h : j < xs.length) : (xs.map V.int)[j]? = some (.int (xs.getD j 0)) := by
  rw [List.getElem?_map, List.getElem?_eq_getElem h, List.getD_eq_getElem?_getD, List.getElem?_eq_getElem h]
  rfl
/-! slices -/
section
variable {X : Cx} {K : PySem.W.Frag}
def rSlQ (K : PySem.W.Frag) : V → Option Int → Option Int → Hp → VK → Prop := fun x lo hi H Q => rSlL K x lo hi H Q ∨ rSlA K x lo hi H Q
theorem sl_seqK (h : X.K = K) : SlR X (rSlQ K) := by
  subst h
  exact sl_list.or sl_tupA
theorem sl_tupK (h : X.K = K) : SlR X (rSlA K) := by
  subst h
  exact sl_tupA
theorem sl_listK (h : X.K = K) : SlR X (rSlL K) := by
  subst h
  exact sl_list
theorem op_catK (h : X.K = K) : OpR X (binaryOp .Add) (rCatA K) := by
  subst h
  exact op_catA
theorem op_repTK (h : X.K = K) : OpR X (binaryOp .Mult) (rRepT K) := by
  subst h
  exact op_repT
theorem op_eqDK (h : X.K = K) (hu : X.A.units + 64 < cLine) : OpR X (compareOp .Eq) (rEqD K) := by
  subst h
  exact op_eqD hu
theorem op_neDK (h : X.K = K) (hu : X.A.units + 64 < cLine) : OpR X (compareOp .NotEq) (rNeD K) := by
  subst h
  exact op_neD hu
theorem call_minK (h : X.K = K) (hc : X.calm = true) : CallR X (.builtin "min") (rMin K) := by
  subst h
  exact cr_min hc
theorem call_isiK' (h : X.K = K) : CallR X (.builtin "isinstance") (rIsi K) := by
  subst h
  exact call_isi
end
theorem cut_map {xs : List Int} {lo hi : Option Int} : cutV (xs.map V.int) lo hi = ((xs.drop (HT.sIx xs.length 0 lo)).take (HT.sIx xs.length xs.length hi - HT.sIx xs.length 0 lo)).map V.int := by
  unfold cutV
  rw [List.length_map, List.map_take, List.map_drop]
/-- a slice of a tuple -/
theorem slt {K : PySem.W.Frag} {H : Hp} {a : Addr} {xs ys : List Int} {lo hi : Option Int} {Q : VK} (h : TupI H a xs) (e : (xs.drop (HT.sIx xs.length 0 lo)).take (HT.sIx xs.length xs.length hi - HT.sIx xs.length 0 lo) = ys)
    (q : ∀ (H' : Hp) (p : Addr), Same H H' → TupI H' p ys → Q (.ref p) H') : rSlA K (.ref a) lo hi H Q := by
  subst e
  refine ⟨a, _, rfl, .of h, fun w => ?_, fun _ p hp => q _ p (same_new hp) ?_⟩
  · refine q H a (Same.refl H) ?_
    rw [List.length_map] at w
    rw [w.1, w.2, List.drop_zero, Nat.sub_zero, List.take_length]
    exact h
  · unfold TupI
    rw [upd_same, cut_map]
/-- a slice of a list or tuple -/
theorem slq {K : PySem.W.Frag} {H : Hp} {a : Addr} {xs ys : List Int} {lo hi : Option Int} {Q : VK} (h : SeqI H a xs) (e : (xs.drop (HT.sIx xs.length 0 lo)).take (HT.sIx xs.length xs.length hi - HT.sIx xs.length 0 lo) = ys)
    (q : ∀ (H' : Hp) (p : Addr), Same H H' → SeqI H' p ys → Q (.ref p) H') : rSlQ K (.ref a) lo hi H Q := by
  rcases h with h | h
  · subst e
    refine .inl ⟨a, _, rfl, .of h, fun p hp => q _ p (same_new hp) (.inl ?_)⟩
    rw [upd_same, cut_map]
  · exact .inr (slt h e fun H' p s t => q H' p s (.inr t))
theorem cut_to (xs : List Int) (n : Nat) : (xs.drop (HT.sIx xs.length 0 none)).take (HT.sIx xs.length xs.length (some (n : Int)) - HT.sIx xs.length 0 none) = xs.take n := by
  rw [HT.sIx_none, HT.sIx_nat, List.drop_zero, Nat.sub_zero]
  rcases Nat.le_total n xs.length with c | c
  · rw [Nat.min_eq_left c]
  · rw [Nat.min_eq_right c, List.take_length, List.take_of_length_le c]
theorem cut_from (xs : List Int) {n : Nat} (hn : n ≤ xs.length) : (xs.drop (HT.sIx xs.length 0 (some (n : Int)))).take (HT.sIx xs.length xs.length none - HT.sIx xs.length 0 (some (n : Int))) = xs.drop n := by
  rw [HT.sIx_none, HT.sIx_nat, Nat.min_eq_left hn]
  exact List.take_of_length_le (by rw [List.length_drop]; exact Nat.le_refl _)
theorem slt_to {K : PySem.W.Frag} {H : Hp} {a : Addr} {xs : List Int} {k : Int} {n : Nat} {Q : VK} (h : TupI H a xs) (ek : k = (n : Int))
    (q : ∀ (H' : Hp) (p : Addr), Same H H' → TupI H' p (xs.take n) → Q (.ref p) H') : rSlA K (.ref a) none (some k) H Q := by
  subst ek
  exact slt h (cut_to xs n) q
theorem slt_from {K : PySem.W.Frag} {H : Hp} {a : Addr} {xs : List Int} {k : Int} {n : Nat} {Q : VK} (h : TupI H a xs) (ek : k = (n : Int)) (hn : n ≤ xs.length)
    (q : ∀ (H' : Hp) (p : Addr), Same H H' → TupI H' p (xs.drop n) → Q (.ref p) H') : rSlA K (.ref a) (some k) none H Q := by
  subst ek
  exact slt h (cut_from xs hn) q
theorem slq_to {K : PySem.W.Frag} {H : Hp} {a : Addr} {xs : List Int} {k : Int} {n : Nat} {Q : VK} (h : SeqI H a xs) (ek : k = (n : Int))
    (q : ∀ (H' : Hp) (p : Addr), Same H H' → SeqI H' p (xs.take n) → Q (.ref p) H') : rSlQ K (.ref a) none (some k) H Q := by
  subst ek
  exact slq h (cut_to xs n) q
theorem slq_mid {K : PySem.W.Frag} {H : Hp} {a : Addr} {xs : List Int} {k k2 : Int} {n m : Nat} {Q : VK} (h : SeqI H a xs) (ek : k = (n : Int)) (ek2 : k2 = (m : Int)) (hn : n ≤ xs.length) (hm : m ≤ xs.length)
    (q : ∀ (H' : Hp) (p : Addr), Same H H' → SeqI H' p ((xs.drop n).take (m - n)) → Q (.ref p) H') : rSlQ K (.ref a) (some k) (some k2) H Q := by
  subst ek
  subst ek2
  refine slq h ?_ q
  rw [HT.sIx_nat, HT.sIx_nat, Nat.min_eq_left hn, Nat.min_eq_left hm]
/-- tuple(x) -/
theorem tupq {K : PySem.W.Frag} {H : Hp} {a : Addr} {xs : List Int} {Q : VK} (h : SeqI H a xs) (q : ∀ (H' : Hp) (p : Addr), Same H H' → TupI H' p xs → Q (.ref p) H') : rTupOf K [.ref a] H Q := by
  rcases h with h | h
  · exact ⟨a, _, rfl, .inl ⟨.of h, fun p hp => q _ p (same_new hp) upd_same⟩⟩
  · exact ⟨a, _, rfl, .inr ⟨.of h, q H a (Same.refl H) h⟩⟩
/-- x + y of tuples -/
theorem catq {K : PySem.W.Frag} {H : Hp} {a b : Addr} {xs ys : List Int} {Q : VK} (h : TupI H a xs) (g : TupI H b ys) (hl : xs.length + ys.length ≤ 1000000) (q : ∀ (H' : Hp) (p : Addr), Same H H' → TupI H' p (xs ++ ys) → Q (.ref p) H') : rCatA K (.ref a) (.ref b) H Q := by
  refine ⟨a, b, _, _, rfl, rfl, .of h, .of g, ?_, fun z => ?_, fun _ z => ?_, fun _ _ p hp => ?_⟩
  · rw [List.length_map, List.length_map]
    exact Nat.le_trans hl (by decide)
  · have e : xs = [] := List.map_eq_nil_iff.mp z
    refine q H b (Same.refl H) ?_
    rw [e]
    exact g
  · have e : ys = [] := List.map_eq_nil_iff.mp z
    refine q H a (Same.refl H) ?_
    rw [e, List.append_nil]
    exact h
  · refine q _ p (same_new hp) ?_
    unfold TupI
    rw [upd_same, List.map_append]
/-- a slice of a list -/
theorem sll_from {K : PySem.W.Frag} {H : Hp} {a : Addr} {xs : List Int} {k : Int} {n : Nat} {Q : VK} (h : H a = some (.lst (xs.map V.int))) (ek : k = (n : Int)) (hn : n ≤ xs.length)
    (q : ∀ p, H p = none → Q (.ref p) (upd H p (.lst ((xs.drop n).map V.int)))) : rSlL K (.ref a) (some k) none H Q := by
  subst ek
  refine ⟨a, _, rfl, .of h, fun p hp => ?_⟩
  rw [cut_map, cut_from xs hn]
  exact q p hp
theorem sll_to {K : PySem.W.Frag} {H : Hp} {a : Addr} {xs : List Int} {k : Int} {n : Nat} {Q : VK} (h : H a = some (.lst (xs.map V.int))) (ek : k = (n : Int))
    (q : ∀ p, H p = none → Q (.ref p) (upd H p (.lst ((xs.take n).map V.int)))) : rSlL K (.ref a) none (some k) H Q := by
  subst ek
  refine ⟨a, _, rfl, .of h, fun p hp => ?_⟩
  rw [cut_map, cut_to xs n]
  exact q p hp
/-! == of data -/
theorem eqvAll_int : ∀ xs ys : List Int, PyData.eqvAll (xs.map PyData.int) (ys.map PyData.int) = decide (xs = ys)
  | [], [] => by simp [PyData.eqvAll]
  | [], y :: ys => by simp [PyData.eqvAll]
  | x :: xs, [] => by simp [PyData.eqvAll]
  | x :: xs, y :: ys => by
    rw [List.map_cons, List.map_cons, PyData.eqvAll, eqvAll_int xs ys, PyData.eqv]
    by_cases c : x = y
    · by_cases d : xs = ys
      · simp [c, d]
      · simp [c, d]
    · simp [c]
theorem eqv_tup (xs ys : List Int) : PyData.eqv (.tuple (xs.map PyData.int)) (.tuple (ys.map PyData.int)) = decide (xs = ys) := by
  rw [PyData.eqv]
  exact eqvAll_int xs ys
theorem eqv_lst (xs ys : List Int) : PyData.eqv (.list (xs.map PyData.int)) (.list (ys.map PyData.int)) = decide (xs = ys) := by
  rw [PyData.eqv]
  exact eqvAll_int xs ys
theorem layAll : ∀ xs : List Int, PyData.canLayAll0 (xs.map PyData.int) = true
  | [] => rfl
  | x :: xs => by
    rw [List.map_cons, PyData.canLayAll0, layAll xs]
    rfl
theorem depAll : ∀ xs : List Int, PyData.depthAll (xs.map PyData.int) = 0
  | [] => by simp [PyData.depthAll]
  | x :: xs => by
    rw [List.map_cons, PyData.depthAll, depAll xs]
    simp [PyData.depth]
theorem shaped_tup (xs : List Int) : SeqAt.shaped (.tuple (xs.map PyData.int)) = true := by
  unfold SeqAt.shaped
  rw [PyData.canLay0, layAll, PyData.depth, depAll]
  rfl
theorem shaped_lst (xs : List Int) : SeqAt.shaped (.list (xs.map PyData.int)) = true := by
  unfold SeqAt.shaped
  rw [PyData.canLay0, layAll, PyData.depth, depAll]
  rfl
theorem dpAll_int {K : PySem.W.Frag} {H : Hp} : ∀ xs : List Int, DpAll K H (xs.map V.int) (xs.map PyData.int)
  | [] => .nil
  | x :: xs => .cons (.int x) (dpAll_int xs)
theorem dp_lst {K : PySem.W.Frag} {H : Hp} {a : Addr} {xs : List Int} (h : H a = some (.lst (xs.map V.int))) : Dp K H (.ref a) (.list (xs.map PyData.int)) := .lst (.of h) (dpAll_int xs)
theorem dp_tup {K : PySem.W.Frag} {H : Hp} {a : Addr} {xs : List Int} (h : TupI H a xs) : Dp K H (.ref a) (.tuple (xs.map PyData.int)) := .tup (.of h) (dpAll_int xs)
theorem ite_ne {x y : Int} {A B : Prop} (h1 : x ≠ y → A) (h2 : x = y → B) : if (!decide (V.int x = V.int y)) = true then A else B := by
  by_cases c : x = y
  · rw [c, decide_eq_true rfl]
    exact iteF (h2 c)
  · rw [decide_eq_false (fun z => c (V.int.inj z))]
    exact iteT (h1 c)
theorem ite_eq {x y : Int} {A B : Prop} (h1 : x = y → A) (h2 : x ≠ y → B) : if decide (V.int x = V.int y) = true then A else B := by
  by_cases c : x = y
  · rw [c, decide_eq_true rfl]
    exact iteT (h1 c)
  · rw [decide_eq_false (fun z => c (V.int.inj z))]
    exact iteF (h2 c)
theorem ite_lt {x y : Int} {A B : Prop} (h1 : x < y → A) (h2 : y ≤ x → B) : if decide (x < y) = true then A else B := by
  by_cases c : x < y
  · rw [decide_eq_true c]
    exact iteT (h1 c)
  · rw [decide_eq_false c]
    exact iteF (h2 (by omega))
/-! ### the letters of a word -/
def wat (h l : List Int) (t : Nat) : Int := if t < h.length then h.getD t 0 else l.getD ((t - h.length) % l.length) 0
theorem wat_head {h l : List Int} {t : Nat} (c : t < h.length) : (h.map V.int)[t]? = some (.int (wat h l t)) := by
  unfold wat
  rw [if_pos c, List.getElem?_map, List.getElem?_eq_getElem c, List.getD_eq_getElem?_getD, List.getElem?_eq_getElem c]
  rfl
theorem wat_loop {h l : List Int} {t : Nat} (c : ¬ t < h.length) (n : l ≠ []) : (l.map V.int)[(t - h.length) % l.length]? = some (.int (wat h l t)) := by
  have hl : 0 < l.length := List.length_pos_iff.mpr n
  have c2 : (t - h.length) % l.length < l.length := Nat.mod_lt _ hl
  unfold wat
  rw [if_neg c, List.getElem?_map, List.getElem?_eq_getElem c2, List.getD_eq_getElem?_getD, List.getElem?_eq_getElem c2]
  rfl
theorem ix_mod {t n m : Nat} (h : n ≤ t) : ((t : Int) - (n : Int)) % (m : Int) = (((t - n) % m : Nat) : Int) := by
  have e : ((t : Int) - (n : Int)) = ((t - n : Nat) : Int) := by omega
  rw [e]
  rfl
/-! ### promises of the helpers -/
def spTake : Sp := fun vs H Q _ => ∃ (d : Addr) (n : Int), vs = [.ref d, .int n] ∧ Drw H d ∧ 0 < n ∧
  ∀ (r : Int) (ds : List Int), 0 ≤ r → r < n → Q (.int r) (upd H d (.lst (ds.map V.int)))
def spDraws (K : PySem.W.Frag) : Sp := fun vs H Q _ => ∃ (a : Addr) (ns : List Int) (c : Nat), vs = [.ref a, .int c] ∧ SqL K H a (ns.map V.int) ∧ c ≤ 1000 ∧
  ∀ (H' : Hp) (d : Addr), Same H H' → H d = none → Drw H' d → Q (.ref d) H'
def spAt : Sp := fun vs H Q _ => ∃ (p : Addr) (h l : List Int) (t : Nat), vs = [.ref p, .int t] ∧ Pr H p h l ∧ l ≠ [] ∧ Q (.int (wat h l t)) H
def spLasso : Sp := fun vs H Q _ => ∃ (d : Addr) (n : Int) (m : Nat), vs = [.ref d, .int n, .int m] ∧ Drw H d ∧ 0 < n ∧ 0 < m ∧ m ≤ 1000 ∧
  ∀ (H' : Hp) (p : Addr) (h l : List Int), Kp d H H' → Drw H' d → Las H' p h l → h.length ≤ m → l ≠ [] → l.length ≤ m → (∀ x ∈ h, 0 ≤ x ∧ x < n) → (∀ x ∈ l, 0 ≤ x ∧ x < n) → Q (.ref p) H'
/-- v says where f and g first differ below n -/
def IsDiff (f g : Nat → Int) (n : Nat) (v : V) : Prop := (v = .non ∧ ∀ t < n, f t = g t) ∨ ∃ t, t < n ∧ v = .int (t : Nat) ∧ f t ≠ g t ∧ ∀ s < t, f s = g s
theorem IsDiff.uniq {f g : Nat → Int} {n : Nat} {v u : V} (a : IsDiff f g n v) (b : IsDiff f g n u) : v = u := by
  rcases a with ⟨rfl, a⟩ | ⟨t, ht, rfl, a1, a2⟩
  · rcases b with ⟨rfl, b⟩ | ⟨s, hs, rfl, b1, b2⟩
    · rfl
    · exact absurd (a s hs) b1
  · rcases b with ⟨rfl, b⟩ | ⟨s, hs, rfl, b1, b2⟩
    · exact absurd (b t ht) a1
    · rcases Nat.lt_trichotomy t s with c | c | c
      · exact absurd (b2 t c) a1
      · rw [c]
      · exact absurd (a2 s c) b1
theorem IsDiff.swap {f g : Nat → Int} {n : Nat} {v : V} (a : IsDiff f g n v) : IsDiff g f n v := by
  rcases a with ⟨rfl, a⟩ | ⟨t, ht, rfl, a1, a2⟩
  · exact .inl ⟨rfl, fun t h => (a t h).symm⟩
  · exact .inr ⟨t, ht, rfl, a1.symm, fun s h => (a2 s h).symm⟩
def dfn (h1 l1 h2 l2 : List Int) : Nat := max h1.length h2.length + l1.length + l2.length
def spFd : Sp := fun vs H Q _ => ∃ (p q : Addr) (h1 l1 h2 l2 : List Int), vs = [.ref p, .ref q] ∧ Las H p h1 l1 ∧ Las H q h2 l2 ∧ l1 ≠ [] ∧ l2 ≠ [] ∧ dfn h1 l1 h2 l2 ≤ 1000000 ∧
  ∀ v, IsDiff (wat h1 l1) (wat h2 l2) (dfn h1 l1 h2 l2) v → Q v H
theorem max_if (a b : Nat) : (if ((b : Nat) : Int) > (a : Int) then (b : Int) else (a : Int)) = ((max a b : Nat) : Int) := by
  by_cases h : ((b : Nat) : Int) > (a : Int)
  · rw [if_pos h]
    omega
  · rw [if_neg h]
    omega
/-- the letters of a list, by places -/
def lw (l : List Int) : Nat → Int := fun i => l.getD i 0
def spPeriod : Sp := fun vs H Q _ => ∃ (a : Addr) (l : List Int), vs = [.ref a] ∧ SeqI H a l ∧ l ≠ [] ∧ l.length ≤ 1000000 ∧
  ∀ (H' : Hp) (r : Nat), Same H H' → Wd.Least (lw l) l.length r → Q (.int r) H'
/-- the normal form (h', l') of (h, l) -/
structure Short (h l h' l' : List Int) : Prop where
  ne : l' ≠ []
  same : ∀ t, wat h' l' t = wat h l t
  hl : h'.length ≤ h.length
  ll : l'.length ≤ l.length
  last : h' ≠ [] → h'.getLast? ≠ l'.getLast?
  prim : ∀ p, 0 < p → p < l'.length → p ∣ l'.length → ∃ i, i + p < l'.length ∧ lw l' i ≠ lw l' (i + p)
  memH : ∀ x ∈ h', x ∈ h
  memL : ∀ x ∈ l', x ∈ l
/-- the letter of the repeated word at any whole number of turns from where it begins -/
def bk (l : List Int) (r : Nat) (z : Int) : Int := lw l ((z % (r : Int)).toNat)
def rot (l : List Int) (r c : Nat) : List Int := (l.drop c).take (r - c) ++ l.take c
theorem rot_len {l : List Int} {r c : Nat} (hc : c < r) (hr : r ≤ l.length) : (rot l r c).length = r := by
  unfold rot
  rw [List.length_append, List.length_take, List.length_drop, List.length_take]
  omega
theorem lw_get {l : List Int} {i : Nat} (h : i < l.length) : l[i]? = some (lw l i) := by
  unfold lw
  rw [List.getD_eq_getElem?_getD, List.getElem?_eq_getElem h]
  rfl
theorem lw_of {l : List Int} {i : Nat} {x : Int} (h : l[i]? = some x) : lw l i = x := by
  unfold lw
  rw [List.getD_eq_getElem?_getD, h]
  rfl
theorem rot_at {l : List Int} {r c j : Nat} (hc : c < r) (hr : r ≤ l.length) (hj : j < r) : lw (rot l r c) j = lw l ((j + c) % r) := by
  apply lw_of
  unfold rot
  have e1 : ((l.drop c).take (r - c)).length = r - c := by
    rw [List.length_take, List.length_drop]
    omega
  rcases Nat.lt_or_ge j (r - c) with h | h
  · rw [List.getElem?_append_left (by rw [e1]; exact h), List.getElem?_take, if_pos h, List.getElem?_drop, Nat.mod_eq_of_lt (by omega), Nat.add_comm c j]
    exact lw_get (by omega)
  · rw [List.getElem?_append_right (by rw [e1]; exact h), e1, List.getElem?_take, if_pos (by omega)]
    have e2 : (j + c) % r = j - (r - c) := by
      rw [Nat.mod_eq_sub_mod (by omega), Nat.mod_eq_of_lt (by omega)]
      omega
    rw [e2]
    exact lw_get (by omega)
theorem bk_shift {l : List Int} {r : Nat} {a b z : Int} (h : a = b + r * z) : bk l r a = bk l r b := by
  unfold bk
  rw [h, Int.add_mul_emod_self_left]
theorem bk_nat {l : List Int} {r t : Nat} : bk l r (t : Int) = lw l (t % r) := rfl
theorem least_le {w : Nat → Int} {n r : Nat} (hn : 0 < n) (L : Wd.Least w n r) : r ≤ n := Nat.le_of_dvd hn L.dvd
/-- the letters of l repeated, by the least repetition -/
theorem cyc_least {l : List Int} {r : Nat} (hn : 0 < l.length) (L : Wd.Least (lw l) l.length r) (i : Nat) : lw l (i % l.length) = bk l r (i : Int) := by
  have h1 : Wd.cyc (lw l) l.length i = Wd.cyc (lw l) l.length (i % r) := L.rp.mod
  have h2 : Wd.cyc (lw l) l.length (i % r) = lw l (i % r) := Wd.cyc_lt (Nat.lt_of_lt_of_le (Nat.mod_lt _ L.pos) (least_le hn L))
  rw [bk_nat, ← h2, ← h1]
  rfl
theorem cut_lt {r : Nat} (hr : 0 < r) (z : Int) : (z % (r : Int)).toNat < r := by
  have h1 := Int.emod_nonneg z (show (r : Int) ≠ 0 by omega)
  have h2 := Int.emod_lt_of_pos z (show (0 : Int) < (r : Int) by omega)
  omega
theorem cut_int {r : Nat} (hr : 0 < r) (z : Int) : (((z % (r : Int)).toNat : Nat) : Int) = z - r * (z / r) := by
  have h1 := Int.emod_nonneg z (show (r : Int) ≠ 0 by omega)
  rw [Int.toNat_of_nonneg h1, Int.emod_def]
theorem rot_bk {l : List Int} {r : Nat} (hr0 : 0 < r) (hr : r ≤ l.length) (z : Int) (j : Nat) : lw (rot l r (z % (r : Int)).toNat) (j % r) = bk l r ((j : Int) + z) := by
  rw [rot_at (cut_lt hr0 z) hr (Nat.mod_lt _ hr0), Nat.mod_add_mod]
  have h : bk l r (((j + (z % (r : Int)).toNat : Nat)) : Int) = bk l r ((j : Int) + z) := bk_shift (z := -(z / r)) (by
    rw [Int.natCast_add, cut_int hr0, Int.mul_neg]
    omega)
  rw [← h]
  rfl
theorem short_of {h l : List Int} {r k : Nat} (hne : l ≠ []) (L : Wd.Least (lw l) l.length r) (hk : k ≤ h.length)
    (hB : ∀ t, k ≤ t → t < h.length → lw h t = bk l r ((t : Int) - (h.length : Int))) (hX : k = 0 ∨ lw h (k - 1) ≠ bk l r ((k : Int) - 1 - (h.length : Int))) :
    Short h l (h.take k) (rot l r (((k : Int) - (h.length : Int)) % (r : Int)).toNat) := by
  have hn : 0 < l.length := List.length_pos_iff.mpr hne
  have hr0 := L.pos
  have hr := least_le hn L
  have hlen := rot_len (cut_lt hr0 ((k : Int) - (h.length : Int))) hr
  have htk : (h.take k).length = k := by
    rw [List.length_take]
    omega
  refine ⟨fun z => ?_, fun t => ?_, by rw [htk]; exact hk, by rw [hlen]; exact hr, fun hh => ?_, fun p hp hpl hpd => ?_, fun x hx => List.mem_of_mem_take hx, fun x hx => ?_⟩
  · rw [z] at hlen
    have : (0 : Nat) = r := hlen
    omega
  · unfold wat
    rw [htk, hlen]
    by_cases c : t < k
    · rw [if_pos c, if_pos (by omega), List.getD_eq_getElem?_getD, List.getD_eq_getElem?_getD, List.getElem?_take, if_pos c]
    · rw [if_neg c]
      have e1 := rot_bk (l := l) hr0 hr ((k : Int) - (h.length : Int)) (t - k)
      have e2 : ((t - k : Nat) : Int) + ((k : Int) - (h.length : Int)) = (t : Int) - (h.length : Int) := by omega
      rw [e2] at e1
      show lw _ _ = _
      rw [e1]
      by_cases d : t < h.length
      · rw [if_pos d]
        exact (hB t (by omega) d).symm
      · rw [if_neg d]
        have e3 : (t : Int) - (h.length : Int) = ((t - h.length : Nat) : Int) := by omega
        rw [e3]
        exact (cyc_least hn L _).symm
  · have hk0 : k ≠ 0 := fun z => hh (by rw [z]; rfl)
    rcases hX with z | z
    · exact absurd z hk0
    · rw [List.getLast?_eq_getElem?, List.getLast?_eq_getElem?, htk, hlen]
      rw [List.getElem?_take, if_pos (by omega), lw_get (show k - 1 < h.length by omega), lw_get (show r - 1 < (rot l r _).length by rw [hlen]; omega)]
      intro q
      refine z ?_
      rw [Option.some.inj q]
      have e1 := rot_bk (l := l) hr0 hr ((k : Int) - (h.length : Int)) (r - 1)
      rw [Nat.mod_eq_of_lt (show r - 1 < r by omega)] at e1
      rw [e1]
      exact bk_shift (z := 1) (by omega)
  · rw [hlen] at hpl hpd ⊢
    apply Classical.byContradiction
    intro hno
    have hall : ∀ i, i + p < r → lw (rot l r (((k : Int) - (h.length : Int)) % (r : Int)).toNat) i = lw (rot l r (((k : Int) - (h.length : Int)) % (r : Int)).toNat) (i + p) := fun i hi =>
      Classical.byContradiction fun q => hno ⟨i, hi, q⟩
    have hrp := Wd.rp_of hp hpd hr0 hall
    have key : ∀ i, Wd.cyc (lw l) l.length i = Wd.cyc (lw (rot l r (((k : Int) - (h.length : Int)) % (r : Int)).toNat)) r (i + (r - (((k : Int) - (h.length : Int)) % (r : Int)).toNat)) := by
      intro i
      have hc := cut_lt hr0 ((k : Int) - (h.length : Int))
      have a1 : Wd.cyc (lw l) l.length i = bk l r (i : Int) := cyc_least hn L i
      have a2 := rot_at hc hr (Nat.mod_lt (i + (r - (((k : Int) - (h.length : Int)) % (r : Int)).toNat)) hr0)
      rw [a1]
      show _ = lw _ (_ % r)
      rw [a2, Nat.mod_add_mod, show i + (r - (((k : Int) - (h.length : Int)) % (r : Int)).toNat) + (((k : Int) - (h.length : Int)) % (r : Int)).toNat = i + r by omega, Nat.add_mod_right]
      rfl
    have hR : Wd.Rp (lw l) l.length p := fun i => by
      rw [key, key, Nat.add_right_comm]
      exact hrp _
    have := L.min p hp (Nat.dvd_trans hpd L.dvd) hR
    omega
  · unfold rot at hx
    rcases List.mem_append.mp hx with z | z
    · exact List.mem_of_mem_drop (List.mem_of_mem_take z)
    · exact List.mem_of_mem_take z
theorem rp_mod {w : Nat → Int} {n p q : Nat} (hp : Wd.Rp w n p) (hq : Wd.Rp w n q) : Wd.Rp w n (q % p) := fun i => by
  have a := hp.mul (q / p) (i + q % p)
  rw [Nat.mul_comm, Nat.add_assoc, Nat.mod_add_div] at a
  rw [← a]
  exact hq i
theorem rp_gcd {w : Nat → Int} {n : Nat} (p q : Nat) : Wd.Rp w n p → Wd.Rp w n q → Wd.Rp w n (Nat.gcd p q) := by
  induction p, q using Nat.gcd.induction with
  | H0 q => intro _ hq; rw [Nat.gcd_zero_left]; exact hq
  | H1 p q hp ih => intro h1 h2; rw [Nat.gcd_rec]; exact ih (rp_mod h1 h2) h1
/-- the normal form -/
structure Nrm (h l : List Int) : Prop where
  ne : l ≠ []
  last : h ≠ [] → h.getLast? ≠ l.getLast?
  prim : ∀ p, 0 < p → p < l.length → p ∣ l.length → ∃ i, i + p < l.length ∧ lw l i ≠ lw l (i + p)
theorem Short.nrm {h l h' l' : List Int} (s : Short h l h' l') : Nrm h' l' := ⟨s.ne, s.last, s.prim⟩
theorem Nrm.pos {h l : List Int} (N : Nrm h l) : 0 < l.length := List.length_pos_iff.mpr N.ne
theorem wat_cyc {h l : List Int} {t : Nat} (c : h.length ≤ t) : wat h l t = Wd.cyc (lw l) l.length (t - h.length) := by
  unfold wat
  rw [if_neg (by omega)]
  rfl
/-- every period that the word has from some turn on is a multiple of the loop's length -/
theorem Nrm.dvd {h l : List Int} (N : Nrm h l) {p M : Nat} (hP : ∀ t, M ≤ t → wat h l (t + p) = wat h l t) : l.length ∣ p := by
  have hr := N.pos
  have hRp : Wd.Rp (lw l) l.length p := fun i => by
    have self := Wd.rp_self (lw l) l.length
    have e1 := self.mul M i
    have e2 := self.mul M (i + p)
    have hM : M ≤ M * l.length := Nat.le_mul_of_pos_right M hr
    have q := hP (h.length + (i + M * l.length)) (by omega)
    rw [wat_cyc (by omega), wat_cyc (by omega)] at q
    rw [show h.length + (i + M * l.length) + p - h.length = i + p + M * l.length by omega, show h.length + (i + M * l.length) - h.length = i + M * l.length by omega, e1, e2] at q
    exact q
  have hg := rp_gcd p l.length hRp (Wd.rp_self (lw l) l.length)
  have gd : Nat.gcd p l.length ∣ l.length := Nat.gcd_dvd_right p l.length
  have gp : 0 < Nat.gcd p l.length := Nat.gcd_pos_of_pos_right p hr
  have gl := Nat.le_of_dvd hr gd
  rcases Nat.lt_or_ge (Nat.gcd p l.length) l.length with c | c
  · obtain ⟨i, hi, hne⟩ := N.prim _ gp c gd
    refine absurd ?_ hne
    have := hg i
    rw [Wd.cyc_lt hi, Wd.cyc_lt (by omega)] at this
    exact this.symm
  · have e : Nat.gcd p l.length = l.length := by omega
    rw [← e]
    exact Nat.gcd_dvd_left p l.length
theorem wat_per {h l : List Int} {t : Nat} (c : h.length ≤ t) : wat h l (t + l.length) = wat h l t := by
  rw [wat_cyc c, wat_cyc (by omega), show t + l.length - h.length = (t - h.length) + l.length by omega]
  exact Wd.rp_self (lw l) l.length _
theorem last_at {l : List Int} (n : l ≠ []) : l.getLast? = some (lw l (l.length - 1)) := by
  have := List.length_pos_iff.mpr n
  rw [List.getLast?_eq_getElem?]
  exact lw_get (by omega)
theorem Nrm.head_le {h l g m : List Int} (N : Nrm h l) (hs : ∀ t, wat h l t = wat g m t) (e : l.length = m.length) : h.length ≤ g.length := by
  rcases Nat.lt_or_ge g.length h.length with c | c
  · exfalso
    have hne : h ≠ [] := List.length_pos_iff.mp (by omega)
    refine N.last hne ?_
    rw [last_at hne, last_at N.ne]
    congr 1
    have hp := N.pos
    have a1 : wat h l (h.length - 1) = lw h (h.length - 1) := by
      unfold wat
      rw [if_pos (by omega)]
      rfl
    have a2 : wat h l (h.length - 1 + l.length) = lw l (l.length - 1) := by
      rw [wat_cyc (by omega), show h.length - 1 + l.length - h.length = l.length - 1 by omega, Wd.cyc_lt (by omega)]
    rw [← a1, ← a2, hs, hs, e]
    exact (wat_per (by omega)).symm
  · exact c
theorem Nrm.uniq {h l g m : List Int} (N : Nrm h l) (M : Nrm g m) (hs : ∀ t, wat h l t = wat g m t) : h = g ∧ l = m := by
  have d1 : l.length ∣ m.length := N.dvd (M := g.length) fun t ht => by
    rw [hs, hs]
    exact wat_per ht
  have d2 : m.length ∣ l.length := M.dvd (M := h.length) fun t ht => by
    rw [← hs, ← hs]
    exact wat_per ht
  have e : l.length = m.length := Nat.dvd_antisymm d1 d2
  have e2 : h.length = g.length := Nat.le_antisymm (N.head_le hs e) (M.head_le (fun t => (hs t).symm) e.symm)
  refine ⟨List.ext_getElem e2 fun i h1 h2 => ?_, List.ext_getElem e fun i h1 h2 => ?_⟩
  · have := hs i
    unfold wat at this
    rw [if_pos h1, if_pos h2, List.getD_eq_getElem?_getD, List.getD_eq_getElem?_getD, List.getElem?_eq_getElem h1, List.getElem?_eq_getElem h2] at this
    exact this
  · have := hs (h.length + i)
    rw [wat_cyc (by omega), wat_cyc (by omega), show h.length + i - h.length = i by omega, show h.length + i - g.length = i by omega, Wd.cyc_lt h1, Wd.cyc_lt h2] at this
    have a1 := lw_get h1
    have a2 := lw_get h2
    rw [List.getElem?_eq_getElem h1] at a1
    rw [List.getElem?_eq_getElem h2] at a2
    rw [Option.some.inj a1, Option.some.inj a2, this]
theorem at_last {l : List Int} (n : l ≠ []) : atI (l.map V.int) (-1) = some (.int (lw l (l.length - 1))) := by
  have hp := List.length_pos_iff.mpr n
  have e : l.map V.int = (l.dropLast.map V.int) ++ [.int (l.getLast n)] := by
    rw [← List.map_singleton, ← List.map_append, List.dropLast_concat_getLast]
  rw [e, atI_last]
  have q := last_at n
  rw [List.getLast?_eq_getLast n] at q
  rw [Option.some.inj q]
/-! repetition of a text -/
theorem flat_at {w : List Int} : ∀ (k i : Nat), i < k * w.length → (List.replicate k w).flatten[i]? = w[i % w.length]?
  | 0, i, h => by
    rw [Nat.zero_mul] at h
    exact absurd h (Nat.not_lt_zero i)
  | k + 1, i, h => by
    rw [List.replicate_succ, List.flatten_cons]
    rcases Nat.lt_or_ge i w.length with c | c
    · rw [List.getElem?_append_left c, Nat.mod_eq_of_lt c]
    · rw [List.getElem?_append_right c, flat_at k (i - w.length) (by rw [Nat.succ_mul] at h; omega), ← Nat.mod_eq_sub_mod c]
theorem flat_per {l : List Int} {p k : Nat} (hp : 0 < p) (hpl : p ≤ l.length) (e : l = (List.replicate k (l.take p)).flatten) (hk : k * p = l.length) : ∀ i, i + p < l.length → lw l i = lw l (i + p) := by
  intro i hi
  have el : (l.take p).length = p := by
    rw [List.length_take]
    omega
  have at_ : ∀ j, j < l.length → l[j]? = (l.take p)[j % p]? := fun j hj => by
    have h0 := flat_at (w := l.take p) k j (by rw [el, hk]; exact hj)
    rw [← e, el] at h0
    exact h0
  have h1 := at_ i (by omega)
  have h2 := at_ (i + p) hi
  rw [Nat.add_mod_right, ← h1, lw_get hi, lw_get (show i < l.length by omega)] at h2
  exact (Option.some.inj h2).symm
def spShort : Sp := fun vs H Q _ => ∃ (a b : Addr) (h l : List Int), vs = [.ref a, .ref b] ∧ SeqI H a h ∧ SeqI H b l ∧ l ≠ [] ∧ h.length ≤ 100000 ∧ l.length ≤ 100000 ∧
  ∀ (H' : Hp) (p : Addr) (h' l' : List Int), Same H H' → Las H' p h' l' → Short h l h' l' → Q (.ref p) H'
/-- what suffix hands back -/
def Suf (h l : List Int) (t : Nat) (h' l' : List Int) : Prop := Nrm h' l' ∧ (∀ i, wat h' l' i = wat h l (t + i)) ∧ h'.length ≤ h.length ∧ l'.length ≤ l.length ∧ (∀ x ∈ h', x ∈ h ∨ x ∈ l) ∧ ∀ x ∈ l', x ∈ l
def spSuffix : Sp := fun vs H Q _ => ∃ (p : Addr) (h l : List Int) (t : Nat), vs = [.ref p, .int t] ∧ Las H p h l ∧ l ≠ [] ∧ h.length ≤ 50000 ∧ l.length ≤ 50000 ∧
  ∀ (H' : Hp) (p' : Addr) (h' l' : List Int), Same H H' → Las H' p' h' l' → Suf h l t h' l' → Q (.ref p') H'
def spMake : Sp := fun vs H Q _ => ∃ (a b : Addr) (h l : List Int), vs = [.ref a, .ref b] ∧ H a = some (.lst (h.map V.int)) ∧ H b = some (.lst (l.map V.int)) ∧ l ≠ [] ∧ h.length ≤ 100000 ∧ l.length ≤ 100000 ∧ (∀ x ∈ h, 0 ≤ x) ∧ (∀ x ∈ l, 0 ≤ x) ∧
  ∀ (H' : Hp) (p : Addr) (h' l' : List Int), Same H H' → Las H' p h' l' → Short h l h' l' → Q (.ref p) H'
theorem suf_drop {h l : List Int} {t : Nat} (c : t < h.length) (i : Nat) : wat (h.drop t) l i = wat h l (t + i) := by
  unfold wat
  rw [List.length_drop]
  by_cases d : t + i < h.length
  · rw [if_pos d, if_pos (by omega), List.getD_eq_getElem?_getD, List.getD_eq_getElem?_getD, List.getElem?_drop]
  · rw [if_neg d, if_neg (by omega), show t + i - h.length = i - (h.length - t) by omega]
theorem suf_turn {h l : List Int} {t : Nat} (hn : l ≠ []) (c : h.length ≤ t) (i : Nat) : wat [] (l.drop ((t - h.length) % l.length) ++ l.take ((t - h.length) % l.length)) i = wat h l (t + i) := by
  have hp : 0 < l.length := List.length_pos_iff.mpr hn
  have hc := Nat.mod_lt (t - h.length) hp
  have e : l.drop ((t - h.length) % l.length) ++ l.take ((t - h.length) % l.length) = rot l l.length ((t - h.length) % l.length) := by
    have e3 : (l.drop ((t - h.length) % l.length)).take (l.length - (t - h.length) % l.length) = l.drop ((t - h.length) % l.length) := List.take_of_length_le (by rw [List.length_drop]; exact Nat.le_refl _)
    unfold rot
    rw [e3]
  rw [e, wat_cyc (Nat.zero_le _), wat_cyc (show h.length ≤ t + i by omega), rot_len hc (Nat.le_refl _)]
  show lw _ (_ % _) = lw _ (_ % _)
  rw [rot_at hc (Nat.le_refl _) (Nat.mod_lt _ hp), Nat.mod_add_mod, Nat.add_mod_mod]
  congr 2
  show i - 0 + _ = _
  omega
def spInts : Sp := fun vs H Q _ => ∃ (a : Addr) (xs : List Int) (lo hi : Int), vs = [.ref a, .int lo, .int hi] ∧ TupI H a xs ∧ (∀ x ∈ xs, lo ≤ x ∧ x < hi) ∧ Q (.bl true) H
def spNormal : Sp := fun vs H Q _ => ∃ (p : Addr) (h l : List Int), vs = [.ref p] ∧ Las H p h l ∧ Nrm h l ∧ l.length ≤ 1000 ∧ ∀ H', Same H H' → Q (.bl true) H'
def spIsLasso : Sp := fun vs H Q _ => ∃ (p : Addr) (h l : List Int) (n : Int), vs = [.ref p, .int n] ∧ Las H p h l ∧ Nrm h l ∧ l.length ≤ 1000 ∧ (∀ x ∈ h, 0 ≤ x ∧ x < n) ∧ (∀ x ∈ l, 0 ≤ x ∧ x < n) ∧ ∀ H', Same H H' → Q (.bl true) H'
/-! the same word in other forms -/
theorem wat_mem {h l : List Int} (n : l ≠ []) (t : Nat) : wat h l t ∈ h ∨ wat h l t ∈ l := by
  have hl : 0 < l.length := List.length_pos_iff.mpr n
  unfold wat
  by_cases c : t < h.length
  · rw [if_pos c, List.getD_eq_getElem?_getD, List.getElem?_eq_getElem c]
    exact .inl (List.getElem_mem c)
  · have c2 := Nat.mod_lt (t - h.length) hl
    rw [if_neg c, List.getD_eq_getElem?_getD, List.getElem?_eq_getElem c2]
    exact .inr (List.getElem_mem c2)
theorem range_getD {f : Nat → Int} {n t : Nat} (c : t < n) : ((List.range n).map f).getD t 0 = f t := by
  rw [List.getD_eq_getElem?_getD, List.getElem?_map, List.getElem?_range c]
  rfl
theorem wat_form {h l : List Int} {m k : Nat} (n : l ≠ []) (hk : 0 < k) (t : Nat) :
    wat ((List.range (h.length + m)).map (wat h l)) ((List.range (k * l.length)).map fun t => wat h l (h.length + m + t)) t = wat h l t := by
  have hl : 0 < l.length := List.length_pos_iff.mpr n
  have hkl : 0 < k * l.length := Nat.mul_pos hk hl
  rw [show wat ((List.range (h.length + m)).map (wat h l)) ((List.range (k * l.length)).map fun t => wat h l (h.length + m + t)) t
      = if t < ((List.range (h.length + m)).map (wat h l)).length then ((List.range (h.length + m)).map (wat h l)).getD t 0 else ((List.range (k * l.length)).map fun t => wat h l (h.length + m + t)).getD ((t - ((List.range (h.length + m)).map (wat h l)).length) % ((List.range (k * l.length)).map fun t => wat h l (h.length + m + t)).length) 0 from rfl]
  rw [List.length_map, List.length_range, List.length_map, List.length_range]
  by_cases c : t < h.length + m
  · rw [if_pos c, range_getD c]
  · rw [if_neg c, range_getD (Nat.mod_lt _ hkl), wat_cyc (by omega), wat_cyc (by omega)]
    show lw l (_ % _) = lw l (_ % _)
    congr 1
    have e1 : h.length + m + (t - (h.length + m)) % (k * l.length) - h.length = m + (t - (h.length + m)) % (k * l.length) := by omega
    have e2 : t - h.length = m + (t - (h.length + m)) := by omega
    rw [e1, e2, ← Nat.add_mod_mod, Nat.mod_mod_of_dvd _ ⟨k, Nat.mul_comm k l.length⟩, Nat.add_mod_mod]
theorem wat_front (f h l : List Int) (i : Nat) : wat (f ++ h) l (f.length + i) = wat h l i := by
  unfold wat
  rw [List.length_append]
  by_cases c : i < h.length
  · rw [if_pos c, if_pos (by omega), List.getD_eq_getElem?_getD, List.getD_eq_getElem?_getD, List.getElem?_append_right (by omega), Nat.add_sub_cancel_left]
  · rw [if_neg c, if_neg (by omega), show f.length + i - (f.length + h.length) = i - h.length by omega]
def dLas (h l : List Int) : PyData := .tuple [.tuple (h.map PyData.int), .tuple (l.map PyData.int)]
theorem dp_las {K : PySem.W.Frag} {H : Hp} {p : Addr} {h l : List Int} (x : Las H p h l) : Dp K H (.ref p) (dLas h l) := by
  obtain ⟨a, b, e1, e2, e3⟩ := x
  exact .tup (.of e1) (.cons (dp_tup e2) (.cons (dp_tup e3) .nil))
theorem shaped_las (h l : List Int) : SeqAt.shaped (dLas h l) = true := by
  unfold SeqAt.shaped dLas
  rw [PyData.canLay0, PyData.canLayAll0, PyData.canLayAll0, PyData.canLayAll0, PyData.canLay0, layAll, PyData.canLay0, layAll, PyData.depth, PyData.depthAll, PyData.depthAll, PyData.depthAll, PyData.depth, depAll, PyData.depth, depAll]
  rfl
theorem eqv_las (h l : List Int) : PyData.eqv (dLas h l) (dLas h l) = true := by
  unfold dLas
  rw [PyData.eqv, PyData.eqvAll, PyData.eqvAll, PyData.eqvAll, eqv_tup, eqv_tup]
  simp
def spCell (K : PySem.W.Frag) : Sp := fun vs H Q _ => ∃ (a : Addr) (ns : List Int) (k : Nat), vs = [.ref a, .int k] ∧ SqL K H a (ns.map V.int) ∧ ∀ v : Int, Q (.int v) H
def spNegX (C : Addr) : Sp := fun vs H _ E => ∃ (p : Addr) (t : Int), vs = [.ref p, .int t] ∧ t < 0 ∧ E (.ref C) none H
def spRefuses : Sp := fun vs H Q _ => ∃ (p : Addr) (t : Int), vs = [.ref p, .int t] ∧ t < 0 ∧ Q (.bl true) H
def spSame : Sp := fun vs H Q _ => ∃ (p q : Addr) (h l h2 l2 : List Int), vs = [.ref p, .ref q] ∧ Pr H p h l ∧ Pr H q h2 l2 ∧ l ≠ [] ∧ l2 ≠ [] ∧ dfn h l h2 l2 ≤ 1000000 ∧ (∀ t, wat h l t = wat h2 l2 t) ∧ Q (.bl true) H
def spMakeX (cE cL : Addr) : Sp := fun vs H Q E => ∃ (a b : Addr) (h l : List Int), vs = [.ref a, .ref b] ∧ H a = some (.lst (h.map V.int)) ∧ H b = some (.lst (l.map V.int)) ∧ h.length ≤ 100000 ∧ l.length ≤ 100000 ∧
  (l = [] → E (.ref cE) none H) ∧ (l ≠ [] → (∃ x, (x ∈ h ∨ x ∈ l) ∧ x < 0) → E (.ref cL) none H) ∧
  (l ≠ [] → (∀ x, x ∈ h ∨ x ∈ l → 0 ≤ x) → ∀ (H' : Hp) (p : Addr) (h' l' : List Int), Same H H' → Las H' p h' l' → Short h l h' l' → Q (.ref p) H')
def spOut : Sp := fun vs H Q _ => ∃ (a b : Addr) (h l : List Int), vs = [.ref a, .ref b] ∧ H a = some (.lst (h.map V.int)) ∧ H b = some (.lst (l.map V.int)) ∧ h.length ≤ 100000 ∧ l.length ≤ 100000 ∧
  (l = [] → ∀ (H' : Hp) (p : Addr), Same H H' → H' p = some (.tup [.str "empty", .bl true]) → Q (.ref p) H') ∧
  (l ≠ [] → (∃ x, (x ∈ h ∨ x ∈ l) ∧ x < 0) → ∀ (H' : Hp) (p : Addr), Same H H' → H' p = some (.tup [.str "letter", .bl true]) → Q (.ref p) H') ∧
  (l ≠ [] → (∀ x, x ∈ h ∨ x ∈ l → 0 ≤ x) → ∀ (H' : Hp) (p q : Addr) (h' l' : List Int), Same H H' → H' p = some (.tup [.str "lasso", .ref q]) → Las H' q h' l' → Short h l h' l' → Q (.ref p) H')
theorem neg_cases (h l : List Int) : (∃ x, (x ∈ h ∨ x ∈ l) ∧ x < 0) ∨ ∀ x, x ∈ h ∨ x ∈ l → 0 ≤ x := by
  by_cases c : ∃ x, (x ∈ h ∨ x ∈ l) ∧ x < 0
  · exact .inl c
  · exact .inr fun x hx => by
      rcases Int.lt_or_le x 0 with z | z
      · exact absurd ⟨x, hx, z⟩ c
      · exact z
def spIsInt : Sp := fun vs H Q _ => ∃ (i : Int), vs = [.int i] ∧ Q (.bl true) H
end Bx
/-! ### own errors, two levels below ValueError -/
namespace Bx
open PySem PySem.Spec PyProof.Rows L2
abbrev veB : List Value := [.type "ValueError", .type "Exception", .type "BaseException", .type "object"]
structure ErrC (K : PySem.W.Frag) (mg : Str → Option Value) (x : Str) (C : Addr) : Prop where
  g : mg x = some (.ref C)
  ex : PySem.W.excIn K C veB "ValueError.__new__" = true
  kp : PySem.W.keepIn K (.ref C) = true
  ty : PySem.W.typeIn K (.ref C) = some (.type "type")
  sf : PySem.W.subIn K (.ref C) (.ref C) = some true
  ec : ExcC K C
theorem ErrC.exm {K : PySem.W.Frag} {mg : Str → Option Value} {x : Str} {C : Addr} {cls : Value} {b : Bool} (e : ErrC K mg x C) (h : PySem.W.subIn K cls (.ref C) = some b) : PySem.W.exmOne K cls (.ref C) = some b := PySem.W.exm_ref e.ec.hs e.ec.hd e.ty h
theorem ErrC.me {K : PySem.W.Frag} {mg : Str → Option Value} {x : Str} {C : Addr} (e : ErrC K mg x C) : PySem.W.exmOne K (.ref C) (.ref C) = some true := e.exm e.sf
/-- raise X('..') -/
theorem ErrC.made {X : Cx} {C : Addr} {x m : Str} {j : Nat} {p p2 pos : Pos} (e : ErrC X.K X.mg x C) (hg : Gl X x) (hd : (x == ("__debug__" : Str)) = false := by decide) : PMk X (.Call (.Name x p) [.Constant (.str m) j p2] [] pos) (fun _ H Q => Q (.ref C) none H) :=
  pmk_own PySem.F.excBase_ValueError e.ex e.g e.kp (raises_own e.ec.hs e.ty) hg hd
/-- isinstance(e, c), e the exception that the suite holds -/
def rIsEx (K : PySem.W.Frag) (a : Addr) (cls : Value) (d : Option Addr) : List V → Hp → VK → Prop := fun xs H Q => ∃ D : Addr, cls = .ref D ∧ d = none ∧ ExcC K D ∧ rIsE K D a xs H Q
theorem call_isEx {X : Cx} {K : PySem.W.Frag} {a : Addr} {cls : Value} {d : Option Addr} {oe : Obj} {pn : List (Addr × Obj)} (h : X.K = K) (hz : Zc cls d oe) (hf : ∃ vs, oe.data = .fields vs) : CallR (X.suite a ((a, oe) :: pn)) (.builtin "isinstance") (rIsEx K a cls d) := by
  subst h
  intro pins s σ H xs us Q I r hw
  obtain ⟨D, rfl, rfl, C, hw⟩ := hw
  exact call_isE C hz hf pins s σ H xs us Q I r hw
/-- a def that may raise, by its name -/
structure CalX (P : Program) (w : World) (K : PySem.W.Frag) (mg : Str → Option Value) (base : Heap) (k : Nat) (x : Str) (sp : Sp) : Prop where
  ex : ∃ (f : Addr) (fd : FuncData) (ps : List Str), FnOk P w K mg base (L2.CX P w) k f fd ps sp ∧ mg x = some (.ref f) ∧ PySem.W.keepIn K (.ref f) = true ∧ Binds K fd ps []
theorem pe_cx {X : Cx} {k j : Nat} {x : Str} {sp : Sp} {W : WX} {p pos : Pos} {e : Expr} {es : List Expr} {t : TA} (c : CalX X.prog X.w X.K X.mg X.base k x sp) (hr : Room j X.A) (hk : k ≤ j) (tk : Takes X W) (hg : Gl X x) (ha : PA X (e :: es) t)
    (hdb : (x == ("__debug__" : Str)) = false := by decide) (he : starEach (e :: es) X.env = (false, eval e X.env) :: starEach es X.env := by rfl) (hpl : (backTo pos (starEach es X.env)).any (·.1) = false := by rfl) :
    PE X (.Call (.Name x p) (e :: es) [] pos) (tCallS sp (WE W) t) := by
  obtain ⟨f, fd, ps, F, hm, kp, b⟩ := c.ex
  exact pe_callS F (hr.mono hk) hg hm kp b (fun σ => passAt tk σ) ha hdb he hpl
end Bx
/-! ### several clauses, each with its name: own rule -/
namespace Bx
open PySem PySem.Spec PyProof.Rows L2
/-- what the clauses wish, one after the other: (class, the name's slot, the suite's reading) -/
def wAll (K : PySem.W.Frag) (Wo : WX) (D : Ends) : List (Value × Nat × (Addr → Value → Option Addr → TS)) → WX
  | [] => Wo
  | (c, i, ts) :: r => fun cls d σ H => ∃ b, PySem.W.exmOne K cls c = some b ∧
    (b = true → ∀ a, H a = none → ts a cls d { nx := fun σ' H' => D.nx (σ'.set i none) H', rt := D.rt, bk := fun σ' H' => D.bk (σ'.set i none) H', ct := fun σ' H' => D.ct (σ'.set i none) H' } (σ.set i (some (.ref a))) H) ∧
    (b = false → wAll K Wo D r cls d σ H)
inductive Clauses (Y : Cx) : List ExceptHandler → List (Value × Nat × (Addr → Value → Option Addr → TS)) → Prop
  | nil : Clauses Y [] []
  | cons {x n : Str} {c : Value} {i : Nat} {ts : Addr → Value → Option Addr → TS} {b0 : Stmt} {suite : List Stmt} {p p' : Pos} {cs : List ExceptHandler} {l : List (Value × Nat × (Addr → Value → Option Addr → TS))}
      (hc : Names Y x c) (hi : Y.N[i]? = some n) (hl : Y.env.kindOf n = some .local)
      (su : ∀ (a : Addr) (oe : Obj) (cls : Value) (d : Option Addr) (pn : List (Addr × Obj)), Zc cls d oe → (∃ vs, oe.data = .fields vs) → PSs (Y.suite a ((a, oe) :: pn)) (b0 :: suite) (ts a cls d)) (r : Clauses Y cs l) :
      Clauses Y (.ExceptHandler (some (.Name x p)) (some n) (b0 :: suite) p' :: cs) ((c, i, ts) :: l)
theorem ps_try_all {Y : Cx} {body : List Stmt} {c0 : ExceptHandler} {cs : List ExceptHandler} {l : List (Value × Nat × (Addr → Value → Option Addr → TS))} {pos : Pos} {tb : WX → TS} {Wo : WX}
    (ks : Y.stack = Y.env :: Y.outer) (kf : Y.env.frame = some Y.env.locals) (kN : Y.N.Nodup) (tk : Takes Y Wo)
    (kb : ∀ (W : WX) (pn : List (Addr × Obj)) (xe : Value → Shared → Prop), Takes (Y.tr pn xe) W → PassesOwn (model Y.prog Y.w) Y.A Y.env xe → PSs (Y.tr pn xe) body (tb W))
    (kh : Clauses Y (c0 :: cs) l) : PS Y (.Try body (c0 :: cs) [] [] pos) (fun D σ H => tb (wAll Y.K Wo D l) D σ H) := by
  refine ⟨fun pins u σ H D I hw => ?_⟩
  have okY := I.ok
  have fr := okY.frames
  rw [ks] at fr
  refine wpAny_Try_except ?_
  refine wpAny_mono ((kb (wAll Y.K Wo D l) (Y.pn ++ pins) (fun e u1 => wpAny (model Y.prog Y.w) Y.A (noteFrame e Y.env) (fun _ u2 => wpAny (model Y.prog Y.w) Y.A (setFlight e none) (fun _ u3 =>
    wpAny (model Y.prog Y.w) Y.A (handleBy e Y.env (c0 :: cs)) (SP Y pins D) Y.xe u3) Y.xe u2) Y.xe u1) (fun v g xx => ?_) PassesOwn.looking).run [] u σ H D (I.toTry _) hw) (fun f u1 q => ?_) (fun e u1 q => q)
  · obtain ⟨a, B, sI, pins1, σ1, H1, cls, d, rfl, Jt, nb, up, sk, na, os, ag, w⟩ := xx
    have J : Inv Y pins σ1 H1 sI := Jt.ofTry okY
    have sk1 : Sky B (Y.env :: Y.outer) a (Zc cls d) Y.env.locals g.heap := by rw [← ks]; exact sk
    show wpAny (model Y.prog Y.w) Y.A (noteFrame (.ref a) Y.env) _ _ _
    refine Sky.land Zc.steady fr kf sk1 fun g3 f3 u3 => ?_
    have I3 : Inv Y pins σ1 H1 { g with heap := g3 } := J.landed nb f3.1 (up.trans u3) os ag
    obtain ⟨o3, w3, at3, z3, dt3⟩ := f3.there
    have apart : ∀ {t : Heap} {o : Obj} {vs : Array Value}, t.FunFrames B (Y.env :: Y.outer) → t.get? a = some o → o.data = .fields vs → a ∉ frs (Y.env :: Y.outer) := fun {t o vs} ff e dd hm => by
      obtain ⟨_, o2, e2, q2⟩ := ff.mem hm
      rw [e] at e2
      cases e2
      exact q2 _ dd
    have n0 := apart f3.2.2.1 at3 dt3
    have nL : a ≠ Y.env.locals := fun z => n0 (List.mem_filterMap.mpr ⟨Y.env, List.mem_cons_self, by rw [kf, z]⟩)
    have nF : a ∉ Y.fs := fun hm => by
      obtain ⟨e, he, q⟩ := List.mem_filterMap.mp hm
      exact n0 (List.mem_filterMap.mpr ⟨e, List.mem_cons_of_mem _ he, q⟩)
    have T3 := I3.suite at3 dt3 na nL nF
    have all : ∀ {cs2 : List ExceptHandler} {l2 : List (Value × Nat × (Addr → Value → Option Addr → TS))}, Clauses Y cs2 l2 → wAll Y.K Wo D l2 cls d σ1 H1 →
        wpAny (model Y.prog Y.w) Y.A (handleBy (.ref a) Y.env cs2) (SP Y pins D) Y.xe { g with heap := g3 } := by
      intro cs2 l2 hk
      induction hk with
      | nil =>
        intro w
        refine wpAny_handleBy_nil ?_
        obtain ⟨_, _, _, oe, vs, T, oT, t2, he, hz, hd, h1, _⟩ := id f3
        unfold PySem.passOn
        refine wpAny_bind (wpAny_field he hd h1 ?_)
        rw [if_neg (show ¬ ((Value.ref T == Value.none) = true) from by simp)]
        have away : wpAny (model Y.prog Y.w) Y.A (setFlight (.ref a) Y.env.frame) (fun _ u4 => wpAny (model Y.prog Y.w) Y.A (throw (.ref a) : Sem Flow) (SP Y pins D) Y.xe u4) Y.xe { g with heap := g3 } := by
          rw [kf]
          refine HandSPX.setFlight_upZ f3 fun g4 q4 u4 => wpAny_throw (tk _ _ ?_)
          exact ⟨a, B, sI, pins, σ1, H1, cls, d, rfl, J, nb, (up.trans u3).trans u4, .inr (.inr (by rw [ks]; exact q4)), na, os, ag, w⟩
        first
          | exact wpAny_bind (wpAny_pure (wpAny_bind away))
          | exact wpAny_bind away
      | @cons x n c i ts b0 suite p p' cs3 l3 hc hi hl su r ih =>
        intro w
        obtain ⟨b, e1, yes, no⟩ := w
        refine wpAny_handleBy_cons (codeAny_handlers_test ?_) (by intro q; cases q)
        have LT : PySem.W.Looks (model Y.prog Y.w) g3 (typeOf (.ref a)) cls := fun A Q E s k q => wpAny_typeOf_ref (k _ _ at3) (by rw [z3.1]; exact q)
        have LM := PySem.W.exm_one (M := model Y.prog Y.w) (I3.kIn) LT e1
        have test : ∀ {Q : Value → Shared → Prop} {E : Value → Shared → Prop}, Q c { g with heap := g3 } → wpAny (model Y.prog Y.w) (Y.A.mark (some (.ref a))) (eval (.Name x p) Y.env) Q E { g with heap := g3 } := fun {Q E} q => by
          obtain ⟨hg, hdb, hm | ⟨hm, hv, hnn⟩⟩ := hc
          · exact ld_glob (X := Y.suite a ((a, o3) :: (Y.pn ++ pins))) T3 hg hm q hdb
          · exact ld_blt (X := Y.suite a ((a, o3) :: (Y.pn ++ pins))) T3 hg hm hv q hnn hdb
        refine test (LM.here ?_)
        cases b with
        | true =>
          refine codeAny_handlers_suite_as ?_
          refine HandSPX.lands_againZ f3 fun g4 f4 u4 => ?_
          have I4 : Inv Y pins σ1 H1 { g with heap := g4 } := J.landed nb f4.1 ((up.trans u3).trans u4) os ag
          obtain ⟨o4, w4, at4, z4, dt4⟩ := f4.there
          have T4 := I4.suite at4 dt4 na nL nF
          refine store_ok (X := Y.suite a ((a, o4) :: (Y.pn ++ pins))) (v := .ref a) T4 kN hi (.inl hl) rfl (fun u5 T5 => ?_) (.inr hl)
          refine wpAny_mono ((su a o4 cls d (Y.pn ++ pins) z4 ⟨_, dt4⟩).run [] u5 _ H1 _ T5 (yes rfl a na)) (fun f u6 q => ?_) (fun _ _ z => False.elim z)
          have fin : ∀ {σ6 : L2.St} {H6 : Hp} {Q : Shared → Prop}, Inv (Y.suite a ((a, o4) :: (Y.pn ++ pins))) [] σ6 H6 u6 → (∀ u7, Inv Y pins (σ6.set i none) H6 u7 → Q u7) →
              wpAny (model Y.prog Y.w) Y.A (do bindName Y.env n .none; unbindBehindTheSuite Y.env n p') (fun _ u7 => Q u7) Y.xe u6 := fun {σ6 H6 Q} T6 hq => gone_ok (T6.unsuite okY) kN hi hl hq
          cases f with
          | next =>
            obtain ⟨_, _, T6, q6⟩ := q
            exact fin T6 fun _ I7 => ⟨_, _, I7, q6⟩
          | brk =>
            obtain ⟨_, _, T6, q6⟩ := q
            exact fin T6 fun _ I7 => ⟨_, _, I7, q6⟩
          | cont =>
            obtain ⟨_, _, T6, q6⟩ := q
            exact fin T6 fun _ I7 => ⟨_, _, I7, q6⟩
          | ret v =>
            obtain ⟨_, _, _, T6, r6, q6⟩ := q
            exact fin T6 fun _ I7 => ⟨_, _, _, I7, r6, q6⟩
        | false =>
          show wpAny _ Y.A (handleBy (.ref a) Y.env cs3) _ _ _
          exact ih (no rfl)
    exact all kh w
  · cases f with
    | next =>
      obtain ⟨_, _, J1, q1⟩ := q
      exact wpAny_execs_nil ⟨_, _, J1.ofTry okY, q1⟩
    | brk =>
      obtain ⟨_, _, J1, q1⟩ := q
      exact ⟨_, _, J1.ofTry okY, q1⟩
    | cont =>
      obtain ⟨_, _, J1, q1⟩ := q
      exact ⟨_, _, J1.ofTry okY, q1⟩
    | ret v =>
      obtain ⟨_, _, _, J1, r1, q1⟩ := q
      exact ⟨_, _, _, J1.ofTry okY, r1, q1⟩
end Bx
/-! ### max of a tuple of ints, lcm: own rules -/
namespace MaxT
open PySem PySem.W PyProof.Rows
section
variable {prog : Program} {w : World} {A : Around} {E : Value → Shared → Prop} {s : Shared}
theorem walkT {l : Addr} {xs : Array (Int × Tok)} {Q : Value → Shared → Prop} (hh : A.handled = none) (ht : s.heap.IsTuple l (intItems xs)) (hne : 0 < xs.size)
    (h : ∀ v g tk, (intItems xs)[argBest (fun i j => decide (numAt xs i > numAt xs j)) (xs.size - 1)]? = some v → (∀ b o, s.heap.get? b = some o → g.get? b = some o) → Q v { s with heap := g, toks := tk }) :
    wpAny (model prog w) A (call (.builtin "max") [.ref l]) Q E s := by
  have ll : l < s.heap.objs.size := by
    obtain ⟨_, e, _⟩ := ht
    exact Heap.lt_size e
  refine call_max_walk (wpAny_pyIter_tuple ht ?_)
  refine ⟨_, _, _, _, _, _, _, rfl, Walks.tuple (A := A.in1) hh _ l (Nat.ne_of_lt ll) (intItems xs), ⟨⟨_, Heap.get?_push_size _ rfl, rfl, rfl⟩, ht.push _⟩, fun c hc => ?_, by simpa [intItems] using hne, CmpOf.ints_gt (numAt xs) (fun _ _ => intItems_at), fun v g tk hP hk => ?_⟩
  · show c < (s.heap.push _).objs.size
    rw [Heap.size_push]
    rcases List.mem_cons.mp hc with rfl | hc
    · exact Nat.lt_succ_self _
    · rcases List.mem_cons.mp hc with rfl | hc
      · exact Nat.lt_succ_of_lt ll
      · cases hc
  · refine h v g tk (by simpa [intItems] using hP) fun b o e => hk b o (fun hm => ?_) (Heap.get?_push_of_some _ e)
    have e1 : b = s.heap.objs.size := List.mem_singleton.mp hm
    rw [e1] at e
    exact absurd (Heap.lt_size e) (Nat.lt_irrefl _)
theorem rawT {l : Addr} {its : List Value} {ns : List Int} {Q : Value → Shared → Prop} (hh : A.handled = none) (hl : IsTup s.heap l its.toArray) (hi : IntsAre its ns) (hne : ns ≠ [])
    (h : ∀ (g : Heap) (tk : Nat) (m : Int) (t' : Tok), (∀ b o, s.heap.get? b = some o → g.get? b = some o) → m ∈ ns → (∀ y ∈ ns, y ≤ m) → Q (.int m t') { s with heap := g, toks := tk }) :
    wpAny (model prog w) A (call (.builtin "max") [.ref l]) Q E s := by
  obtain ⟨xs, e⟩ := hi.allInts.items
  have hn : numsOf (intItems xs).toList = ns := by rw [← e]; exact hi.numsOf
  rw [PySem.nums_intItems] at hn
  subst hn
  rw [e] at hl
  have c : 0 < xs.size := by
    rcases Nat.eq_zero_or_pos xs.size with z | z
    · refine absurd ?_ hne
      have : xs = #[] := Array.eq_empty_of_size_eq_zero z
      rw [this]
      rfl
    · exact z
  refine walkT hh hl c fun v g tk p1 keep => ?_
  obtain ⟨u, rfl⟩ := intItems_at p1
  obtain ⟨a1, a2⟩ := argBest_gt (numAt xs) (xs.size - 1)
  refine h g tk _ u keep ?_ fun y hy => ?_
  · rw [PySem.numAt_eq]
    refine PySem.getD_mem ?_
    rw [List.length_map, Array.length_toList]
    exact Nat.lt_of_le_of_lt a1 (by omega)
  · obtain ⟨j, hj, rfl⟩ := PySem.mem_getD hy
    rw [List.length_map, Array.length_toList] at hj
    rw [← PySem.numAt_eq]
    exact a2 j (by omega)
end
end MaxT
namespace Bx
open PySem PySem.Spec PyProof.Rows L2
def rMaxT (K : PySem.W.Frag) : List V → Hp → VK → Prop := fun xs H Q => ∃ (a : Addr) (ns : List Int), xs = [.ref a] ∧ SqT K H a (ns.map V.int) ∧ ns ≠ [] ∧ ∀ m, m ∈ ns → (∀ y ∈ ns, y ≤ m) → Q (.int m) H
theorem call_maxT {X : Cx} {K : PySem.W.Frag} (h : X.K = K) (hc : X.calm = true) : CallR X (.builtin "max") (rMaxT K) := by
  subst h
  intro pins s σ H xs us Q I r hw
  obtain ⟨a, ns, rfl, hs, hne, q⟩ := hw
  obtain ⟨its, rv, ht, _⟩ := I.tuple hs
  rw [Vals.ref1 r]
  exact MaxT.rawT (I.ok.hd hc) ht rv.ints hne fun g tk m t' hk h1 h2 => ⟨.int m, H, I.kept hk, ⟨_, rfl⟩, q m h1 h2⟩
theorem call_maxK {X : Cx} {K : PySem.W.Frag} (h : X.K = K) (hc : X.calm = true) : CallR X (.builtin "max") (rMax K) := by
  subst h
  exact cr_max hc
def spCheckX (cL : Addr) : Sp := fun vs H Q E => ∃ (p : Addr) (h l : List Int) (n : Int), vs = [.ref p, .int n] ∧ Las H p h l ∧ l ≠ [] ∧ h.length ≤ 1000 ∧ l.length ≤ 1000 ∧
  ((∃ x, (x ∈ h ∨ x ∈ l) ∧ n ≤ x) → ∀ H', Same H H' → E (.ref cL) none H') ∧ ((∀ x, x ∈ h ∨ x ∈ l → x < n) → ∀ H', Same H H' → Q .non H')
end Bx
/-! ### lists of lists, instances made in a try: own rules -/
namespace Bx
open PySem PySem.Spec PyProof.Rows L2
section
variable {X : Cx}
theorem pi_or {tg iter : Expr} {w1 w2 : TI} (h1 : PI X tg iter w1) (h2 : PI X tg iter w2) : PI X tg iter (fun σ H R => w1 σ H R ∨ w2 σ H R) := ⟨fun pins s σ H R I h => by
  rcases h with h | h
  · exact h1.run pins s σ H R I h
  · exact h2.run pins s σ H R I h⟩
theorem passF {P : Program} {w : World} : Passes (L2.CX P w) X (fun _ _ _ => False) := fun _ _ _ _ _ _ _ h => by
  obtain ⟨_, _, _, _, _, _, _, _, _, _, _, _, z⟩ := h
  exact z.elim
/-- a new instance of an own class whose __init__ may raise -/
structure MakX (P : Program) (w : World) (K : PySem.W.Frag) (mg : Str → Option Value) (base : Heap) (k : Nat) (x : Str) (C : Addr) (sp : Sp) : Prop where
  ex : ∃ (f : Addr) (fd : FuncData) (ps : List Str), Mk K C f ∧ FnOk P w K mg base (L2.CX P w) k f fd ps sp ∧ mg x = some (.ref C) ∧ Binds K fd ps []
def tMakX (C : Addr) (sp : Sp) (E : L2.St → XK) (t : TA) : TE := fun σ H Q => t σ H fun vs H1 => ∀ x dx, H1 x = none → H1 dx = none → dx ≠ x → sp (.ref x :: vs) (upd (upd H1 dx (.own x)) x (.ins C dx [])) (fun v H2 => v = .non ∧ Q (.ref x) H2) (E σ)
theorem made_at {k : Nat} {f C : Addr} {fd : FuncData} {ps : List Str} {sp : Sp} {E : XK} {pins : List (Addr × Obj)} {σ : L2.St} {H : Hp} {u : Shared} {Q : VK} {us : List Value} {vs : List V} (M : Mk X.K C f) (F : FnOk X.prog X.w X.K X.mg X.base (L2.CX X.prog X.w) k f fd ps sp) (hr : Room (k + 1) X.A) (hb : Binds X.K fd ps [])
    (hx : PassesAt (L2.CX X.prog X.w) X σ E) (I : Inv X pins σ H u) (r : Vals vs us)
    (h : ∀ x dx, H x = none → H dx = none → dx ≠ x → sp (.ref x :: vs) (upd (upd H dx (.own x)) x (.ins C dx [])) (fun v H2 => v = .non ∧ Q (.ref x) H2) E) :
    wpAny (model X.prog X.w) X.A (call (.ref C) us) (EP X pins σ Q) X.xe u := by
  have q0 := h (u.heap.objs.size + 1) u.heap.objs.size (I.hok.fresh (Nat.le_succ _)) (I.hok.fresh (Nat.le_refl _)) (Nat.ne_of_lt (Nat.lt_succ_self _))
  have J := Inv.made (C := C) I
  have r2 : Vals (V.ref (u.heap.objs.size + 1) :: vs) (Value.ref (u.heap.objs.size + 1) :: us) := .cons rfl r
  have hl : (Value.ref (u.heap.objs.size + 1) :: us ++ []).length = ps.length := by
    have e := r2.length
    rw [F.len _ _ _ _ q0] at e
    rw [List.append_nil]
    exact e.symm
  refine wpAny_call (make_map (f := f) I.kIn M.makes M.init (beq_iff_eq.mp M.fn) (codeAny_mono (F.run _ X.stack _ _ ⟨Value.ref (u.heap.objs.size + 1) :: us, []⟩ (Value.ref (u.heap.objs.size + 1) :: us) _ _ E (hr.make C us [])
    (J.env0.make C us []) (by have q := hb _ (Value.ref (u.heap.objs.size + 1) :: us) J.kIn hl; rw [List.append_nil] at q; exact q) r2 q0) fun r u' hq => ?_))
  cases r with
  | error e => exact hx pins _ _ e u' J hq
  | ok fl =>
    cases fl with
    | ret v =>
      obtain ⟨y, G, J3, ry, ey, qy⟩ := J.after hq
      subst ey
      exact ⟨ry, ⟨V.ref (u.heap.objs.size + 1), G, J3, rfl, qy⟩⟩
    | next => exact False.elim hq
    | brk => exact False.elim hq
    | cont => exact False.elim hq
theorem pe_makeX {k j : Nat} {C : Addr} {x : Str} {sp : Sp} {W : WX} {p pos : Pos} {e : Expr} {es : List Expr} {t : TA} (c : MakX X.prog X.w X.K X.mg X.base k x C sp) (hr : Room j X.A) (hk : k + 1 ≤ j) (tk : Takes X W) (hg : Gl X x) (ha : PA X (e :: es) t)
    (hdb : (x == ("__debug__" : Str)) = false := by decide) (he : starEach (e :: es) X.env = (false, eval e X.env) :: starEach es X.env := by rfl) (hpl : (backTo pos (starEach es X.env)).any (·.1) = false := by rfl) :
    PE X (.Call (.Name x p) (e :: es) [] pos) (tMakX C sp (WE W) t) := by
  obtain ⟨f, fd, ps, M, F, hm, b⟩ := c.ex
  refine ⟨fun pins u σ H Q I hw => ?_⟩
  refine wpAny_Call_Name_kw (ld_glob I hg hm ?_ hdb)
  refine PySem.W.callWith_K (h₀ := X.base) I.ok.mod.kin M.kp (thn (ha.run pos pins u σ H _ I hw) fun us u1 ⟨vs, H1, I1, rv, qv⟩ => ⟨I1.kIn, ?_⟩) he hpl
  exact made_at M F (hr.mono hk) b (passAt tk σ) I1 rv qv
theorem pe_makeN {k j : Nat} {C : Addr} {x : Str} {sp : Sp} {p pos : Pos} {e : Expr} {es : List Expr} {t : TA} (c : MakX X.prog X.w X.K X.mg X.base k x C sp) (hr : Room j X.A) (hk : k + 1 ≤ j) (hg : Gl X x) (ha : PA X (e :: es) t)
    (hdb : (x == ("__debug__" : Str)) = false := by decide) (he : starEach (e :: es) X.env = (false, eval e X.env) :: starEach es X.env := by rfl) (hpl : (backTo pos (starEach es X.env)).any (·.1) = false := by rfl) :
    PE X (.Call (.Name x p) (e :: es) [] pos) (tMakX C sp (fun _ => fun _ _ _ => False) t) := by
  obtain ⟨f, fd, ps, M, F, hm, b⟩ := c.ex
  refine ⟨fun pins u σ H Q I hw => ?_⟩
  refine wpAny_Call_Name_kw (ld_glob I hg hm ?_ hdb)
  refine PySem.W.callWith_K (h₀ := X.base) I.ok.mod.kin M.kp (thn (ha.run pos pins u σ H _ I hw) fun us u1 ⟨vs, H1, I1, rv, qv⟩ => ⟨I1.kIn, ?_⟩) he hpl
  exact made_at M F (hr.mono hk) b (fun pins G v e v' J q => passF pins σ G v e v' J q) I1 rv qv
end
/-! rows of ints -/
def RowsA (mk : List V → HO) (H : Hp) : List Addr → List (List Int) → Prop
  | [], [] => True
  | a :: as, r :: rs => H a = some (mk (r.map V.int)) ∧ RowsA mk H as rs
  | _, _ => False
def RowsQ (H : Hp) : List Addr → List (List Int) → Prop
  | [], [] => True
  | a :: as, r :: rs => SeqI H a r ∧ RowsQ H as rs
  | _, _ => False
theorem RowsA.keep {mk : List V → HO} {H H' : Hp} : ∀ {as : List Addr} {rs : List (List Int)}, (∀ b o, b ∈ as → H b = some o → H' b = some o) → RowsA mk H as rs → RowsA mk H' as rs
  | [], [], _, _ => True.intro
  | a :: as, r :: rs, k, h => ⟨k a _ List.mem_cons_self h.1, RowsA.keep (fun b o hb => k b o (List.mem_cons_of_mem _ hb)) h.2⟩
  | [], _ :: _, _, h => h.elim
  | _ :: _, [], _, h => h.elim
theorem RowsA.same {mk : List V → HO} {H H' : Hp} {as : List Addr} {rs : List (List Int)} (k : Same H H') (h : RowsA mk H as rs) : RowsA mk H' as rs := h.keep fun b o _ e => k b o e
theorem RowsA.len {mk : List V → HO} {H : Hp} : ∀ {as : List Addr} {rs : List (List Int)}, RowsA mk H as rs → as.length = rs.length
  | [], [], _ => rfl
  | a :: as, r :: rs, h => congrArg (· + 1) h.2.len
  | [], _ :: _, h => h.elim
  | _ :: _, [], h => h.elim
theorem RowsA.snoc {mk : List V → HO} {H : Hp} {a : Addr} {r : List Int} (ha : H a = some (mk (r.map V.int))) : ∀ {as : List Addr} {rs : List (List Int)}, RowsA mk H as rs → RowsA mk H (as ++ [a]) (rs ++ [r])
  | [], [], _ => ⟨ha, True.intro⟩
  | b :: as, q :: rs, h => ⟨h.1, h.2.snoc ha⟩
  | [], _ :: _, h => h.elim
  | _ :: _, [], h => h.elim
theorem RowsA.get {mk : List V → HO} {H : Hp} : ∀ {as : List Addr} {rs : List (List Int)} {i : Nat} {a : Addr}, RowsA mk H as rs → as[i]? = some a → ∃ r, rs[i]? = some r ∧ H a = some (mk (r.map V.int))
  | [], _, _, _, _, e => by simp at e
  | b :: as, [], _, _, h, _ => h.elim
  | b :: as, q :: rs, 0, a, h, e => by
    have : b = a := Option.some.inj e
    subst this
    exact ⟨q, rfl, h.1⟩
  | b :: as, q :: rs, i + 1, a, h, e => RowsA.get (i := i) h.2 e
theorem RowsA.q1 {H : Hp} : ∀ {as : List Addr} {rs : List (List Int)}, RowsA .lst H as rs → RowsQ H as rs
  | [], [], _ => True.intro
  | a :: as, r :: rs, h => ⟨.inl h.1, h.2.q1⟩
  | [], _ :: _, h => h.elim
  | _ :: _, [], h => h.elim
theorem RowsA.q2 {H : Hp} : ∀ {as : List Addr} {rs : List (List Int)}, RowsA .tup H as rs → RowsQ H as rs
  | [], [], _ => True.intro
  | a :: as, r :: rs, h => ⟨.inr h.1, h.2.q2⟩
  | [], _ :: _, h => h.elim
  | _ :: _, [], h => h.elim
theorem RowsQ.same {H H' : Hp} (k : Same H H') : ∀ {as : List Addr} {rs : List (List Int)}, RowsQ H as rs → RowsQ H' as rs
  | [], [], _ => True.intro
  | a :: as, r :: rs, h => ⟨h.1.same k, h.2.same k⟩
  | [], _ :: _, h => h.elim
  | _ :: _, [], h => h.elim
theorem RowsQ.len {H : Hp} : ∀ {as : List Addr} {rs : List (List Int)}, RowsQ H as rs → as.length = rs.length
  | [], [], _ => rfl
  | a :: as, r :: rs, h => congrArg (· + 1) h.2.len
  | [], _ :: _, h => h.elim
  | _ :: _, [], h => h.elim
theorem RowsQ.get {H : Hp} : ∀ {as : List Addr} {rs : List (List Int)} {i : Nat} {a : Addr}, RowsQ H as rs → as[i]? = some a → ∃ r, rs[i]? = some r ∧ SeqI H a r
  | [], _, _, _, _, e => by simp at e
  | b :: as, [], _, _, h, _ => h.elim
  | b :: as, q :: rs, 0, a, h, e => by
    have : b = a := Option.some.inj e
    subst this
    exact ⟨q, rfl, h.1⟩
  | b :: as, q :: rs, i + 1, a, h, e => RowsQ.get (i := i) h.2 e
/-- a list or a tuple of any values -/
def SeqV (H : Hp) (a : Addr) (xs : List V) : Prop := H a = some (.lst xs) ∨ H a = some (.tup xs)
theorem SeqV.same {H H' : Hp} {a : Addr} {xs : List V} (k : Same H H') (h : SeqV H a xs) : SeqV H' a xs := by
  rcases h with h | h
  · exact .inl (k _ _ h)
  · exact .inr (k _ _ h)
theorem SeqV.sq {K : PySem.W.Frag} {H : Hp} {a : Addr} {xs : List V} (h : SeqV H a xs) : SqL K H a xs ∨ SqT K H a xs := by
  rcases h with h | h
  · exact .inl (.of h)
  · exact .inr (.of h)
def iSeq (K : PySem.W.Frag) (te : TE) : TI := fun σ H R => iList K te σ H R ∨ iTup K te σ H R
theorem pi_seq {X : Cx} {K : PySem.W.Frag} {tg e : Expr} {te : TE} (h : X.K = K) (he : PE X e te) : PI X tg e (iSeq K te) := by
  subst h
  exact pi_or (pi_list he) (pi_tup he)
theorem for_seq {K : PySem.W.Frag} {i : Nat} {a : Addr} {xs : List V} {g : TG} {tb : TS} {D : Ends} {σ : L2.St} {H : Hp} (hv : σ[i]? = some (some (.ref a))) (hq : SeqV H a xs) (Pv : Nat → L2.St → Hp → Prop) (h0 : Pv 0 σ H) (hS : ∀ i σ' H', Pv i σ' H' → Same H H')
    (hs : ∀ i x σ H, xs[i]? = some x → Pv i σ H → g x σ H fun σ2 H2 => tb { D with nx := Pv (i + 1), ct := Pv (i + 1), bk := D.nx } σ2 H2) (hd : ∀ σ H, Pv xs.length σ H → D.nx σ H) : tFor (iSeq K (tVar i)) g tb D σ H := by
  rcases hq with h | h
  · exact .inl ⟨_, hv, a, rfl, ⟨_, .of h⟩, for_list Pv h0 (fun i σ' H' _ p => .of (hS i σ' H' p _ _ h)) hs hd⟩
  · exact .inr ⟨_, hv, a, rfl, ⟨_, .of h⟩, for_tup Pv h0 (fun i σ' H' _ p => .of (hS i σ' H' p _ _ h)) hs hd⟩
/-- a list of lists of ints -/
def LL (H : Hp) (r : Addr) (as : List Addr) (rows : List (List Int)) : Prop := H r = some (.lst (as.map V.ref)) ∧ RowsA .lst H as rows
def Vld (L s : Int) (ps : List Int) (rows : List (List Int)) : Prop := 1 ≤ L ∧ rows ≠ [] ∧ ps.length = rows.length ∧ (0 ≤ s ∧ s < (rows.length : Int)) ∧ (∀ r ∈ rows, (r.length : Int) = L ∧ ∀ x ∈ r, 0 ≤ x ∧ x < (rows.length : Int)) ∧ ∀ p ∈ ps, 0 ≤ p
/-- the fields of a parity automaton, as they are stored -/
def pf (L s : Int) (pt rt : Addr) : List (Str × V) := putF "rows" (.ref rt) (putF "priorities" (.ref pt) (putF "start" (.int s) (putF "letters" (.int L) [])))
theorem putF_len (f : Str) (v : V) : ∀ fs : List (Str × V), (putF f v fs).length ≤ fs.length + 1
  | [] => Nat.le_refl _
  | (g, x) :: r => by
    unfold putF
    by_cases c : g = f
    · rw [if_pos c]
      exact Nat.le_succ _
    · rw [if_neg c]
      exact Nat.succ_le_succ (putF_len f v r)
theorem pf_L (L s : Int) (pt rt : Addr) : (pf L s pt rt).lookup ("letters" : Str) = some (.int L) := by
  unfold pf
  rw [lookup_putF, if_neg (by decide +kernel), lookup_putF, if_neg (by decide +kernel), lookup_putF, if_neg (by decide +kernel), lookup_putF, if_pos rfl]
theorem pf_s (L s : Int) (pt rt : Addr) : (pf L s pt rt).lookup ("start" : Str) = some (.int s) := by
  unfold pf
  rw [lookup_putF, if_neg (by decide +kernel), lookup_putF, if_neg (by decide +kernel), lookup_putF, if_pos rfl]
theorem pf_p (L s : Int) (pt rt : Addr) : (pf L s pt rt).lookup ("priorities" : Str) = some (.ref pt) := by
  unfold pf
  rw [lookup_putF, if_neg (by decide +kernel), lookup_putF, if_pos rfl]
theorem pf_r (L s : Int) (pt rt : Addr) : (pf L s pt rt).lookup ("rows" : Str) = some (.ref rt) := by
  unfold pf
  rw [lookup_putF, if_pos rfl]
/-- a parity automaton at x -/
def ParAt (C : Addr) (H : Hp) (x : Addr) (L s : Int) (ps : List Int) (rows : List (List Int)) : Prop := ∃ (dx pt rt : Addr) (as : List Addr), H x = some (.ins C dx (pf L s pt rt)) ∧ TupI H pt ps ∧ H rt = some (.tup (as.map V.ref)) ∧ RowsA .tup H as rows
theorem ParAt.same {C : Addr} {H H' : Hp} {x : Addr} {L s : Int} {ps : List Int} {rows : List (List Int)} (k : Same H H') (h : ParAt C H x L s ps rows) : ParAt C H' x L s ps rows := by
  obtain ⟨dx, pt, rt, as, e1, e2, e3, e4⟩ := h
  exact ⟨dx, pt, rt, as, k _ _ e1, k _ _ e2, k _ _ e3, e4.same k⟩
/-- what the class has -/
structure ParC (K : PySem.W.Frag) (C : Addr) : Prop where
  cl : Cls K C
  nL : NoAttr K C "letters"
  nS : NoAttr K C "start"
  nP : NoAttr K C "priorities"
  nR : NoAttr K C "rows"
def spCheckS (cI : Addr) : Sp := fun vs H Q E => ∃ (z n : Int), vs = [.int z, .int n] ∧ (¬ (0 ≤ z ∧ z < n) → E (.ref cI) none H) ∧ ((0 ≤ z ∧ z < n) → Q .non H)
def spInitP (C cI : Addr) : Sp := fun vs H Q E => ∃ (x p r dx : Addr) (L s : Int) (ps : List Int) (as : List Addr) (rows : List (List Int)), vs = [.ref x, .int L, .int s, .ref p, .ref r] ∧ H x = some (.ins C dx []) ∧ H p = some (.lst (ps.map V.int)) ∧ SeqV H r (as.map V.ref) ∧ RowsQ H as rows ∧
  rows.length ≤ 1000 ∧ ps.length ≤ 1000 ∧ (∀ q ∈ rows, q.length ≤ 1000) ∧ (¬ Vld L s ps rows → E (.ref cI) none H) ∧ (Vld L s ps rows → ∀ H', Kp x H H' → ParAt C H' x L s ps rows → Q .non H')
end Bx

/-! ### own rules: a list extended by a tuple; a tuple's slice with a step -/
namespace Tx
open PySem PySem.Spec PyProof.Rows L2
section
variable {prog : Program} {w : World} {A : Around} {E : Value → Shared → Prop} {s : Shared}
set_option maxRecDepth 8000 in
theorem ext_tup (l b : Addr) (xs ys : Array Value) (n m : Nat) (dd : Option Addr) (sl : Array (Option Value)) (h0 : ¬(!xs.isEmpty && Builtin.List.listTooLong (xs.size + ys.size)) = true) (h1 : xs.size ≤ sizeLine) (h2 : xs.size + ys.size ≤ sizeLine + 1) :
    Meets (Builtin.«list.extend» ⟨[.ref l, .ref b], []⟩) (fun _ R s => s.heap.get? l = some { cls := .type "list", data := .seq xs n } ∧ s.heap.get? b = some { cls := .type "tuple", dict := dd, data := .seq ys m, slots := sl } ∧
      R (.ok (.ret Value.none)) { s with heap := s.heap.update l (Obj.mapSeq fun x => x ++ ys), toks := s.toks }) := .of_wp fun prog w A R s h => by
  obtain ⟨hp, g, d, tk, os⟩ := s
  obtain ⟨hl, hb, h⟩ := h
  have q1 := AutoSeq1.idx_int
  have q2 := AutoSeq1.sub_tuple_tuple
  have q3 := AutoSeq1.sub_list_list
  have q4 := AutoSeq1.sub_tuple_list
  have q5 := AutoSeq1.sub_list_tuple
  have hz : (xs ++ ys).size ≤ sizeLine + 1 := by
    rw [Array.size_append]
    exact h2
  wp_walk using (wpAny_updateSeq hl rfl (hz := h1) (_hz' := hz)), AutoSeq1.wpAny_loadPart' hl, AutoSeq1.wpAny_loadPart' hb
  exact ⟨_, rfl, h⟩
end
section
variable {X : Cx} {K : PySem.W.Frag}
def rExtT (K : PySem.W.Frag) : V → List V → Hp → VK → Prop := fun x vs H Q => ∃ l b xs zs, x = .ref l ∧ vs = [.ref b] ∧ H l = some (.lst xs) ∧ SqT K H b zs ∧ xs.length + zs.length ≤ sizeLine ∧ Q .non (upd H l (.lst (xs ++ zs)))
theorem mt_extT (hK : X.K = K) : MtM X "list.extend" (rExtT K) := by
  subst hK
  intro pins s σ H x vs v us Q I rx rv ⟨l, b, xs, zs, ex, ev, hH, hB, hz, q⟩
  subst ex
  subst ev
  cases rx
  obtain ⟨u, rfl, ru⟩ := rv.one
  cases ru
  obtain ⟨z, its, n, r, hl, e⟩ := I.lstM hH
  obtain ⟨its2, r2, ⟨⟨oc, od, ob, os⟩, e2, ec, m, eb⟩, z2⟩ := I.tuple hB
  have hl2 := r2.length
  dsimp only at ec eb
  subst ec
  subst eb
  have hs : its.toArray.size + its2.toArray.size ≤ sizeLine := by
    rw [List.size_toArray, List.size_toArray]
    omega
  refine call_meets F.slot_list_extend ⟨_, e, rfl⟩ F.entry_list_extend (F.args_list_extend_2 _ _) (ext_tup l b its.toArray its2.toArray n m od os (fun c => ?_) (by omega) (by omega)) ⟨e, e2, ?_⟩
  · rw [notLongL hs, Bool.and_false] at c
    cases c
  · refine ⟨.non, _, I.lset (its' := its ++ its2) hH e (by simp) (r.append r2) ?_, rfl, q⟩
    rw [List.length_append]
    omega
/-- the items that a slice with a step picks -/
def pk3 {α : Type} (xs : List α) (lo hi : Option Int) (c : Int) : List α :=
  (List.range (Builtin.Slice.slicePlaces (Builtin.Slice.sliceAdjust lo hi c xs.length).1 (Builtin.Slice.sliceAdjust lo hi c xs.length).2 c)).filterMap fun (k : Nat) => xs[((Builtin.Slice.sliceAdjust lo hi c xs.length).1 + (k : Int) * c).toNat]?
theorem pk3_vals {xs : List V} {us : List Value} (r : Vals xs us) (lo hi : Option Int) (c : Int) : Vals (pk3 xs lo hi c) (pk3 us lo hi c) := by
  unfold pk3
  rw [r.length]
  generalize List.range (Builtin.Slice.slicePlaces (Builtin.Slice.sliceAdjust lo hi c us.length).1 (Builtin.Slice.sliceAdjust lo hi c us.length).2 c) = ks
  generalize (Builtin.Slice.sliceAdjust lo hi c us.length).1 = b
  induction ks with
  | nil => exact .nil
  | cons k ks ih =>
    rw [List.filterMap_cons, List.filterMap_cons]
    cases e : xs[(b + (k : Int) * c).toNat]? with
    | none =>
      have : us[(b + (k : Int) * c).toNat]? = none := by
        rw [List.getElem?_eq_none_iff] at e ⊢
        rw [← r.length]
        exact e
      rw [this]
      exact ih
    | some x =>
      obtain ⟨u, e2, ru⟩ := Vals.get r e
      rw [e2]
      exact .cons ru ih
theorem pk3_len {α : Type} (xs : List α) (lo hi : Option Int) (c : Int) : (pk3 xs lo hi c).length ≤ Builtin.Slice.slicePlaces (Builtin.Slice.sliceAdjust lo hi c xs.length).1 (Builtin.Slice.sliceAdjust lo hi c xs.length).2 c := by
  unfold pk3
  refine Nat.le_trans (List.length_filterMap_le _ _) ?_
  rw [List.length_range]
  exact Nat.le_refl _
end
section
variable {prog : Program} {w : World} {A : Around} {E : Value → Shared → Prop} {s : Shared}
theorem applied3 {sl : Addr} {vl vu vs : Value} {lo hi : Option Int} {c : Int} {n : Nat} {Q : Int × Int × Nat → Shared → Prop} (hs : s.heap.IsSliceOf sl vl vu vs) (pl : IsPart vl lo) (pu : IsPart vu hi) (ps : IsPart vs (some c)) (hc : c ≠ 0)
    (h : Q ((Builtin.Slice.sliceAdjust lo hi c n).1, c, Builtin.Slice.slicePlaces (Builtin.Slice.sliceAdjust lo hi c n).1 (Builtin.Slice.sliceAdjust lo hi c n).2 c) s) :
    wpAny (model prog w) A (Builtin.Slice.sliceApplied (.ref sl) (pure (n : Int))) Q E s := by
  obtain ⟨ob, g1, _, g3⟩ := id hs
  unfold Builtin.Slice.sliceApplied Builtin.Slice.sliceFields
  refine wpAny_bind (wpAny_bind (wpAny_field g1 g3 (x := vl) rfl (wpAny_bind (wpAny_field g1 g3 (x := vu) rfl (wpAny_bind (wpAny_field g1 g3 (x := vs) rfl (wpAny_pure ?_)))))))
  refine wpAny_bind (HT.slicePart_ ps ?_)
  show wpAny _ _ (if (c == 0) = true then _ else _) _ _ s
  rw [if_neg (by simpa using hc)]
  refine wpAny_bind (HT.slicePart_ pl (wpAny_bind (HT.slicePart_ pu (wpAny_bind (wpAny_pure ?_)))))
  show wpAny _ _ (match Builtin.Slice.sliceAdjust lo hi c (n : Int) with | (lo, hi) => pure (lo, c, Builtin.Slice.slicePlaces lo hi c)) _ _ s
  exact wpAny_pure h
theorem item3 {t sl : Addr} {items : List Value} {vl vu vs : Value} {lo hi : Option Int} {c : Int} {Q : Value → Shared → Prop} (ht : IsTup s.heap t items.toArray) (hs : s.heap.IsSliceOf sl vl vu vs) (pl : IsPart vl lo) (pu : IsPart vu hi) (ps : IsPart vs (some c)) (hc : c ≠ 0)
    (h1 : c ≠ 1) (h : Q (.ref s.heap.objs.size) { s with heap := s.heap.push { cls := .type "tuple", data := .seq (pk3 items lo hi c).toArray } }) (hz : (pk3 items lo hi c).length ≤ sizeLine) :
    wpAny (model prog w) A (getItem (.ref t) (.ref sl)) Q E s := by
  have fits : sizeOk (.seq (pk3 items lo hi c).toArray) := by
    show (pk3 items lo hi c).toArray.size ≤ sizeLine
    rw [List.size_toArray]
    exact hz
  have isl : s.TypeIs (.ref sl) "slice" := by
    obtain ⟨ob, g1, g2, _⟩ := id hs
    exact ⟨ob, g1, g2⟩
  unfold getItem
  try with_reducible refine wpAny_holding ?_
  first | refine wpAny_bind (wpAny_pure ?_) | skip
  refine wpAny_bind (wpAny_sequenceKey ht.typeIs (by decide) (wpAny_bind (wpAny_callSpecial?_slot (name := Str.ofString "__getitem__") ht.typeIs slot_tuple_getitem (wpAny_call_entry slot_tuple_getitem ht.typeIs entry_tuple_getitem ?_ (args_tuple_getitem _ _)))))
  show wpAny _ _ (Builtin.Tuple.tupleItemsOf (.ref t) >>= _) _ _ s
  refine wpAny_bind (tupleItemsOf_ ht (wpAny_bind (wpAny_typeOf isl ?_)))
  rw [if_pos (by decide)]
  refine wpAny_bind (applied3 hs pl pu ps hc ?_)
  have no : ¬ (((Builtin.Slice.sliceAdjust lo hi c items.toArray.size).1 == 0 && c == 1 && (Builtin.Slice.slicePlaces (Builtin.Slice.sliceAdjust lo hi c items.toArray.size).1 (Builtin.Slice.sliceAdjust lo hi c items.toArray.size).2 c) == items.toArray.size) = true) := fun q => by
    rw [Bool.and_eq_true, Bool.and_eq_true] at q
    exact h1 (eq_of_beq q.1.2)
  have e : ((List.range (Builtin.Slice.slicePlaces (Builtin.Slice.sliceAdjust lo hi c items.toArray.size).1 (Builtin.Slice.sliceAdjust lo hi c items.toArray.size).2 c)).filterMap fun (k : Nat) => items.toArray[((Builtin.Slice.sliceAdjust lo hi c items.toArray.size).1 + (k : Int) * c).toNat]?) = pk3 items lo hi c := by
    unfold pk3
    rw [List.size_toArray]
    simp only [List.getElem?_toArray]
  show wpAny _ _ (if ((Builtin.Slice.sliceAdjust lo hi c items.toArray.size).1 == 0 && c == 1 && (Builtin.Slice.slicePlaces (Builtin.Slice.sliceAdjust lo hi c items.toArray.size).1 (Builtin.Slice.sliceAdjust lo hi c items.toArray.size).2 c) == items.toArray.size) = true then _ else _) _ _ s
  rw [if_neg no, e]
  first
    | exact wpAny_bind (m := Builtin.Tuple.tupleExact _) (wpAny_newObj_type (wpAny_pure ⟨_, rfl, wpAny_pure h⟩) fits)
    | exact wpAny_bind (m := Builtin.Tuple.tupleExact _) (wpAny_newObj_type (wpAny_bind (wpAny_pure (wpAny_pure ⟨_, rfl, wpAny_pure h⟩))) fits)
    | exact wpAny_bind (wpAny_bind (m := Builtin.Tuple.tupleExact _) (wpAny_newObj_type (wpAny_pure (wpAny_pure ⟨_, rfl, wpAny_pure h⟩)) fits))
    | exact wpAny_bind (wpAny_bind (m := Builtin.Tuple.tupleExact _) (wpAny_newObj_type (wpAny_pure ⟨_, rfl, wpAny_pure h⟩) fits))
end
section
variable {X : Cx} {K : PySem.W.Frag} {e s3 : Expr} {lo hi : Option Expr} {te : TE} {tl th t3 : TO} {p3 pos : Pos}
def tSl3 (K : PySem.W.Frag) (te : TE) (tl th t3 : TO) : TE := fun σ H Q => te σ H fun x H1 => tl σ H1 fun l H2 => th σ H2 fun u H3 => t3 σ H3 fun c H4 => ∃ a xs k, x = .ref a ∧ c = some k ∧ SqT K H4 a xs ∧ k ≠ 0 ∧ k ≠ 1 ∧ (pk3 xs l u k).length ≤ sizeLine ∧
  ∀ p, H4 p = none → Q (.ref p) (upd H4 p (.tup (pk3 xs l u k)))
theorem pe_sl3 (hK : X.K = K) (he : PE X e te) (hl : PO X lo tl) (hu : PO X hi th) (h3 : PO X (some s3) t3) (ho : ∀ a b : Addr, ∃ ops, subscripted (Expr.Slice lo hi (some s3) p3) false (.ref a) (.ref b) = operate ops (getItem (.ref a) (.ref b)) := by exact fun _ _ => ⟨_, rfl⟩) : PE X (.Subscript e (.Slice lo hi (some s3) p3) pos) (tSl3 K te tl th t3) := by
  subst hK
  refine ⟨fun pins s σ H Q I h => Subscript_ (thn (he.run pins s σ H _ I h) fun v s1 ⟨x, H1, I1, r1, q1⟩ => wpAny_Slice (thn (hl.run pins s1 σ H1 _ I1 q1) fun vl s2 ⟨l, H2, I2, pl, q2⟩ => thn (hu.run pins s2 σ H2 _ I2 q2) fun vu s4 ⟨u, H3, I3, pu, q3⟩ =>
    thn (h3.run pins s4 σ H3 _ I3 q3) fun vc s5 ⟨c, H4, I4, pc, q4⟩ => ?_))⟩
  obtain ⟨a, xs, k, ex, ec, hx, k0, k1, hz, q⟩ := q4
  subst ex
  subst ec
  cases r1
  have I5 : Inv X pins σ H4 { s5 with heap := s5.heap.push { cls := .type "slice", data := .fields #[vl, vu, vc] } } := I4.kept (t' := s5.toks) fun b ob q => Heap.get?_push_of_some _ q
  obtain ⟨its, r, ht, _⟩ := I5.tuple hx
  have rv := pk3_vals r l u k
  show wpAny (model X.prog X.w) X.A (subscriptTail e (.Slice lo hi (some s3) p3) (.ref a) (.ref s5.heap.objs.size)) (EP X pins σ Q) X.xe { s5 with heap := s5.heap.push { cls := .type "slice", data := .fields #[vl, vu, vc] } }
  obtain ⟨ops, hops⟩ := ho a s5.heap.objs.size
  refine tail_any (ops := ops) ht.typeIs (slot_tuple_getitem.lookup) ?_ hops
  refine item3 ht (Heap.IsSliceOf.new _ vl vu vc) pl pu pc k0 k1 ?_ (by rw [← rv.length]; exact hz)
  refine ⟨.ref _, _, I5.laid (t' := s5.toks) (o := .tup (pk3 xs l u k)) (fun b ob q => Heap.get?_push_of_some _ q) (Nat.le_refl _) ?_, rfl, q _ (I5.hok.fresh (Nat.le_refl _))⟩
  exact ⟨hz, _, rv, IsTup.new _ _⟩
end
end Tx
/-! truth over a word without end: one step x ↦ B or (A and x), forwards and backwards -/
namespace Tr
/-- n steps back from s + n to s -/
def bk (A B : Nat → Bool) : Nat → Nat → Bool → Bool
  | _, 0, x => x
  | s, n + 1, x => B s || (A s && bk A B (s + 1) n x)
theorem bk_add (A B : Nat → Bool) (m : Nat) (x : Bool) : ∀ (n s : Nat), bk A B s (n + m) x = bk A B s n (bk A B (s + n) m x)
  | 0, s => by rw [Nat.zero_add]; rfl
  | n + 1, s => by
    have e : n + 1 + m = (n + m) + 1 := by omega
    rw [e]
    show (B s || (A s && bk A B (s + 1) (n + m) x)) = (B s || (A s && bk A B (s + 1) n (bk A B (s + (n + 1)) m x)))
    rw [bk_add A B m x n (s + 1), show s + 1 + n = s + (n + 1) by omega]
theorem bk_form (A B : Nat → Bool) : ∀ (n s : Nat), ∃ P Q : Bool, ∀ x, bk A B s n x = (P || (Q && x))
  | 0, s => ⟨false, true, fun x => by simp [bk]⟩
  | n + 1, s => by
    obtain ⟨P, Q, h⟩ := bk_form A B n (s + 1)
    refine ⟨B s || (A s && P), A s && Q, fun x => ?_⟩
    show (B s || (A s && bk A B (s + 1) n x)) = _
    rw [h]
    cases B s <;> cases A s <;> cases P <;> cases Q <;> cases x <;> rfl
theorem bk_mono {A B : Nat → Bool} {n s : Nat} (h : bk A B s n false = true) (x : Bool) : bk A B s n x = true := by
  obtain ⟨P, Q, e⟩ := bk_form A B n s
  rw [e] at h ⊢
  cases P <;> cases Q <;> cases x <;> simp_all
theorem bk_twice (A B : Nat → Bool) (n s : Nat) (x : Bool) : bk A B s n (bk A B s n x) = bk A B s n x := by
  obtain ⟨P, Q, e⟩ := bk_form A B n s
  rw [e, e]
  cases P <;> cases Q <;> cases x <;> rfl
theorem bk_congr {A B A' B' : Nat → Bool} (x : Bool) : ∀ (n s s' : Nat), (∀ i, i < n → A (s + i) = A' (s' + i) ∧ B (s + i) = B' (s' + i)) → bk A B s n x = bk A' B' s' n x
  | 0, _, _, _ => rfl
  | n + 1, s, s', h => by
    have h0 := h 0 (Nat.succ_pos n)
    have ih := bk_congr x n (s + 1) (s' + 1) fun i hi => by
      have := h (i + 1) (by omega)
      rwa [show s + (i + 1) = s + 1 + i by omega, show s' + (i + 1) = s' + 1 + i by omega] at this
    show (B s || (A s && bk A B (s + 1) n x)) = (B' s' || (A' s' && bk A' B' (s' + 1) n x))
    rw [ih, show A s = A' s' from h0.1, show B s = B' s' from h0.2]
/-- from m on of period L -/
def Pd (f : Nat → Bool) (m L : Nat) : Prop := ∀ t, m ≤ t → f (t + L) = f t
theorem Pd.up {f : Nat → Bool} {m n L : Nat} (h : Pd f m L) (k : m ≤ n) : Pd f n L := fun t ht => h t (Nat.le_trans k ht)
theorem Pd.mul {f : Nat → Bool} {m L : Nat} (h : Pd f m L) : ∀ k t, m ≤ t → f (t + k * L) = f t
  | 0, t, _ => by rw [Nat.zero_mul]; rfl
  | k + 1, t, ht => by
    rw [Nat.succ_mul, ← Nat.add_assoc, h _ (by omega), h.mul k t ht]
open Classical in
/-- the future's limit: from the start value i -/
noncomputable def lim (i : Bool) (A B : Nat → Bool) (t : Nat) : Bool :=
  if i = true then decide (∀ n, bk A B t n true = true) else decide (∃ n, bk A B t n false = true)
theorem lim_t {A B : Nat → Bool} {t : Nat} : lim true A B t = true ↔ ∀ n, bk A B t n true = true := by
  unfold lim
  simp
theorem lim_f {A B : Nat → Bool} {t : Nat} : lim false A B t = true ↔ ∃ n, bk A B t n false = true := by
  unfold lim
  simp
theorem bool_ext {a b : Bool} (h : a = true ↔ b = true) : a = b := by
  cases a <;> cases b <;> simp_all
theorem lim_step (i : Bool) (A B : Nat → Bool) (t : Nat) : lim i A B t = (B t || (A t && lim i A B (t + 1))) := by
  apply bool_ext
  cases i with
  | true =>
    rw [lim_t]
    constructor
    · intro h
      cases hb : B t with
      | true => rfl
      | false =>
        cases ha : A t with
        | false =>
          have := h 1
          rw [show bk A B t 1 true = (B t || (A t && true)) from rfl, hb, ha] at this
          cases this
        | true =>
          rw [Bool.false_or, Bool.true_and, lim_t]
          intro n
          have := h (n + 1)
          rw [show bk A B t (n + 1) true = (B t || (A t && bk A B (t + 1) n true)) from rfl, hb, ha] at this
          simpa using this
    · intro h n
      cases n with
      | zero => rfl
      | succ n =>
        show (B t || (A t && bk A B (t + 1) n true)) = true
        rw [Bool.or_eq_true, Bool.and_eq_true] at h ⊢
        rcases h with h | ⟨h1, h2⟩
        · exact .inl h
        · exact .inr ⟨h1, lim_t.mp h2 n⟩
  | false =>
    rw [lim_f]
    constructor
    · rintro ⟨n, h⟩
      cases n with
      | zero => cases h
      | succ n =>
        rw [show bk A B t (n + 1) false = (B t || (A t && bk A B (t + 1) n false)) from rfl] at h
        rw [Bool.or_eq_true, Bool.and_eq_true] at h ⊢
        rcases h with h | ⟨h1, h2⟩
        · exact .inl h
        · exact .inr ⟨h1, lim_f.mpr ⟨n, h2⟩⟩
    · intro h
      rw [Bool.or_eq_true, Bool.and_eq_true] at h
      rcases h with h | ⟨h1, h2⟩
      · exact ⟨1, by show (B t || _) = true; rw [h]; rfl⟩
      · obtain ⟨n, hn⟩ := lim_f.mp h2
        exact ⟨n + 1, by show (B t || (A t && bk A B (t + 1) n false)) = true; rw [hn, h1, Bool.and_true, Bool.or_true]⟩
theorem lim_bk (i : Bool) (A B : Nat → Bool) : ∀ n t, lim i A B t = bk A B t n (lim i A B (t + n))
  | 0, t => rfl
  | n + 1, t => by
    rw [lim_step, lim_bk i A B n (t + 1), show t + 1 + n = t + (n + 1) by omega]
    rfl
theorem lim_pd {i : Bool} {A B : Nat → Bool} {m L : Nat} (ha : Pd A m L) (hb : Pd B m L) : Pd (lim i A B) m L := fun t ht => by
  have e : ∀ n x, bk A B (t + L) n x = bk A B t n x := fun n x => bk_congr x n _ _ fun j _ => by
    rw [show t + L + j = t + j + L by omega]
    exact ⟨ha _ (by omega), hb _ (by omega)⟩
  apply bool_ext
  cases i with
  | true => rw [lim_t, lim_t]; simp only [e]
  | false => rw [lim_f, lim_f]; simp only [e]
theorem bk_round {A B : Nat → Bool} {m L : Nat} (ha : Pd A m L) (hb : Pd B m L) : ∀ k y, bk A B m ((k + 1) * L) y = bk A B m L y
  | 0, y => by rw [Nat.zero_add, Nat.one_mul]
  | k + 1, y => by
    rw [Nat.succ_mul (k + 1), bk_add]
    have e : bk A B (m + (k + 1) * L) L y = bk A B m L y := bk_congr y L _ _ fun j _ => by
      rw [show m + (k + 1) * L + j = (m + j) + (k + 1) * L by omega]
      exact ⟨ha.mul _ _ (by omega), hb.mul _ _ (by omega)⟩
    rw [e, bk_round ha hb k, bk_twice]
theorem bk_le_t {A B : Nat → Bool} {n s : Nat} {x : Bool} (h : bk A B s n x = true) : bk A B s n true = true := by
  obtain ⟨P, Q, e⟩ := bk_form A B n s
  rw [e] at h ⊢
  cases P <;> cases Q <;> cases x <;> simp_all
/-- once round the loop from the start value is the limit -/
theorem lim_loop {i : Bool} {A B : Nat → Bool} {m L : Nat} (hL : 0 < L) (ha : Pd A m L) (hb : Pd B m L) : lim i A B m = bk A B m L i := by
  apply bool_ext
  cases i with
  | true =>
    rw [lim_t]
    refine ⟨fun h => h L, fun h n => ?_⟩
    have h2 := bk_round ha hb n true
    rw [h] at h2
    have le : n ≤ (n + 1) * L := Nat.le_trans (Nat.le_succ n) (Nat.le_mul_of_pos_right _ hL)
    obtain ⟨j, hj⟩ := Nat.exists_eq_add_of_le le
    rw [hj, bk_add] at h2
    exact bk_le_t h2
  | false =>
    rw [lim_f]
    refine ⟨fun ⟨n, h⟩ => ?_, fun h => ⟨L, h⟩⟩
    have h2 := bk_round ha hb n false
    have le : n ≤ (n + 1) * L := Nat.le_trans (Nat.le_succ n) (Nat.le_mul_of_pos_right _ hL)
    obtain ⟨j, hj⟩ := Nat.exists_eq_add_of_le le
    rw [hj, bk_add, bk_mono h] at h2
    exact h2.symm
/-! forwards -/
def fw (i : Bool) (A B : Nat → Bool) : Nat → Bool
  | 0 => B 0 || (A 0 && i)
  | t + 1 => B (t + 1) || (A (t + 1) && fw i A B t)
/-- n steps on from a value -/
def st (A B : Nat → Bool) : Nat → Nat → Bool → Bool
  | _, 0, x => x
  | s, n + 1, x => B (s + n) || (A (s + n) && st A B s n x)
theorem st_form (A B : Nat → Bool) : ∀ (n s : Nat), ∃ P Q : Bool, ∀ x, st A B s n x = (P || (Q && x))
  | 0, s => ⟨false, true, fun x => by simp [st]⟩
  | n + 1, s => by
    obtain ⟨P, Q, h⟩ := st_form A B n s
    refine ⟨B (s + n) || (A (s + n) && P), A (s + n) && Q, fun x => ?_⟩
    show (B (s + n) || (A (s + n) && st A B s n x)) = _
    rw [h]
    cases B (s + n) <;> cases A (s + n) <;> cases P <;> cases Q <;> cases x <;> rfl
theorem st_congr {A B A' B' : Nat → Bool} (x : Bool) : ∀ (n s s' : Nat), (∀ i, i < n → A (s + i) = A' (s' + i) ∧ B (s + i) = B' (s' + i)) → st A B s n x = st A' B' s' n x
  | 0, _, _, _ => rfl
  | n + 1, s, s', h => by
    have h0 := h n (Nat.lt_succ_self n)
    have ih := st_congr x n s s' fun i hi => h i (by omega)
    show (B (s + n) || (A (s + n) && st A B s n x)) = (B' (s' + n) || (A' (s' + n) && st A' B' s' n x))
    rw [ih, h0.1, h0.2]
theorem fw_st (i : Bool) (A B : Nat → Bool) (t : Nat) : ∀ n, fw i A B (t + n) = st A B (t + 1) n (fw i A B t)
  | 0 => rfl
  | n + 1 => by
    show (B (t + n + 1) || (A (t + n + 1) && fw i A B (t + n))) = (B (t + 1 + n) || (A (t + 1 + n) && st A B (t + 1) n (fw i A B t)))
    rw [fw_st i A B t n, show t + n + 1 = t + 1 + n by omega]
/-- one round more -/
theorem fw_pd {i : Bool} {A B : Nat → Bool} {m L : Nat} (hL : 0 < L) (ha : Pd A m L) (hb : Pd B m L) : Pd (fw i A B) (m + L) L := fun t ht => by
  obtain ⟨r, rfl⟩ := Nat.exists_eq_add_of_le (show L ≤ t by omega)
  rw [Nat.add_comm L r] at ht ⊢
  have e : ∀ x, st A B (r + L + 1) L x = st A B (r + 1) L x := fun x => st_congr x L _ _ fun j _ => by
    rw [show r + L + 1 + j = r + 1 + j + L by omega]
    exact ⟨ha _ (by omega), hb _ (by omega)⟩
  rw [fw_st i A B (r + L) L, e, fw_st i A B r L]
  obtain ⟨P, Q, h⟩ := st_form A B L (r + 1)
  rw [h, h]
  cases P <;> cases Q <;> cases fw i A B r <;> rfl
end Tr

namespace Tr
open PySem
/-! formulas, what each sign does, their truth along a word -/
inductive Fm where
  | c0 (k : Str)
  | sg (s : Str)
  | un (k : Str) (f : Fm)
  | bin (k : Str) (f g : Fm)
abbrev sSig : Str := "signal"
def steps : List Str := ["next", "previous", "weak_previous"]
def past : List Str := ["previous", "weak_previous", "once", "historically", "since", "trigger"]
def future : List Str := ["next", "eventually", "always", "until", "weak_until", "release"]
def beyond : List Str := ["weak_previous", "historically", "trigger", "always", "release", "weak_until"]
def plB (k : Str) (a b : Bool) : Bool :=
  if k = "not" then !a else if k = "and" then a && b else if k = "or" then a || b else if k = "implies" then !a || b else if k = "iff" then a == b else decide (k = "true")
def tofB (k : Str) (a b c : Bool) : Bool :=
  if k ∈ steps then c else if k ∈ (["eventually", "once"] : List Str) then a || c else if k ∈ (["always", "historically"] : List Str) then a && c
  else if k ∈ (["release", "trigger"] : List Str) then b && (a || c) else if k ∈ (["until", "weak_until", "since"] : List Str) then b || (a && c) else plB k a b
theorem tofB_form (k : Str) (a b c : Bool) : tofB k a b c = (tofB k a b false || (tofB k a b true && c)) := by
  unfold tofB
  split
  · cases c <;> rfl
  · split
    · cases a <;> cases c <;> rfl
    · split
      · cases a <;> cases c <;> rfl
      · split
        · cases a <;> cases b <;> cases c <;> rfl
        · split
          · cases a <;> cases b <;> cases c <;> rfl
          · cases plB k a b <;> cases c <;> rfl
theorem tofB_step {k : Str} (h : k ∈ steps) (a b c : Bool) : tofB k a b c = c := by
  unfold tofB
  rw [if_pos h]
def ini (k : Str) : Bool := decide (k ∈ beyond)
section
variable (k : Str) (a b : Nat → Bool)
def stA : Nat → Bool := fun t => tofB k (a t) (b t) true
def stB : Nat → Bool := fun t => tofB k (a t) (b t) false
/-- what the turn ahead hands back -/
noncomputable def carF (t : Nat) : Bool := if k ∈ steps then a t else lim (ini k) (stA k a b) (stB k a b) t
/-- what the turn behind hands on -/
def carP : Nat → Bool
  | 0 => ini k
  | t + 1 => if k ∈ steps then a t else fw (ini k) (stA k a b) (stB k a b) t
noncomputable def sq (t : Nat) : Bool := tofB k (a t) (b t) (if k ∈ past then carP k a b t else if k ∈ future then carF k a b (t + 1) else false)
end
theorem tof_st (k : Str) (a b : Nat → Bool) (t : Nat) (c : Bool) : tofB k (a t) (b t) c = (stB k a b t || (stA k a b t && c)) := tofB_form k (a t) (b t) c
theorem sq_past {k : Str} (h : k ∈ past) (a b : Nat → Bool) (t : Nat) : sq k a b t = tofB k (a t) (b t) (carP k a b t) := by
  unfold sq
  rw [if_pos h]
theorem sq_fut {k : Str} (h0 : ¬ k ∈ past) (h : k ∈ future) (a b : Nat → Bool) (t : Nat) : sq k a b t = tofB k (a t) (b t) (carF k a b (t + 1)) := by
  unfold sq
  rw [if_neg h0, if_pos h]
theorem sq_pl {k : Str} (h0 : ¬ k ∈ past) (h : ¬ k ∈ future) (a b : Nat → Bool) (t : Nat) : sq k a b t = tofB k (a t) (b t) false := by
  unfold sq
  rw [if_neg h0, if_neg h]
theorem carP_next {k : Str} (h : k ∈ past) (a b : Nat → Bool) (t : Nat) : carP k a b (t + 1) = if k ∈ steps then a t else sq k a b t := by
  show (if k ∈ steps then a t else fw (ini k) (stA k a b) (stB k a b) t) = _
  split
  · rfl
  · rename_i hs
    rw [sq_past h, tof_st]
    cases t with
    | zero => rfl
    | succ t =>
      show _ = (stB k a b (t + 1) || (stA k a b (t + 1) && (if k ∈ steps then a t else fw (ini k) (stA k a b) (stB k a b) t)))
      rw [if_neg hs]
      rfl
theorem carF_sq {k : Str} (h0 : ¬ k ∈ past) (h : k ∈ future) (a b : Nat → Bool) (t : Nat) : carF k a b t = if k ∈ steps then a t else sq k a b t := by
  unfold carF
  split
  · rfl
  · rename_i hs
    rw [sq_fut h0 h, tof_st, carF, if_neg hs]
    exact lim_step _ _ _ _
def tb (k : Str) : Nat := if k ∈ past then 1 else 0
theorem st_pd {k : Str} {a b : Nat → Bool} {m L : Nat} (ha : Pd a m L) (hb : Pd b m L) : Pd (stA k a b) m L ∧ Pd (stB k a b) m L :=
  ⟨fun t ht => by unfold stA; rw [ha t ht, hb t ht], fun t ht => by unfold stB; rw [ha t ht, hb t ht]⟩
theorem carF_pd {k : Str} {a b : Nat → Bool} {m L : Nat} (ha : Pd a m L) (hb : Pd b m L) : Pd (carF k a b) m L := by
  intro t ht
  unfold carF
  split
  · exact ha t ht
  · exact lim_pd (st_pd ha hb).1 (st_pd ha hb).2 t ht
theorem sq_fw {k : Str} (h : k ∈ past) (hs : ¬ k ∈ steps) (a b : Nat → Bool) (t : Nat) : sq k a b t = fw (ini k) (stA k a b) (stB k a b) t := by
  have q := carP_next h a b t
  rw [if_neg hs] at q
  rw [← q]
  show (if k ∈ steps then a t else fw (ini k) (stA k a b) (stB k a b) t) = _
  rw [if_neg hs]
theorem sq_pd {k : Str} {a b : Nat → Bool} {m L : Nat} (hL : 0 < L) (ha : Pd a m L) (hb : Pd b m L) : Pd (sq k a b) (m + tb k * L) L := by
  intro t ht
  unfold tb at ht
  by_cases hp : k ∈ past
  · rw [if_pos hp, Nat.one_mul] at ht
    by_cases hs : k ∈ steps
    · rw [sq_past hp, sq_past hp, tofB_step hs, tofB_step hs]
      obtain ⟨u, rfl⟩ : ∃ u, t = u + 1 := ⟨t - 1, by omega⟩
      rw [show u + 1 + L = u + L + 1 by omega, carP_next hp, carP_next hp, if_pos hs, if_pos hs]
      exact ha u (by omega)
    · rw [sq_fw hp hs, sq_fw hp hs]
      exact fw_pd hL (st_pd ha hb).1 (st_pd ha hb).2 t ht
  · rw [if_neg hp, Nat.zero_mul] at ht
    by_cases hf : k ∈ future
    · rw [sq_fut hp hf, sq_fut hp hf, ha t ht, hb t ht, show t + L + 1 = t + 1 + L by omega, carF_pd ha hb (t + 1) (by omega)]
    · rw [sq_pl hp hf, sq_pl hp hf, ha t ht, hb t ht]
/-- the future's value handed back at the word's end is the one at the loop's start after one round -/
def rndF (k : Str) (a b : Nat → Bool) (N : Nat) : Nat → Bool
  | 0 => ini k
  | j + 1 => if k ∈ steps then a (N - (j + 1)) else tofB k (a (N - (j + 1))) (b (N - (j + 1))) (rndF k a b N j)
theorem rndF_bk {k : Str} {a b : Nat → Bool} {N : Nat} (hs : ¬ k ∈ steps) : ∀ j, j ≤ N → rndF k a b N j = bk (stA k a b) (stB k a b) (N - j) j (ini k)
  | 0, _ => rfl
  | j + 1, h => by
    show (if k ∈ steps then a (N - (j + 1)) else tofB k (a (N - (j + 1))) (b (N - (j + 1))) (rndF k a b N j)) = _
    rw [if_neg hs, rndF_bk hs j (by omega), tof_st]
    show _ = (stB k a b (N - (j + 1)) || (stA k a b (N - (j + 1)) && bk (stA k a b) (stB k a b) (N - (j + 1) + 1) j (ini k)))
    rw [show N - (j + 1) + 1 = N - j by omega]
theorem rndF_end {k : Str} {a b : Nat → Bool} {m L : Nat} (hL : 0 < L) (ha : Pd a m L) (hb : Pd b m L) : rndF k a b (m + L) L = carF k a b (m + L) := by
  rw [carF_pd ha hb m (Nat.le_refl _)]
  unfold carF
  by_cases hs : k ∈ steps
  · obtain ⟨j, rfl⟩ : ∃ j, L = j + 1 := ⟨L - 1, by omega⟩
    show (if k ∈ steps then a (m + (j + 1) - (j + 1)) else _) = _
    rw [if_pos hs, if_pos hs, Nat.add_sub_cancel]
  · rw [if_neg hs, rndF_bk hs L (by omega), Nat.add_sub_cancel, lim_loop hL (st_pd ha hb).1 (st_pd ha hb).2]
/-! a formula's truth -/
def bitI (z : Int) (i : Nat) : Bool := decide (z / 2 ^ i % 2 = 1)
noncomputable def sem (nm : List Str) (x : Nat → Int) : Fm → Nat → Bool
  | .c0 k => sq k (fun _ => false) (fun _ => false)
  | .sg s => fun t => bitI (x t) (nm.idxOf s)
  | .un k f => sq k (sem nm x f) (fun _ => false)
  | .bin k f g => sq k (sem nm x f) (sem nm x g)
def pd : Fm → Nat
  | .c0 k => tb k
  | .sg _ => 0
  | .un k f => pd f + tb k
  | .bin k f g => max (pd f) (pd g) + tb k
theorem pd_c (m L : Nat) (c : Bool) : Pd (fun _ => c) m L := fun _ _ => rfl
theorem sem_pd {nm : List Str} {x : Nat → Int} {h L : Nat} (hL : 0 < L) (hx : ∀ t, h ≤ t → x (t + L) = x t) : ∀ f : Fm, Pd (sem nm x f) (h + pd f * L) L
  | .c0 k => sq_pd hL (pd_c h L false) (pd_c h L false)
  | .sg s => fun t ht => by
    show bitI (x (t + L)) _ = bitI (x t) _
    rw [hx t (by have : h ≤ h + pd (.sg s) * L := Nat.le_add_right _ _; omega)]
  | .un k f => by
    have q := sq_pd (k := k) hL (sem_pd (nm := nm) hL hx f) (pd_c _ L false)
    rw [Nat.add_assoc, ← Nat.add_mul] at q
    exact q
  | .bin k f g => by
    have e1 : h + pd f * L ≤ h + max (pd f) (pd g) * L := Nat.add_le_add_left (Nat.mul_le_mul_right L (Nat.le_max_left _ _)) h
    have e2 : h + pd g * L ≤ h + max (pd f) (pd g) * L := Nat.add_le_add_left (Nat.mul_le_mul_right L (Nat.le_max_right _ _)) h
    have q := sq_pd (k := k) hL ((sem_pd (nm := nm) hL hx f).up e1) ((sem_pd (nm := nm) hL hx g).up e2)
    rw [Nat.add_assoc, ← Nat.add_mul] at q
    exact q
/-! the parts -/
abbrev Pt := Str × Int × Int
def kids : Fm → List Fm
  | .c0 _ => []
  | .sg _ => []
  | .un _ f => [f]
  | .bin _ f g => [f, g]
def kd : Fm → Str
  | .c0 k => k
  | .sg _ => sSig
  | .un k _ => k
  | .bin k _ _ => k
def sz : Fm → Nat
  | .c0 _ => 1
  | .sg _ => 1
  | .un _ f => sz f + 1
  | .bin _ f g => sz f + sz g + 1
def pre : Fm → List Fm
  | .c0 k => [.c0 k]
  | .sg s => [.sg s]
  | .un k f => .un k f :: pre f
  | .bin k f g => .bin k f g :: (pre f ++ pre g)
theorem pre_kids (f : Fm) : pre f = f :: ((kids f).map pre).flatten := by
  cases f <;> simp [pre, kids]
theorem pre_len : ∀ f : Fm, (pre f).length = sz f
  | .c0 _ => rfl
  | .sg _ => rfl
  | .un k f => by
    show (pre f).length + 1 = sz f + 1
    rw [pre_len f]
  | .bin k f g => by
    show (pre f ++ pre g).length + 1 = sz f + sz g + 1
    rw [List.length_append, pre_len f, pre_len g]
theorem sz_pos (f : Fm) : 0 < sz f := by cases f <;> exact Nat.succ_pos _
/-- what stands in the formula is no sign of another kind, and its signals are named -/
def Wf (nm : List Str) : Fm → Prop
  | .c0 k => k ≠ sSig
  | .sg s => s ∈ nm
  | .un k f => k ≠ sSig ∧ Wf nm f
  | .bin k f g => k ≠ sSig ∧ Wf nm f ∧ Wf nm g
/-- the stack S, fed with the rest of the row, ends as the root alone -/
def Vl (root : Fm) : List Fm → List Fm → Prop
  | S, [] => S = [root]
  | S, g :: R => ∃ S', S = kids g ++ S' ∧ Vl root (g :: S') R
theorem vl_pre (root : Fm) : ∀ (f : Fm) (S R : List Fm), Vl root (f :: S) R → Vl root S ((pre f).reverse ++ R)
  | .c0 k, S, R, h => ⟨S, rfl, h⟩
  | .sg s, S, R, h => ⟨S, rfl, h⟩
  | .un k f, S, R, h => by
    show Vl root S ((Fm.un k f :: pre f).reverse ++ R)
    rw [List.reverse_cons, List.append_assoc]
    exact vl_pre root f S _ ⟨S, rfl, h⟩
  | .bin k f g, S, R, h => by
    show Vl root S ((Fm.bin k f g :: (pre f ++ pre g)).reverse ++ R)
    rw [List.reverse_cons, List.reverse_append, List.append_assoc, List.append_assoc]
    exact vl_pre root g S _ (vl_pre root f (g :: S) _ ⟨S, rfl, h⟩)
theorem vl_root (f : Fm) : Vl f [] (pre f).reverse := by
  have q := vl_pre f f [] [] rfl
  rwa [List.append_nil] at q
def Node (nm : List Str) (Fs : List Fm) (k : Nat) : Fm → Pt → Prop
  | .c0 c, p => c ≠ sSig ∧ p = (c, -1, -1)
  | .sg s, p => s ∈ nm ∧ p = (sSig, ((nm.idxOf s : Nat) : Int), -1)
  | .un c f, p => c ≠ sSig ∧ ∃ i : Nat, i < k ∧ Fs[i]? = some f ∧ p = (c, (i : Int), -1)
  | .bin c f g, p => c ≠ sSig ∧ ∃ i j : Nat, i < k ∧ j < k ∧ Fs[i]? = some f ∧ Fs[j]? = some g ∧ p = (c, (i : Int), (j : Int))
structure Good (nm : List Str) (P : List Pt) (Fs : List Fm) : Prop where
  len : P.length = Fs.length
  nd : ∀ k f p, Fs[k]? = some f → P[k]? = some p → Node nm Fs k f p
theorem Node.up {nm : List Str} {Fs : List Fm} {k k' : Nat} {f g : Fm} {p : Pt} (h : Node nm Fs k f p) (hk : k ≤ k') (hl : k ≤ Fs.length) : Node nm (Fs ++ [g]) k' f p := by
  cases f with
  | c0 c => exact h
  | sg s => exact h
  | un c f =>
    obtain ⟨h1, i, h2, h3, h4⟩ := h
    exact ⟨h1, i, by omega, by rw [List.getElem?_append_left (by omega)]; exact h3, h4⟩
  | bin c f f2 =>
    obtain ⟨h1, i, j, h2, h3, h4, h5, h6⟩ := h
    exact ⟨h1, i, j, by omega, by omega, by rw [List.getElem?_append_left (by omega)]; exact h4, by rw [List.getElem?_append_left (by omega)]; exact h5, h6⟩
theorem Good.snoc {nm : List Str} {P : List Pt} {Fs : List Fm} {f : Fm} {p : Pt} (h : Good nm P Fs) (n : Node nm Fs P.length f p) : Good nm (P ++ [p]) (Fs ++ [f]) := by
  refine ⟨by rw [List.length_append, List.length_append, h.len]; rfl, fun k g q hg hq => ?_⟩
  have e := h.len
  rcases Nat.lt_or_ge k P.length with c | c
  · rw [List.getElem?_append_left (by omega)] at hg
    rw [List.getElem?_append_left c] at hq
    exact (h.nd k g q hg hq).up (Nat.le_refl _) (by omega)
  · rw [List.getElem?_append_right (by omega)] at hg
    rw [List.getElem?_append_right c] at hq
    have hk : k = P.length := by
      rcases Nat.eq_or_lt_of_le c with z | z
      · exact z.symm
      · rw [List.getElem?_eq_none (by simp; omega)] at hq
        cases hq
    rw [hk, Nat.sub_self] at hq
    rw [hk, e, Nat.sub_self] at hg
    cases hg
    cases hq
    rw [hk]
    exact n.up (Nat.le_refl _) (by omega)
theorem node_uniq {nm : List Str} {Fs : List Fm} {k k' : Nat} {f g : Fm} {p : Pt} (h : Node nm Fs k f p) (h' : Node nm Fs k' g p) : f = g := by
  cases f with
  | c0 c =>
    obtain ⟨h1, rfl⟩ := h
    cases g with
    | c0 c' => obtain ⟨_, e⟩ := h'; cases e; rfl
    | sg s => obtain ⟨_, e⟩ := h'; injection e with e _; exact absurd e h1
    | un c' f => obtain ⟨_, i, _, _, e⟩ := h'; injection e with _ e; injection e with e _; omega
    | bin c' f f2 => obtain ⟨_, i, j, _, _, _, _, e⟩ := h'; injection e with _ e; injection e with e _; omega
  | sg s =>
    obtain ⟨h1, rfl⟩ := h
    cases g with
    | c0 c' => obtain ⟨h2, e⟩ := h'; injection e with e _; exact absurd e.symm h2
    | sg s' =>
      obtain ⟨h2, e⟩ := h'
      injection e with _ e
      injection e with e _
      have e : nm.idxOf s = nm.idxOf s' := by omega
      have a1 := List.getElem_idxOf (List.idxOf_lt_length_of_mem h1)
      have a2 := List.getElem_idxOf (List.idxOf_lt_length_of_mem h2)
      rw [← a1, ← a2]
      simp only [e]
    | un c' f => obtain ⟨h2, i, _, _, e⟩ := h'; injection e with e _; exact absurd e.symm h2
    | bin c' f f2 => obtain ⟨h2, i, j, _, _, _, _, e⟩ := h'; injection e with e _; first | exact absurd e.symm h2 | exact absurd e h2
  | un c f =>
    obtain ⟨h1, i, _, h3, rfl⟩ := h
    cases g with
    | c0 c' => obtain ⟨_, e⟩ := h'; injection e with _ e; injection e with e _; omega
    | sg s => obtain ⟨_, e⟩ := h'; injection e with e _; exact absurd e h1
    | un c' f' =>
      obtain ⟨_, i', _, h4, e⟩ := h'
      injection e with e1 e
      injection e with e2 _
      have e2 : i = i' := by omega
      rw [e2, h4] at h3
      cases h3
      rw [e1]
    | bin c' f' f2 => obtain ⟨_, i', j, _, _, _, _, e⟩ := h'; injection e with _ e; injection e with _ e; omega
  | bin c f f2 =>
    obtain ⟨h1, i, j, _, _, h3, h4, rfl⟩ := h
    cases g with
    | c0 c' => obtain ⟨_, e⟩ := h'; injection e with _ e; injection e with e _; omega
    | sg s => obtain ⟨_, e⟩ := h'; injection e with e _; exact absurd e h1
    | un c' f' => obtain ⟨_, i', _, _, e⟩ := h'; injection e with _ e; injection e with _ e; omega
    | bin c' f' f2' =>
      obtain ⟨_, i', j', _, _, h5, h6, e⟩ := h'
      injection e with e1 e
      injection e with e2 e3
      have e2 : i = i' := by omega
      have e3 : j = j' := by omega
      rw [e2, h5] at h3
      rw [e3, h6] at h4
      cases h3
      cases h4
      rw [e1]
def pc (P : List Pt) : Nat := (P.filter fun p => decide (p.1 ∈ past)).length
theorem pc_take {P : List Pt} {k : Nat} {p : Pt} (h : P[k]? = some p) : pc (P.take (k + 1)) = pc (P.take k) + tb p.1 := by
  unfold pc tb
  rw [List.take_succ, h, List.filter_append, List.length_append]
  rw [Option.toList_some, List.filter_cons, List.filter_nil]
  by_cases c : p.1 ∈ past
  · rw [if_pos c, if_pos (decide_eq_true c)]
    rfl
  · rw [if_neg c, if_neg (by rw [decide_eq_true_eq]; exact c)]
    rfl
theorem pc_mono {P : List Pt} {i j : Nat} (h : i ≤ j) : pc (P.take i) ≤ pc (P.take j) := by
  unfold pc
  rw [← List.countP_eq_length_filter, ← List.countP_eq_length_filter]
  exact (List.take_sublist_take_left h).countP_le
theorem pd_pc {nm : List Str} {P : List Pt} {Fs : List Fm} (G : Good nm P Fs) : ∀ k f, Fs[k]? = some f → pd f ≤ pc (P.take (k + 1)) := by
  intro k
  induction k using Nat.strongRecOn with
  | _ k ih =>
    intro f hf
    have hk : k < P.length := by
      rw [G.len]
      exact (List.getElem?_eq_some_iff.mp hf).1
    have hp : P[k]? = some P[k] := List.getElem?_eq_getElem hk
    have n := G.nd k f _ hf hp
    rw [pc_take hp]
    generalize P[k] = p at n
    cases f with
    | c0 c => obtain ⟨_, rfl⟩ := n; exact Nat.le_add_left _ _
    | sg s => exact Nat.zero_le _
    | un c f =>
      obtain ⟨_, i, hi, h3, rfl⟩ := n
      have := ih i hi f h3
      have := pc_mono (P := P) (show i + 1 ≤ k by omega)
      show pd f + tb c ≤ _ + tb c
      omega
    | bin c f g =>
      obtain ⟨_, i, j, hi, hj, h3, h4, rfl⟩ := n
      have := ih i hi f h3
      have := ih j hj g h4
      have := pc_mono (P := P) (show i + 1 ≤ k by omega)
      have := pc_mono (P := P) (show j + 1 ≤ k by omega)
      show max (pd f) (pd g) + tb c ≤ _ + tb c
      omega
end Tr
namespace Bx
open PySem PySem.Spec PyProof.Rows L2 Tr Tx
section
variable {X : Cx} {K : PySem.W.Frag}
theorem op_inK (h : X.K = K) : OpR X (compareOp .In) (rIn K false) := by
  subst h
  exact op_in_seq
theorem op_notInK (h : X.K = K) : OpR X (compareOp .NotIn) (rIn K true) := by
  subst h
  exact op_notIn_seq
theorem mt_indexK (h : X.K = K) : MtR X "list.index" (rIndex K) := by
  subst h
  exact mt_index
theorem pe_revLK {e : Expr} {te : TE} {k : Nat} {p1 p2 p3 pos : Pos} (h : X.K = K) (he : PE X e te) : PE X (.Subscript e (.Slice none none (some (.UnaryOp .USub (.Constant (.int 1) k p1) p2)) p3) pos) (tRevL K te) := by
  subst h
  exact pe_revL he
end
theorem in_strs (k : Str) : ∀ ss : List Str, inV (.str k) (ss.map V.str) = decide (k ∈ ss)
  | [] => by simp [inV]
  | s :: ss => by
    have ih := in_strs k ss
    unfold inV at ih ⊢
    rw [List.map_cons, List.any_cons, ih]
    show ((s == k) || _) = _
    by_cases c : s = k
    · subst c
      simp
    · have c2 : k ≠ s := fun z => c z.symm
      simp [c, c2]
theorem flat_strs : ∀ ss : List Str, (ss.map V.str).all flatV = true
  | [] => rfl
  | _ :: ss => by
    rw [List.map_cons, List.all_cons, flat_strs ss]
    rfl
theorem inq {K : PySem.W.Frag} {H : Hp} {p : Addr} {ss : List Str} {k : Str} {Q : VK} (h : SqT K H p (ss.map V.str)) (q : Q (.bl (decide (k ∈ ss))) H) : rIn K false (.str k) (.ref p) H Q :=
  ⟨p, _, rfl, .inr h, rfl, flat_strs ss, by rw [in_strs]; exact q⟩
theorem rev0 : pk3 ([] : List V) none none (-1) = [] := by simp [pk3, Builtin.Slice.slicePlaces, Builtin.Slice.sliceAdjust]
theorem rev1 (x : V) : pk3 [x] none none (-1) = [x] := by
  have e : Builtin.Slice.slicePlaces (Builtin.Slice.sliceAdjust none none (-1) ((1 : Nat) : Int)).1 (Builtin.Slice.sliceAdjust none none (-1) ((1 : Nat) : Int)).2 (-1) = 1 := by decide
  unfold pk3
  rw [show [x].length = 1 from rfl, e]
  rfl
theorem rev2 (x y : V) : pk3 [x, y] none none (-1) = [y, x] := by
  have e : Builtin.Slice.slicePlaces (Builtin.Slice.sliceAdjust none none (-1) ((2 : Nat) : Int)).1 (Builtin.Slice.sliceAdjust none none (-1) ((2 : Nat) : Int)).2 (-1) = 2 := by decide
  unfold pk3
  rw [show [x, y].length = 2 from rfl, e]
  rfl
/-! ### formulas in the heap -/
theorem sqt_same {K : PySem.W.Frag} {H H' : Hp} {a : Addr} {xs : List V} (e : Same H H') (h : SqT K H a xs) : SqT K H' a xs := by
  rcases h with (h | ⟨o, h⟩) | h
  · exact .inl (.inl (e _ _ h))
  · exact .inl (.inr ⟨o, e _ _ h⟩)
  · exact .inr h
theorem sqt_kp {K : PySem.W.Frag} {H H' : Hp} {d a : Addr} {xs : List V} {ys : List V} (hd : H d = some (.lst ys)) (e : Kp d H H') (h : SqT K H a xs) : SqT K H' a xs := by
  rcases h with (h | ⟨o, h⟩) | h
  · exact .inl (.inl (e _ _ (ne_of h hd (by intro z; cases z)) h))
  · exact .inl (.inr ⟨o, e _ _ (ne_of h hd (by intro z; cases z)) h⟩)
  · exact .inr h
def FmAt (K : PySem.W.Frag) (H : Hp) : V → Fm → Prop
  | v, .c0 k => ∃ a, v = .ref a ∧ SqT K H a [.str k]
  | v, .sg s => ∃ a, v = .ref a ∧ SqT K H a [.str sSig, .str s]
  | v, .un k f => ∃ a x, v = .ref a ∧ SqT K H a [.str k, x] ∧ FmAt K H x f
  | v, .bin k f g => ∃ a x y, v = .ref a ∧ SqT K H a [.str k, x, y] ∧ FmAt K H x f ∧ FmAt K H y g
theorem FmAt.same {K : PySem.W.Frag} {H H' : Hp} (e : Same H H') : ∀ {f : Fm} {v : V}, FmAt K H v f → FmAt K H' v f
  | .c0 _, _, ⟨a, h1, h2⟩ => ⟨a, h1, sqt_same e h2⟩
  | .sg _, _, ⟨a, h1, h2⟩ => ⟨a, h1, sqt_same e h2⟩
  | .un _ _, _, ⟨a, x, h1, h2, h3⟩ => ⟨a, x, h1, sqt_same e h2, h3.same e⟩
  | .bin _ _ _, _, ⟨a, x, y, h1, h2, h3, h4⟩ => ⟨a, x, y, h1, sqt_same e h2, h3.same e, h4.same e⟩
theorem FmAt.kp {K : PySem.W.Frag} {H H' : Hp} {d : Addr} {ys : List V} (hd : H d = some (.lst ys)) (e : Kp d H H') : ∀ {f : Fm} {v : V}, FmAt K H v f → FmAt K H' v f
  | .c0 _, _, ⟨a, h1, h2⟩ => ⟨a, h1, sqt_kp hd e h2⟩
  | .sg _, _, ⟨a, h1, h2⟩ => ⟨a, h1, sqt_kp hd e h2⟩
  | .un _ _, _, ⟨a, x, h1, h2, h3⟩ => ⟨a, x, h1, sqt_kp hd e h2, h3.kp hd e⟩
  | .bin _ _ _, _, ⟨a, x, y, h1, h2, h3, h4⟩ => ⟨a, x, y, h1, sqt_kp hd e h2, h3.kp hd e, h4.kp hd e⟩
/-- its sign -/
theorem FmAt.tup {K : PySem.W.Frag} {H : Hp} : ∀ {f : Fm} {v : V}, FmAt K H v f → ∃ a xs, v = .ref a ∧ SqT K H a (.str (kd f) :: xs)
  | .c0 _, _, ⟨a, h1, h2⟩ => ⟨a, _, h1, h2⟩
  | .sg _, _, ⟨a, h1, h2⟩ => ⟨a, _, h1, h2⟩
  | .un _ _, _, ⟨a, x, h1, h2, h3⟩ => ⟨a, _, h1, h2⟩
  | .bin _ _ _, _, ⟨a, x, y, h1, h2, h3, h4⟩ => ⟨a, _, h1, h2⟩
def FmsAt (K : PySem.W.Frag) (H : Hp) : List V → List Fm → Prop
  | [], [] => True
  | v :: vs, f :: fs => FmAt K H v f ∧ FmsAt K H vs fs
  | _, _ => False
theorem FmsAt.same {K : PySem.W.Frag} {H H' : Hp} (e : Same H H') : ∀ {vs : List V} {fs : List Fm}, FmsAt K H vs fs → FmsAt K H' vs fs
  | [], [], _ => trivial
  | _ :: _, _ :: _, h => ⟨h.1.same e, h.2.same e⟩
theorem FmsAt.kp {K : PySem.W.Frag} {H H' : Hp} {d : Addr} {ys : List V} (hd : H d = some (.lst ys)) (e : Kp d H H') : ∀ {vs : List V} {fs : List Fm}, FmsAt K H vs fs → FmsAt K H' vs fs
  | [], [], _ => trivial
  | _ :: _, _ :: _, h => ⟨h.1.kp hd e, h.2.kp hd e⟩
theorem FmsAt.len {K : PySem.W.Frag} {H : Hp} : ∀ {vs : List V} {fs : List Fm}, FmsAt K H vs fs → vs.length = fs.length
  | [], [], _ => rfl
  | _ :: _, _ :: _, h => congrArg (· + 1) h.2.len
theorem FmsAt.app {K : PySem.W.Frag} {H : Hp} : ∀ {vs us : List V} {fs gs : List Fm}, FmsAt K H vs fs → FmsAt K H us gs → FmsAt K H (vs ++ us) (fs ++ gs)
  | [], _, [], _, _, h => h
  | _ :: _, _, _ :: _, _, h, h' => ⟨h.1, h.2.app h'⟩
theorem FmsAt.rev {K : PySem.W.Frag} {H : Hp} : ∀ {vs : List V} {fs : List Fm}, FmsAt K H vs fs → FmsAt K H vs.reverse fs.reverse
  | [], [], _ => trivial
  | v :: vs, f :: fs, h => by
    rw [List.reverse_cons, List.reverse_cons]
    exact h.2.rev.app ⟨h.1, trivial⟩
theorem FmsAt.get {K : PySem.W.Frag} {H : Hp} : ∀ {vs : List V} {fs : List Fm} {i : Nat} {v : V}, FmsAt K H vs fs → vs[i]? = some v → ∃ f, fs[i]? = some f ∧ FmAt K H v f
  | [], [], _, _, _, e => by simp at e
  | v :: vs, f :: fs, 0, _, h, e => ⟨f, rfl, by cases e; exact h.1⟩
  | _ :: vs, _ :: fs, i + 1, _, h, e => by
    rw [List.getElem?_cons_succ] at e ⊢
    exact h.2.get e
/-! ### promises -/
def bi (b : Bool) : Int := if b = true then 1 else 0
/-- a module's tuple of texts -/
structure GloT (K : PySem.W.Frag) (mg : Str → Option Value) (x : Str) (ss : List Str) (a : Addr) : Prop where
  g : mg x = some (.ref a)
  q : ∀ H, SqT K H a (ss.map V.str)
def spOpers (K : PySem.W.Frag) : Sp := fun vs H Q _ => ∃ (v : V) (f : Fm) (nm : List Str), vs = [v] ∧ FmAt K H v f ∧ Wf nm f ∧
  ∀ (H' : Hp) (p : Addr) (xs : List V), Same H H' → H' p = some (.tup xs) → FmsAt K H' xs (kids f) → Q (.ref p) H'
def spSubs (K : PySem.W.Frag) : Sp := fun vs H Q _ => ∃ (v : V) (f : Fm) (nm : List Str), vs = [v] ∧ FmAt K H v f ∧ Wf nm f ∧ sz f ≤ 1000 ∧
  ∀ (H' : Hp) (p : Addr) (xs : List V), Same H H' → H' p = some (.lst xs) → FmsAt K H' xs (pre f) → Q (.ref p) H'
def PtsAt (H : Hp) : List Addr → List Pt → Prop
  | [], [] => True
  | a :: as, p :: ps => H a = some (.tup [.str p.1, .int p.2.1, .int p.2.2]) ∧ PtsAt H as ps
  | _, _ => False
def spParts (K : PySem.W.Frag) : Sp := fun vs H Q _ => ∃ (v : V) (n : Addr) (f : Fm) (nm : List Str), vs = [v, .ref n] ∧ FmAt K H v f ∧ SqL K H n (nm.map V.str) ∧ Wf nm f ∧ sz f ≤ 1000 ∧
  ∀ (H' : Hp) (p : Addr) (as : List Addr) (P : List Pt) (Fs : List Fm), Same H H' → H' p = some (.lst (as.map V.ref)) → PtsAt H' as P → Good nm P Fs → Fs.getLast? = some f → P.length ≤ 1000 → Q (.ref p) H'
def spTof : Sp := fun vs H Q _ => ∃ (k : Str) (a b c : Bool), vs = [.str k, .int (bi a), .int (bi b), .int (bi c), .int 1] ∧ ∀ H', Same H H' → Q (.int (bi (tofB k a b c))) H'
def spPl : Sp := fun vs H Q _ => ∃ (k : Str) (a b : Bool), vs = [.str k, .int (bi a), .int (bi b), .int 1] ∧ ∀ H', Same H H' → Q (.int (bi (plB k a b))) H'
def Arr (H : Hp) (a : Addr) (N : Nat) (s : Nat → Bool) : Prop := H a = some (.lst ((List.range N).map fun t => V.int (bi (s t))))
def spPast : Sp := fun vs H Q _ => ∃ (k : Str) (l r : Addr) (N : Nat) (a b : Nat → Bool), vs = [.str k, .ref l, .ref r] ∧ k ∈ past ∧ Arr H l N a ∧ Arr H r N b ∧ N ≤ 1000000 ∧
  ∀ (H' : Hp) (p : Addr), Same H H' → Arr H' p N (sq k a b) → Q (.ref p) H'
def spFut : Sp := fun vs H Q _ => ∃ (k : Str) (l r : Addr) (m L : Nat) (a b : Nat → Bool), vs = [.str k, .ref l, .ref r, .int m] ∧ ¬ k ∈ past ∧ k ∈ future ∧ 0 < L ∧ Pd a m L ∧ Pd b m L ∧ Arr H l (m + L) a ∧ Arr H r (m + L) b ∧ m + L ≤ 1000000 ∧
  ∀ (H' : Hp) (p : Addr), Same H H' → Arr H' p (m + L) (sq k a b) → Q (.ref p) H'
def ArrsAt (H : Hp) (N : Nat) : List Addr → List (Nat → Bool) → Prop
  | [], [] => True
  | a :: as, s :: ss => Arr H a N s ∧ ArrsAt H N as ss
  | _, _ => False
def spPv (K : PySem.W.Frag) : Sp := fun vs H Q _ => ∃ (p q : Addr) (h m L : Nat) (as : List Addr) (P : List Pt) (Fs : List Fm) (nm : List Str) (x : Nat → Int), vs = [.ref p, .ref q, .int m] ∧ H p = some (.lst (as.map V.ref)) ∧ PtsAt H as P ∧ P.length ≤ 1000 ∧
  TupI H q ((List.range (m + L)).map x) ∧ 0 < L ∧ m + L ≤ 1000000 ∧ h + pc P * L ≤ m ∧ (∀ t, h ≤ t → x (t + L) = x t) ∧ (∀ t, 0 ≤ x t) ∧ Good nm P Fs ∧
  ∀ (H' : Hp) (f : Addr) (fs : List Addr), Same H H' → H' f = some (.lst (fs.map V.ref)) → ArrsAt H' (m + L) fs (Fs.map (sem nm x)) → Q (.ref f) H'
def spTw (K : PySem.W.Frag) : Sp := fun vs H Q _ => ∃ (v : V) (n p : Addr) (f : Fm) (nm : List Str) (h l : List Int), vs = [v, .ref n, .ref p] ∧ FmAt K H v f ∧ SqL K H n (nm.map V.str) ∧ nm.length ≤ 30 ∧ Wf nm f ∧ sz f ≤ 500 ∧ Las H p h l ∧ l ≠ [] ∧ h.length ≤ 300 ∧ l.length ≤ 300 ∧
  (∀ z, z ∈ h ∨ z ∈ l → 0 ≤ z ∧ z < 2 ^ nm.length) ∧
  ∀ (H' : Hp) (q : Addr) (h' l' : List Int), Same H H' → Las H' q h' l' → Nrm h' l' → (∀ t, wat h' l' t = bi (sem nm (wat h l) f t)) → Q (.ref q) H'
end Bx
/-! ### own rules: set(xs), xs a list of texts; sorted of it -/
namespace Sxt
open PySem PySem.Spec PyProof.Rows L2 PySem.Froz
abbrev nul (w : World) : Obj := { cls := .type "set", dict := none, data := .set #[] 0 (.fresh 0 0 (!w.params.followText "set-order")) }
theorem strs_len : ∀ {us : List Value} {xs : List Str}, StrsAre us xs → us.length = xs.length
  | _, _, .nil => rfl
  | _, _, .cons _ _ t => by rw [List.length_cons, List.length_cons, strs_len t]
theorem addTx_keeps {h : Int} {v : Value} {D : SD} (r : Ris D.2.2.place.toList) : Ris (addTx h v D).2.2.place.toList ∧ (addTx h v D).2.2.led = D.2.2.led := by
  obtain ⟨es, ep, t⟩ := D
  have a := layNew_ris t es h v r
  have b := layNew_led t es h v
  unfold addTx tailTx
  dsimp only
  generalize layNew t es h v = Z at a b ⊢
  obtain ⟨es1, t1, wd, gv⟩ := Z
  dsimp only at a b ⊢
  have c : Ris (if t1.plain = true then { t1 with plain := false } else t1).place.toList ∧ (if t1.plain = true then { t1 with plain := false } else t1).led = t.led := by
    split
    · exact ⟨a, b⟩
    · exact ⟨a, b⟩
  generalize (if t1.plain = true then { t1 with plain := false } else t1) = t2 at c ⊢
  split
  · exact ⟨relayAll_ris _ _ _, by rw [relayAll_led]; exact c.2⟩
  · exact c
/-- the set at a holds the texts us -/
def SetTx (P : Program) (w : World) (h : Heap) (a : Addr) (us : List Str) : Prop :=
  ∃ D : SD, h.get? a = some (sObj "set" D) ∧ TxOk P w D us ∧ us.Nodup ∧ Ris D.2.2.place.toList ∧ (w.params.followText "set-order" = true ∨ D.2.2.led = true)
theorem SetTx.at {P : Program} {w : World} {h h' : Heap} {a : Addr} {us : List Str} (R : SetTx P w h a us) (k : ∀ o, h.get? a = some o → h'.get? a = some o) : SetTx P w h' a us := by
  obtain ⟨D, ho, r⟩ := R
  exact ⟨D, k _ ho, r⟩
theorem SetTx.new {P : Program} {w : World} {h : Heap} {a : Addr} (ho : h.get? a = some (nul w)) : SetTx P w h a [] :=
  ⟨(#[], 0, .fresh 0 0 (!w.params.followText "set-order")), ho, TxOk.nil (by rfl), List.nodup_nil, List.Pairwise.nil, by
    show _ ∨ (!w.params.followText "set-order") = true
    cases w.params.followText "set-order"
    · exact .inr rfl
    · exact .inl rfl⟩
section
variable {P : Program} {w : World} {A : Around} {E : Value → Shared → Prop} {s : Shared}
theorem old_x {a : Addr} {T : String} {D : SD} {l : List Str} {k : Str} {u : Tok} {Q : Bool → Shared → Prop} (ho : s.heap.get? a = some (sObj T D)) (F : TxOk P w D l) (hk : k ∈ l) (hb : l.length < scanBound)
    (h : Q false s) : wpAny (model P w) A (setAddHashed a (.str k u) (hashStr w k)) Q E s := by
  obtain ⟨es, ep, t⟩ := D
  have hel : ElemsOf (strKind P w) es.toList := F.el
  have hsz : es.size = l.length := F.sz
  have hkey : (strKind P w).is k (.str k u) = true := is_str k u
  obtain ⟨e, he, q⟩ := (F.mem k).mp hk
  cases hr : List.findIdx? (fun e => (strKind P w).is k e.2) es.toList with
  | none =>
    have c := List.findIdx?_eq_none_iff.mp hr e he
    rw [q] at c
    cases c
  | some j =>
    unfold setAddHashed setAddHashedIn
    refine wpAny_holding (wpAny_bind (wpAny_setState_of ho rfl F.fit ?_))
    dsimp only
    rw [byScan_of rfl (show es.size < scanBound by omega) hel]
    simp only [↓reduceIte]
    unfold setAddByScan
    refine wpAny_bind ?_
    refine wpAny_bind (wpAny_rule ?_)
    refine wpAny_bind (wpAny_setScan_of (knd := strKind P w) (k := k) hkey ho rfl F.fit hel ?_)
    rw [hr]
    dsimp only
    exact wpAny_pure (wpAny_pure h)
/-- one more text -/
theorem more_x {a : Addr} {us : List Str} {k : Str} {u : Tok} {Q : Bool → Shared → Prop} (R : SetTx P w s.heap a us) (hb : us.length + 1 < scanBound)
    (h : ∀ b h' us', (∀ c, c ≠ a → h'.get? c = s.heap.get? c) → SetTx P w h' a us' → (∀ z, z ∈ us' ↔ z = k ∨ z ∈ us) → us'.length ≤ us.length + 1 → Q b { s with heap := h' }) : wpAny (model P w) A (setAddHashed a (.str k u) (hashStr w k)) Q E s := by
  obtain ⟨D, ho, F, nd, r, hl⟩ := R
  by_cases c : k ∈ us
  · refine old_x ho F c (by omega) ?_
    exact h false s.heap us (fun _ _ => rfl) ⟨D, ho, F, nd, r, hl⟩ (fun z => ⟨.inr, fun q => q.elim (fun e => e ▸ c) id⟩) (Nat.le_succ _)
  · refine add_x ho F c hb ?_
    obtain ⟨k1, k2⟩ := addTx_keeps (h := hashStr w k) (v := .str k u) r
    refine h true _ (k :: us) (fun b hb' => Heap.get?_update_other _ _ (Ne.symm hb')) ⟨_, get_upd _ ho rfl, add_ok u F, List.nodup_cons.mpr ⟨c, nd⟩, k1, ?_⟩ (fun z => List.mem_cons) (Nat.le_refl _)
    rw [k2]; exact hl
/-- us holds what ns holds, once each -/
def Hol (ns us : List Str) (i : Nat) : Prop := us.length ≤ i ∧ ∀ z, z ∈ us ↔ z ∈ ns.take i
theorem update_x {I : Addr} {fp wr : List Addr} {G : Array GenState → Array GenState → Prop} {n : Nat} {Pv : Nat → Value → Prop} {St : Nat → Shared → Prop} {R : Result → Shared → Prop}
    (W : WalksS P w A.in1 I fp wr G n Pv St) (S : Addr) (hSf : S ∉ fp) (ns : List Str) (hn : n = ns.length) (hb : ns.length + 1 < scanBound) (hval : ∀ i v, Pv i v → ∃ k t, ns[i]? = some k ∧ v = .str k t) :
    ∀ (k i : Nat) (s : Shared), n - i = k → i ≤ n → St i s → (∃ us, Hol ns us i ∧ SetTx P w s.heap S us) →
      (∀ s' us, Moved (S :: wr) G s s' → Hol ns us n → SetTx P w s'.heap S us → R (.ok (.ret .none)) s') →
      codeAny (model P w) A (.builtin "set.update.loop" ⟨[.ref S, .ref I], []⟩) R s := by
  have hSw : S ∉ wr := fun h => hSf (W.sub _ h)
  have hsub : ∀ b ∈ wr, b ∈ S :: wr := fun b hb => List.mem_cons_of_mem _ hb
  intro k
  induction k with
  | zero =>
    intro i s hk' hi hst ⟨us, hc, hS⟩ hR
    have hin : i = n := by omega
    subst hin
    refine codeAny_builtin F.entry_set_update_loop ?_
    rw [Around.under_plainId F.plain_set_update_loop _]
    show wpAny _ A.in1 (pyNext (.ref I) >>= _) _ _ s
    refine wpAny_bind (W.done s _ _ hst fun s' hm => ?_)
    show wpAny _ A.in1 (ret Value.none) _ _ s'
    exact wpAny_pure (hR s' us (hm.mono hsub) hc (hS.at fun o e => hm.heap S o hSw e))
  | succ k ih =>
    intro i s hk' hi hst ⟨us, hc, hS⟩ hR
    have hlt : i < n := by omega
    refine codeAny_builtin F.entry_set_update_loop ?_
    rw [Around.under_plainId F.plain_set_update_loop _]
    show wpAny _ A.in1 (pyNext (.ref I) >>= _) _ _ s
    refine wpAny_bind (W.item i s _ _ hlt hst fun v s' hP hst' hm => ?_)
    obtain ⟨z, t, hz, rfl⟩ := hval i v hP
    have hS' : SetTx P w s'.heap S us := hS.at fun o e => hm.heap S o hSw e
    show wpAny _ A.in1 (holding [Value.str z t] (setAdd S (.str z t)) >>= _) _ _ s'
    refine wpAny_bind (wpAny_holding ?_)
    unfold setAdd
    refine wpAny_holding ?_
    refine wpAny_bind ((strKind P w).pyHash (k := z) (is_str z t) ?_)
    refine more_x (s := { s' with toks := s'.toks + 1 }) hS' (by have := hc.1; omega) fun b h' us' hoth hS2 hm2 hl2 => ?_
    have hc3 : Hol ns us' (i + 1) := by
      refine ⟨by have := hc.1; omega, fun y => ?_⟩
      rw [hm2, List.take_add_one, hz, List.mem_append, hc.2]
      show _ ↔ _ ∨ y ∈ [z]
      rw [List.mem_singleton]
      exact Or.comm
    refine wpAny_pure ⟨plainId_quiet F.plain_set_update_loop _, ih (i + 1) _ (by omega) hlt (W.frame _ s' _ _ hst' (Nat.le_succ _) fun b hb o e => ?_) ⟨_, hc3, hS2⟩ fun s'' c2 hm'' hc'' hS'' => ?_⟩
    · rw [hoth b (fun h : b = S => hSf (by rw [← h]; exact hb))]; exact e
    · refine hR s'' c2 (Moved.trans W.gtrans ((hm.mono hsub).then_heap (Nat.le_succ _) fun b o hb e => ?_) hm'') hc'' hS''
      rw [hoth b (fun h : b = S => hb (by rw [h]; exact List.mem_cons_self))]; exact e
/-- what the filling leaves behind -/
def Filled (P : Program) (w : World) (s : Shared) (ns : List Str) (s2 : Shared) : Prop := ∃ h' tk us, s2 = { s with heap := h', toks := tk } ∧ SetTx P w h' s.heap.objs.size us ∧ Hol ns us ns.length ∧ ∀ b o, s.heap.get? b = some o → h'.get? b = some o
theorem set_of_tx {l : Addr} {items : Array Value} (ns : List Str) {Q : Value → Shared → Prop} (hh : A.handled = none) (hl : s.heap.IsList l items) (hit : StrsAre items.toList ns) (hb : ns.length + 1 < scanBound)
    (h : ∀ s2, Filled P w s ns s2 → Q (.ref s.heap.objs.size) s2) : wpAny (model P w) A (call (.type "set") [.ref l]) Q E s := by
  have hisz : items.size = ns.length := by
    have q := strs_len hit
    rwa [Array.length_toList] at q
  have hS : (s.heap.push (nul w)).get? s.heap.objs.size = some (nul w) := Heap.get?_push_size _ rfl
  have hlt : l < s.heap.objs.size := by
    obtain ⟨o, ho, _⟩ := hl
    exact Heap.lt_size ho
  obtain ⟨c, tl, hmro⟩ := F.called_set.mro
  have m1 := F.called_set.made
  have m2 := F.called_set.sub
  refine wpAny_call (codeAny_of_tree ?_)
  show wpAny _ _ (callAny (.type "set") _) _ _ _
  refine wpAny_pure ⟨Code.quiet_builtin _ (by decide +kernel), codeAny_builtin F.entry_type_call ?_⟩
  rw [Around.under_plain (weight_type_call_type "set" [.ref l] []) rfl]
  have m3 := F.called_set.notType
  have m4 := F.called_set.canCreate
  have m5 := F.typeCall_set_1 (.ref l)
  repeat (any_goals (first | assumption | wp_step))
  refine codeAny_mono (code_set_led1 (.ref l) (E := E) (Q₁ := fun obj s1 => obj = .ref s.heap.objs.size ∧ s1 = { s with heap := s.heap.push (nul w) }) ⟨rfl, rfl⟩) fun r s1 hr => ?_
  cases r with
  | error e => exact hr
  | ok fl =>
    cases fl with
    | next => exact hr.elim
    | brk => exact hr.elim
    | cont => exact hr.elim
    | ret obj =>
      obtain ⟨rfl, rfl⟩ := hr
      have hT : Shared.TypeIs { s with heap := s.heap.push (nul w) } (.ref s.heap.objs.size) "set" := ⟨_, hS, rfl⟩
      have m6 := F.called_set.init.lookup
      have m7 := F.called_set.init.bind (.ref s.heap.objs.size)
      repeat (any_goals (first | assumption | wp_step))
      refine codeAny_mono (codeAny_call_builtin (R := wants (fun r s2 => r = .none ∧ Filled P w s ns s2) E) F.called_set.init.plain F.entry_set_init (check_set_init_1 hT ?_)) fun r2 s2 hr2 => ?_
      · obtain ⟨ol, hol, hcl, nl, hdl⟩ := hl
        obtain ⟨ocls, odict, odata, oslots⟩ := ol
        simp only at hcl hdl
        subst hcl
        subst hdl
        have hol' := Heap.get?_push_of_some (nul w) hol
        have q1 := F.sub_list_set
        have q2 := F.sub_list_frozenset
        have q3 : (Value.type "list" == Value.type "dict") = false := by decide
        have hl1 : (s.heap.push (nul w)).IsList l items := ⟨_, hol', rfl, nl, rfl⟩
        unfold Builtin.«set.__init__» noKeywords Builtin.Frozenset.updateFrom
        generalize hPI : pyIter = PI
        wp_walk
        subst hPI
        refine wpAny_pyIter_list hl1 ?_
        refine wpAny_bind (wpAny_runValue ?_)
        have hh3 : A.in1.in1.in1.handled = none := by simp [hh]
        have n1 : l ≠ (s.heap.push (nul w)).objs.size := by
          rw [Heap.size_push]
          exact Nat.ne_of_lt (Nat.lt_succ_of_lt hlt)
        have n2 : s.heap.objs.size ∉ [(s.heap.push (nul w)).objs.size, l] := by
          rw [Heap.size_push]
          simp only [List.mem_cons, List.not_mem_nil, or_false, not_or]
          exact ⟨Nat.ne_of_lt (Nat.lt_succ_self _), Nat.ne_of_gt hlt⟩
        have vals : ∀ (i : Nat) (v : Value), items[i]? = some v → ∃ k t, ns[i]? = some k ∧ v = .str k t := fun i v hv => by
          have hi : i < ns.length := by rw [← hisz]; exact (Array.getElem?_eq_some_iff.mp hv).1
          obtain ⟨t, e⟩ := SS.strs_at hit i v (by rw [Array.getElem?_toList]; exact hv)
          exact ⟨ns[i], t, List.getElem?_eq_getElem hi, by rw [e, List.getD_eq_getElem?_getD, List.getElem?_eq_getElem hi]; rfl⟩
        refine update_x ((Walks.list hh3 _ l n1 items).toS) s.heap.objs.size n2 ns hisz hb vals (items.size - 0) 0 _ (by omega) (Nat.zero_le _)
          ⟨⟨_, Heap.get?_push_size _ rfl, rfl, rfl⟩, (hl1.push _)⟩ ⟨[], ⟨Nat.le_refl 0, fun z => by simp⟩, SetTx.new (Heap.get?_push_of_some _ hS)⟩ fun s' c' hm hc' hS' => ?_
        obtain ⟨h', g2, d', tk', os'⟩ := s'
        obtain rfl : g2 = s.gens := hm.gens
        obtain rfl : d' = s.drawn := hm.drawn
        obtain rfl : os' = s.os := hm.os
        show wpAny _ _ _ _ _ _
        refine wpAny_pure ?_
        show wpAny _ _ (ret Value.none) _ _ _
        rw [hisz] at hc'
        refine wpAny_pure ⟨rfl, h', tk', c', rfl, hS', hc', fun b o e => ?_⟩
        have b0 : b < s.heap.objs.size := Heap.lt_size e
        refine hm.heap b o ?_ (Heap.get?_push_of_some _ (Heap.get?_push_of_some _ e))
        rw [Heap.size_push]
        simp only [List.mem_cons, List.not_mem_nil, or_false, not_or]
        exact ⟨Nat.ne_of_lt b0, Nat.ne_of_lt (Nat.lt_succ_of_lt b0)⟩
      · cases r2 with
        | error e => exact hr2
        | ok fl2 =>
          cases fl2 with
          | next => exact hr2.elim
          | brk => exact hr2.elim
          | cont => exact hr2.elim
          | ret r =>
            obtain ⟨rfl, hf⟩ := hr2
            have hf2 := hf
            obtain ⟨h', tk, c, rfl, _⟩ := hf2
            repeat (any_goals (first | assumption | wp_step))
            exact h _ hf
theorem perm_of_sub : ∀ (l ss : List Str), l.Nodup → (∀ z ∈ l, z ∈ ss) → ss.length ≤ l.length → ss.Perm l
  | [], ss, _, _, h => by rw [List.length_eq_zero_iff.mp (Nat.le_zero.mp h)]
  | x :: l, ss, nd, h, hl => by
    obtain ⟨n1, n2⟩ := List.nodup_cons.mp nd
    have hx := h x List.mem_cons_self
    have p := List.perm_cons_erase hx
    refine p.trans (List.Perm.cons x (perm_of_sub l (ss.erase x) n2 (fun z hz => ?_) ?_))
    · exact (List.mem_erase_of_ne (fun e : z = x => n1 (by rw [← e]; exact hz))).mpr (h z (List.mem_cons_of_mem _ hz))
    · rw [List.length_erase_of_mem hx]
      simp only [List.length_cons] at hl
      omega
theorem strs_of_all : ∀ (vs : List Value), (∀ v ∈ vs, ∃ k t, v = Value.str k t) → StrsAre vs (vs.map strOf)
  | [], _ => .nil
  | v :: vs, h => by
    obtain ⟨k, t, rfl⟩ := h v List.mem_cons_self
    exact .cons k t (strs_of_all vs fun u hu => h u (List.mem_cons_of_mem _ hu))
theorem sorted_tx {a : Addr} {us : List Str} {Q : Value → Shared → Prop} (R : SetTx P w s.heap a us) (hh : A.handled = none) (h64 : us.length < 64)
    (hQ : ∀ s' p (out : Array Value) (c : Nat) (ys : List Str), (∀ b o, s.heap.get? b = some o → s'.heap.get? b = some o) → s'.gens = s.gens → s'.os = s.os → s.heap.objs.size ≤ p →
      s'.heap.get? p = some (seqObj "list" out c) → StrsAre out.toList ys → ys.Perm us → sortedS ys = true → Q (.ref p) s') :
    wpAny (model P w) A (call (.builtin "sorted") [.ref a]) Q E s := by
  obtain ⟨⟨es, ep, t⟩, ho, F, nd, r, hl⟩ := R
  have hsz : es.size = us.length := F.sz
  have hbd : es.size < scanBound := by
    have : scanBound = 4096 := rfl
    omega
  refine Calls.call_function_entry kind_sorted plain_sorted entry_sorted (args_sorted1 _) ?_
  unfold Builtin.«sorted»
  refine wpAny_bind (m := checkCount "sorted" 1 1 _) (wpAny_pure ?_)
  refine wpAny_bind (collect_set (A := A.in1) hh ⟨_, ho, rfl, rfl⟩ F.fit hbd r hl fun s1 vs k1 hz g1 o1 pm => ?_)
  have hvl : vs.length = us.length := by rw [pm.length_eq, List.length_map, Array.length_toList]; exact hsz
  have hI : StrsAre vs (vs.map strOf) := strs_of_all vs fun v hv => by
    obtain ⟨e, he, q⟩ := List.mem_map.mp (pm.mem_iff.mp hv)
    obtain ⟨⟨k, hk, _⟩, _⟩ := F.el e he
    obtain ⟨u, hu⟩ := Value.isStrOf_shape (show Value.isStrOf k e.2 = true from hk)
    exact ⟨k, u, by rw [← q]; exact hu⟩
  have pk : (vs.map strOf).Perm us := by
    refine perm_of_sub us _ nd (fun z hz => ?_) (by rw [List.length_map, hvl]; exact Nat.le_refl _)
    obtain ⟨e, he, q⟩ := (F.mem z).mp hz
    obtain ⟨u, hu⟩ := Value.isStrOf_shape (show Value.isStrOf z e.2 = true from q)
    exact List.mem_map.mpr ⟨e.2, pm.mem_iff.mpr (List.mem_map.mpr ⟨e, he, rfl⟩), by rw [hu]; rfl⟩
  refine wpAny_bind (wpAny_newList ?_ (by rw [hvl, sizeLine_eq]; omega))
  have hoL : (s1.heap.push (seqObj "list" vs.toArray 0)).get? s1.heap.objs.size = some (seqObj "list" vs.toArray 0) := Heap.get?_push_size _ rfl
  refine wpAny_bind (wpAny_holding (wpAny_call_entry slot_list_sort ⟨_, hoL, rfl⟩ entry_list_sort (list_sort_treeK strKind_oneLt hoL hI.keysOf (fun v₁ v₂ rest e => keyKind_strs (by rw [← e]; exact hI)) (by rw [hvl]; exact h64) fun st' hp hs => ⟨_, rfl, ?_⟩) (args_list_sort _)))
  obtain ⟨ys, a1, a2, a3⟩ := sorted_out_str hI hp hs
  obtain ⟨c, hc⟩ := sortedHeap_at (vs := vs) (out := (arrOf st').map (·.2)) hoL
  refine wpAny_pure ⟨_, rfl, hQ _ s1.heap.objs.size _ c ys (fun b u e => ?_) g1 o1 hz hc a1 (a2.trans pk) a3⟩
  have q := k1 b u e
  have hlt := Heap.lt_size q
  show (sortedHeap (s1.heap.push (seqObj "list" vs.toArray 0)) s1.heap.objs.size vs _).get? b = some u
  rw [sortedHeap_old (Nat.ne_of_lt hlt) (by rw [size_push']; exact Nat.lt_succ_of_lt hlt)]
  exact Heap.get?_push_of_some _ q
end
section
variable {X : Cx} {K : PySem.W.Frag} {w : World} {P : Program}
/-- the set of texts at a -/
def SetTxO (P : Program) (w : World) (a : Addr) (us : List Str) : HO := .ext fun h => SetTx P w h a us
theorem setTxO_new {H : Hp} {h : Heap} {a : Addr} {us : List Str} (R : SetTx P w h a us) : ObjOk P w H h a (SetTxO P w a us) := by
  have ⟨_, ho, _⟩ := R
  exact ⟨R, ⟨_, ho⟩, fun h1 h2 p k => SetTx.at p k⟩
/-- set(xs), xs a list of texts -/
def rSetTx (K : PySem.W.Frag) (P : Program) (w : World) : List V → Hp → VK → Prop := fun xs H Q => ∃ (l : Addr) (ns : List Str), xs = [V.ref l] ∧ SqL K H l (ns.map V.str) ∧ ns.length + 1 < scanBound ∧
  ∀ p us, H p = none → us.length ≤ ns.length → (∀ z, z ∈ us ↔ z ∈ ns) → us.Nodup → Q (.ref p) (upd H p (SetTxO P w p us))
theorem cr_setTx (hp : X.prog = P) (h : X.K = K) (hw : X.w = w) (hc : X.calm = true) : CallR X (.type "set") (rSetTx K P w) := by
  subst h
  subst hw
  subst hp
  intro pins s σ H xs us Q I r h
  obtain ⟨l, ns, rfl, hl, hb, q⟩ := h
  rw [Vals.ref1 r]
  obtain ⟨its, rv, pl, hz⟩ := I.list hl
  refine set_of_tx (P := X.prog) (w := X.w) ns (I.ok.hd hc) pl.isList (by simpa using strsAre_of rv) hb fun s2 hf => ?_
  obtain ⟨h', tk, us, rfl, R, hcl, hk⟩ := hf
  have nd := R
  obtain ⟨_, _, _, nd, _⟩ := nd
  have hm := hcl.2
  rw [List.take_length] at hm
  exact ⟨.ref _, upd H s.heap.objs.size (SetTxO X.prog X.w s.heap.objs.size us), I.laid (t' := tk) hk (Nat.le_refl _) (setTxO_new R), rfl, q _ us (I.hok.fresh (Nat.le_refl _)) hcl.1 hm nd⟩
/-- sorted(set of texts), fewer than 64 members -/
def rSortTx (P : Program) (w : World) : List V → Hp → VK → Prop := fun vs H Q => ∃ (a : Addr) (us : List Str), vs = [V.ref a] ∧ H a = some (SetTxO P w a us) ∧ us.length < 64 ∧
  ∀ (ys : List Str) (p : Addr), ys.Perm us → sortedS ys = true → H p = none → Q (.ref p) (upd H p (.lst (ys.map V.str)))
theorem cr_sortTx (hp : X.prog = P) (hw : X.w = w) (hc : X.calm = true) : CallR X (.builtin "sorted") (rSortTx P w) := by
  subst hw
  subst hp
  intro pins s σ H vs us Q I r h
  obtain ⟨a, us, rfl, ha, h64, q⟩ := h
  have R : SetTx X.prog X.w s.heap a us := (I.hok a _ ha).1
  rw [Vals.ref1 r]
  refine sorted_tx R (I.ok.hd hc) h64 fun s' p out c ys k g o hp hg hi pm hs => ?_
  have hlen : (ys.map V.str).length ≤ sizeLine := by rw [List.length_map, pm.length_eq, sizeLine_eq]; omega
  have hn : H p = none := I.hok.fresh hp
  have J : Inv X pins σ (upd H p (.lst (ys.map V.str))) { s with heap := s'.heap, gens := s'.gens, drawn := s'.drawn, toks := s'.toks } :=
    I.call (ch := []) (Un.laid k hp hn) (I.hok.laid k hp ⟨hlen, out.toList, c, vals_of_strs hi, hg⟩) (by rw [g]; exact I.bare) (fun _ z => nomatch z)
  have e : s' = { s with heap := s'.heap, gens := s'.gens, drawn := s'.drawn, toks := s'.toks } := by
    cases s'
    cases s
    cases o
    rfl
  rw [e]
  exact ⟨.ref p, _, J, rfl, q ys p pm hs hn⟩
theorem cr_sortedSK (h : X.K = K) : CallR X (.builtin "sorted") (rSortedS K) := by
  subst h
  exact cr_sortedS
end
end Sxt

/-! ### own rules for a specification: a class whose __init__ has a keyword-only parameter and may raise -/
namespace Spx
open PySem PySem.Spec PyProof.Rows L2 Bx
def sf (i o : Addr) (L : Int) (a g : Addr) (n : Bool) : List (Str × V) := [("inputs", .ref i), ("outputs", .ref o), ("lead", .int L), ("assumptions", .ref a), ("guarantees", .ref g), ("negated", .bl n)]
theorem sf_new (i o L a g n) : putF "negated" (.bl n) (putF "guarantees" (.ref g) (putF "assumptions" (.ref a) (putF "lead" (.int L) (putF "outputs" (.ref o) (putF "inputs" (.ref i) []))))) = sf i o L a g n := by rfl
theorem sl_i (i o L a g n) : (sf i o L a g n).lookup ("inputs" : Str) = some (V.ref i) := by rfl
theorem sl_o (i o L a g n) : (sf i o L a g n).lookup ("outputs" : Str) = some (V.ref o) := by rfl
theorem sl_l (i o L a g n) : (sf i o L a g n).lookup ("lead" : Str) = some (V.int L) := by rfl
theorem sl_a (i o L a g n) : (sf i o L a g n).lookup ("assumptions" : Str) = some (V.ref a) := by rfl
theorem sl_g (i o L a g n) : (sf i o L a g n).lookup ("guarantees" : Str) = some (V.ref g) := by rfl
theorem sl_n (i o L a g n) : (sf i o L a g n).lookup ("negated" : Str) = some (V.bl n) := by rfl
structure SpcC (K : PySem.W.Frag) (C : Addr) : Prop where
  cl : Cls K C
  ni : NoAttr K C "inputs"
  no : NoAttr K C "outputs"
  nl : NoAttr K C "lead"
  na : NoAttr K C "assumptions"
  ng : NoAttr K C "guarantees"
  nn : NoAttr K C "negated"
/-- a class that may be made; its __init__ may raise and has a keyword-only parameter with a default, behind n others -/
structure MakH (P : Program) (w : World) (K : PySem.W.Frag) (mg : Str → Option Value) (base : Heap) (k : Nat) (x : Str) (C : Addr) (n : Nat) (y : Str) (dv : V) (sp : Sp) : Prop where
  ex : ∃ (f : Addr) (fd : FuncData) (ps : List Str), Mk K C f ∧ FnOk P w K mg base (L2.CX P w) k f fd ps sp ∧ mg x = some (.ref C) ∧
    (∃ ds, Vals [dv] ds ∧ Binds K fd ps ds) ∧ ∃ mv : List Value, KBn K fd ps (n + 1) [y] (fun us ws => us ++ mv ++ ws) (fun vs zs => vs ++ [] ++ zs)
section
variable {X : Cx}
/-- the making, once the arguments stand -/
theorem made_to {k : Nat} {f C : Addr} {fd : FuncData} {ps : List Str} {sp : Sp} {E : XK} {pins : List (Addr × Obj)} {σ : L2.St} {H : Hp} {u : Shared} {Q : VK} {us ts : List Value} {kws : List (Str × Value)} {vs : List V} (M : Mk X.K C f) (F : FnOk X.prog X.w X.K X.mg X.base (L2.CX X.prog X.w) k f fd ps sp) (hr : Room (k + 1) X.A)
    (hx : PassesAt (L2.CX X.prog X.w) X σ E) (I : Inv X pins σ H u) (r : ∀ z : Addr, Vals (.ref z :: vs) (.ref z :: ts)) (hb : ∀ z (u2 : Shared), X.K.In u2.heap → BindsTo u2 fd ⟨.ref z :: us, kws⟩ (ps.zip (.ref z :: ts)))
    (h : ∀ x dx, H x = none → H dx = none → dx ≠ x → sp (.ref x :: vs) (upd (upd H dx (.own x)) x (.ins C dx [])) (fun v H2 => v = .non ∧ Q (.ref x) H2) E) :
    wpAny (model X.prog X.w) X.A (call (.ref C) us kws) (EP X pins σ Q) X.xe u := by
  have q0 := h (u.heap.objs.size + 1) u.heap.objs.size (I.hok.fresh (Nat.le_succ _)) (I.hok.fresh (Nat.le_refl _)) (Nat.ne_of_lt (Nat.lt_succ_self _))
  have J := Inv.made (C := C) I
  refine wpAny_call (make_map (f := f) I.kIn M.makes M.init (beq_iff_eq.mp M.fn) (codeAny_mono (F.run _ X.stack _ _ ⟨Value.ref (u.heap.objs.size + 1) :: us, kws⟩ (Value.ref (u.heap.objs.size + 1) :: ts) _ _ E (hr.make C us kws)
    (J.env0.make C us kws) (hb _ _ J.kIn) (r _) q0) fun r u' hq => ?_))
  cases r with
  | error e => exact hx pins _ _ e u' J hq
  | ok fl =>
    cases fl with
    | ret v =>
      obtain ⟨y, G, J3, ry, ey, qy⟩ := J.after hq
      subst ey
      exact ⟨ry, ⟨V.ref (u.heap.objs.size + 1), G, J3, rfl, qy⟩⟩
    | next => exact False.elim hq
    | brk => exact False.elim hq
    | cont => exact False.elim hq
/-- C(e, ..), the keyword-only parameter left out -/
def tMkD (C : Addr) (n : Nat) (dv : V) (sp : Sp) (E : L2.St → XK) (t : TA) : TE := fun σ H Q => t σ H fun vs H1 => vs.length = n ∧ ∀ x dx, H1 x = none → H1 dx = none → dx ≠ x → sp (.ref x :: (vs ++ [dv])) (upd (upd H1 dx (.own x)) x (.ins C dx [])) (fun v H2 => v = .non ∧ Q (.ref x) H2) (E σ)
/-- C(e, .., y = v) -/
def tMkK (C : Addr) (n : Nat) (sp : Sp) (E : L2.St → XK) (t tk : TA) : TE := fun σ H Q => t σ H fun vs H1 => tk σ H1 fun zs H2 => vs.length = n ∧ zs.length = 1 ∧ ∀ x dx, H2 x = none → H2 dx = none → dx ≠ x → sp (.ref x :: (vs ++ zs)) (upd (upd H2 dx (.own x)) x (.ins C dx [])) (fun v H3 => v = .non ∧ Q (.ref x) H3) (E σ)
variable {k j n : Nat} {C : Addr} {x y : Str} {dv : V} {sp : Sp} {E : L2.St → XK} {p pos : Pos} {e : Expr} {es : List Expr} {kws : List Keyword} {t tk : TA}
theorem pe_mkD (c : MakH X.prog X.w X.K X.mg X.base k x C n y dv sp) (hr : Room j X.A) (hk : k + 1 ≤ j) (hx : ∀ σ, PassesAt (L2.CX X.prog X.w) X σ (E σ)) (hg : Gl X x) (ha : PA X (e :: es) t)
    (hdb : (x == ("__debug__" : Str)) = false := by decide) (he : starEach (e :: es) X.env = (false, eval e X.env) :: starEach es X.env := by rfl) (hpl : (backTo pos (starEach es X.env)).any (·.1) = false := by rfl) :
    PE X (.Call (.Name x p) (e :: es) [] pos) (tMkD C n dv sp E t) := by
  obtain ⟨f, fd, ps, M, F, hm, ⟨ds, rd, b⟩, _⟩ := c.ex
  refine ⟨fun pins u σ H Q I hw => ?_⟩
  refine wpAny_Call_Name_kw (ld_glob I hg hm ?_ hdb)
  refine PySem.W.callWith_K (h₀ := X.base) I.ok.mod.kin M.kp (thn (ha.run pos pins u σ H _ I hw) fun us u1 ⟨vs, H1, I1, rv, l1, qv⟩ => ⟨I1.kIn, ?_⟩) he hpl
  refine made_to (ts := us ++ ds) M F (hr.mono hk) (hx σ) I1 (fun z => .cons rfl (rv.append rd)) (fun z u2 k2 => b u2 (.ref z :: us) k2 ?_) qv
  have q0 := qv (u1.heap.objs.size + 1) u1.heap.objs.size (I1.hok.fresh (Nat.le_succ _)) (I1.hok.fresh (Nat.le_refl _)) (Nat.ne_of_lt (Nat.lt_succ_self _))
  have l2 := F.len _ _ _ _ q0
  have l3 := rv.length
  have l4 := rd.length
  simp only [List.length_cons, List.length_append] at l2 l4 ⊢
  omega
theorem pe_mkK (c : MakH X.prog X.w X.K X.mg X.base k x C n y dv sp) (hr : Room j X.A) (hk : k + 1 ≤ j) (hx : ∀ σ, PassesAt (L2.CX X.prog X.w) X σ (E σ)) (hg : Gl X x) (ha : PA X (e :: es) t) (hkw : PK X kws tk)
    (hall : (backToKw pos (keywordEach kws X.env)).all (·.1.isSome) = true := by rfl) (hks : (backToKw pos (keywordEach kws X.env)).filterMap (·.1) = [y] := by rfl) (hdb : (x == ("__debug__" : Str)) = false := by decide)
    (he : starEach (e :: es) X.env = (false, eval e X.env) :: starEach es X.env := by rfl) (hpl : ((backTo pos (starEach (e :: es) X.env)).any (·.1) || (backToKw pos (keywordEach kws X.env)).any (·.1.isNone)) = false := by rfl) :
    PE X (.Call (.Name x p) (e :: es) kws pos) (tMkK C n sp E t tk) := by
  obtain ⟨f, fd, ps, M, F, hm, _, mv, hb⟩ := c.ex
  refine ⟨fun pins s σ H Q I h => ?_⟩
  refine wpAny_Call_Name_kw (ld_glob I hg hm ?_ hdb)
  refine PySem.W.callWith_KW (h₀ := X.base) I.ok.mod.kin M.kp hall (thn (ha.run pos pins s σ H _ I h) fun us s1 ⟨vs, H1, I1, r, q⟩ => ?_) hpl he
  refine thn (hkw.run pos pins s1 σ H1 _ I1 q) fun ws s2 ⟨zs, H2, I2, rz, l1, l2, q2⟩ => ⟨I2.kIn, ?_⟩
  rw [hks]
  have lw := rz.length
  have lv := r.length
  refine made_to (us := us) (ts := us ++ mv ++ ws) (vs := vs ++ zs) M F (hr.mono hk) (hx σ) I2 (fun z => ?_) (fun z u2 k2 => ?_) q2
  · have := hb.rel (vs := .ref z :: vs) (us := .ref z :: us) (.cons rfl r) rz
    rw [List.append_nil] at this
    exact this
  · exact hb.to u2 (.ref z :: us) ws k2 (by rw [List.length_cons]; omega) (by show ws.length = 1; omega)
theorem hxX {W : WX} (tk : Takes X W) : ∀ σ, PassesAt (L2.CX X.prog X.w) X σ (WE W σ) := fun σ => passAt tk σ
theorem hxN : ∀ σ : L2.St, PassesAt (L2.CX X.prog X.w) X σ ((fun _ => fun _ _ _ => False : L2.St → XK) σ) := fun σ pins G v e v' J q => passF pins σ G v e v' J q
theorem cr_allK {K : PySem.W.Frag} (h : X.K = K) (hc : X.calm = true) : CallR X (.builtin "all") (rAll K) := by
  subst h
  exact cr_all hc
end
section
variable {X : Cx} {w : World} {P : Program}
/-- len of a set of texts -/
def rLenTx (P : Program) (w : World) : List V → Hp → VK → Prop := fun xs H Q => ∃ (a : Addr) (us : List Str), xs = [V.ref a] ∧ H a = some (Sxt.SetTxO P w a us) ∧ us.length < 4096 ∧ Q (.int (us.length : Nat)) H
theorem call_lenTx (hp : X.prog = P) (hw : X.w = w) : CallR X (.builtin "len") (rLenTx P w) := by
  subst hp hw
  intro pins s σ H xs us Q I r h
  obtain ⟨a, ks, rfl, ha, hl, q⟩ := h
  rw [Vals.ref1 r]
  have R : Sxt.SetTx X.prog X.w s.heap a ks := (I.hok a _ ha).1
  obtain ⟨⟨es, ep, t⟩, ho, F, _⟩ := R
  have hz : es.size = ks.length := F.sz
  refine call_len_set (es := es) ho ⟨rfl, rfl, rfl⟩ rfl F.fit (by omega) ⟨.int (ks.length : Nat), H, I.tok _, ⟨_, by rw [hz]⟩, q⟩
end
end Spx

local macro_rules | `(tactic| walk_at "bx") => `(tactic| repeat (first
  | refine ⟨_, rfl, ?_⟩
  | refine ⟨_, _, rfl, rfl, ?_⟩
  | refine ⟨rfl, ?_⟩
  | refine Or.inl ⟨_, rfl, ?_⟩
  | refine ⟨Or.inr ⟨by decide, by decide⟩, ?_⟩
  | refine ⟨Or.inl ⟨by decide, by decide⟩, ?_⟩
  | refine ⟨(show (0 : Int) < _ by decide), ?_⟩
  | refine ⟨⟨by decide, by decide⟩, ?_⟩
  | refine ⟨_, _, rfl, Or.inl (L2.SqL.of (by assumption)), ?_⟩
  | refine ⟨_, _, rfl, Or.inr (L2.SqT.of (by assumption)), ?_⟩
  | refine ⟨Or.inl ⟨rfl, _, L2.SqL.of (by assumption)⟩, ?_⟩
  | refine ⟨_, _, _, rfl, rfl, (by assumption), ?_⟩
  | refine ⟨_, _, rfl, rfl, (by assumption), ?_⟩
  | refine ⟨_, _, _, _, rfl, rfl, L2.SqT.of (by assumption), (by assumption), ?_⟩
  | refine ⟨_, _, _, _, rfl, rfl, L2.SqL.of (by assumption), (by assumption), ?_⟩
  | refine ⟨_, _, rfl, Bx.SeqI.sq (by assumption), ?_⟩
  | refine And.intro (by assumption) ?_))
local macro_rules | `(tactic| walk_at "nl") => `(tactic| ((try unfold L2.tNil); (try unfold L2.tNoPart)))

namespace My
open PySem PySem.Spec PyProof.Rows L2 Bx Tx Tr
def topS (i : Nat) : Stmt := PySem.Challenge.pw_reactivesynth_k46_spec_and_dual.main.body.getD i (.Pass ⟨0, 0, 0, 0⟩)
abbrev s_word_at : Stmt := topS 10
abbrev N_word_at : List Str := ["text", "at", "end"]
theorem sc_word_at : FnScope N_word_at ["text", "at"] (defScope s_word_at) := ⟨rfl, rfl, rfl, by decide +kernel, rfl, by decide +kernel, by decide +kernel⟩
abbrev s_is_reserved : Stmt := topS 11
abbrev N_is_reserved : List Str := ["word"]
theorem sc_is_reserved : FnScope N_is_reserved ["word"] (defScope s_is_reserved) := ⟨rfl, rfl, rfl, by decide +kernel, rfl, by decide +kernel, by decide +kernel⟩
abbrev s_is_name : Stmt := topS 12
abbrev N_is_name : List Str := ["text"]
theorem sc_is_name : FnScope N_is_name ["text"] (defScope s_is_name) := ⟨rfl, rfl, rfl, by decide +kernel, rfl, by decide +kernel, by decide +kernel⟩
abbrev s_dual : Stmt := topS 16
abbrev N_dual : List Str := ["spec"]
theorem sc_dual : FnScope N_dual ["spec"] (defScope s_dual) := ⟨rfl, rfl, rfl, by decide +kernel, rfl, by decide +kernel, by decide +kernel⟩
abbrev s_law_draws : Stmt := topS 18
abbrev N_law_draws : List Str := ["script", "count", "cells", "found", "mixed", "k", "j", "cell", "again"]
theorem sc_law_draws : FnScope N_law_draws ["script", "count"] (defScope s_law_draws) := ⟨rfl, rfl, rfl, by decide +kernel, rfl, by decide +kernel, by decide +kernel⟩
abbrev s_law_take : Stmt := topS 19
abbrev N_law_take : List Str := ["draws", "limit"]
theorem sc_law_take : FnScope N_law_take ["draws", "limit"] (defScope s_law_take) := ⟨rfl, rfl, rfl, by decide +kernel, rfl, by decide +kernel, by decide +kernel⟩
abbrev s_law_is_integer : Stmt := topS 20
abbrev N_law_is_integer : List Str := ["actual"]
theorem sc_law_is_integer : FnScope N_law_is_integer ["actual"] (defScope s_law_is_integer) := ⟨rfl, rfl, rfl, by decide +kernel, rfl, by decide +kernel, by decide +kernel⟩
abbrev s_law_name : Stmt := topS 21
abbrev N_law_name : List Str := ["draws", "k", "chars", "name", "j"]
theorem sc_law_name : FnScope N_law_name ["draws", "k"] (defScope s_law_name) := ⟨rfl, rfl, rfl, by decide +kernel, rfl, by decide +kernel, by decide +kernel⟩
abbrev s_law_names : Stmt := topS 22
abbrev N_law_names : List Str := ["draws", "count", "k"]
theorem sc_law_names : FnScope N_law_names ["draws", "count"] (defScope s_law_names) := ⟨rfl, rfl, rfl, by decide +kernel, rfl, by decide +kernel, by decide +kernel⟩
abbrev s_law_leaf : Stmt := topS 23
abbrev N_law_leaf : List Str := ["draws", "names", "choice"]
theorem sc_law_leaf : FnScope N_law_leaf ["draws", "names"] (defScope s_law_leaf) := ⟨rfl, rfl, rfl, by decide +kernel, rfl, by decide +kernel, by decide +kernel⟩
abbrev s_law_formula : Stmt := topS 24
abbrev N_law_formula : List Str := ["draws", "names", "budget", "deep", "choice", "unary", "operator", "part", "left"]
theorem sc_law_formula : FnScope N_law_formula ["draws", "names", "budget", "deep"] (defScope s_law_formula) := ⟨rfl, rfl, rfl, by decide +kernel, rfl, by decide +kernel, by decide +kernel⟩
abbrev s_law_property : Stmt := topS 25
abbrev N_law_property : List Str := ["draws", "names", "budget", "deep", "share", "hidden", "formula"]
theorem sc_law_property : FnScope N_law_property ["draws", "names", "budget", "deep", "share"] (defScope s_law_property) := ⟨rfl, rfl, rfl, by decide +kernel, rfl, by decide +kernel, by decide +kernel⟩
abbrev s_law_outcome : Stmt := topS 26
abbrev N_law_outcome : List Str := ["inputs", "outputs", "lead", "assumptions", "guarantees", "negated", "short"]
theorem sc_law_outcome : FnScope N_law_outcome ["inputs", "outputs", "lead", "assumptions", "guarantees", "negated", "short"] (defScope s_law_outcome) := ⟨rfl, rfl, rfl, by decide +kernel, rfl, by decide +kernel, by decide +kernel⟩
abbrev s_law_is_spec : Stmt := topS 27
abbrev N_law_is_spec : List Str := ["spec", "inputs", "outputs", "lead", "assumptions", "guarantees", "negated"]
theorem sc_law_is_spec : FnScope N_law_is_spec ["spec", "inputs", "outputs", "lead", "assumptions", "guarantees", "negated"] (defScope s_law_is_spec) := ⟨rfl, rfl, rfl, by decide +kernel, rfl, by decide +kernel, by decide +kernel⟩
abbrev s_law : Stmt := topS 28
abbrev N_law : List Str := ["script", "draws", "names", "inputs", "outputs", "lead", "assumptions", "guarantees", "negated", "spoilt", "bad", "passed", "spec", "other", "k"]
theorem sc_law : FnScope N_law ["script"] (defScope s_law) := ⟨rfl, rfl, rfl, by decide +kernel, rfl, by decide +kernel, by decide +kernel⟩
abbrev s_Spec_init : Stmt := inClass (topS 15) 0
abbrev N_Spec_init : List Str := ["self", "inputs", "outputs", "lead", "assumptions", "guarantees", "negated", "names", "name"]
theorem sc_Spec_init : FnScope N_Spec_init ["self", "inputs", "outputs", "lead", "assumptions", "guarantees", "negated"] (defScope s_Spec_init) := ⟨rfl, rfl, rfl, by decide +kernel, rfl, by decide +kernel, by decide +kernel⟩
abbrev s_Spec_signals : Stmt := inClass (topS 15) 1
abbrev N_Spec_signals : List Str := ["self"]
theorem sc_Spec_signals : FnScope N_Spec_signals ["self"] (defScope s_Spec_signals) := ⟨rfl, rfl, rfl, by decide +kernel, rfl, by decide +kernel, by decide +kernel⟩
structure Has (K : PySem.W.Frag) (mg : Str → Option Value) (x : Str) (st : Stmt) (ps : List Str) : Prop where
  ex : ∃ (f : Addr) (fd : FuncData), L2.Fun K x x st f fd ∧ mg x = some (.ref f) ∧ Binds K fd ps []
structure Txt (K : PySem.W.Frag) (mg : Str → Option Value) : Prop where
  h_word_at : Has K mg "word_at" s_word_at ["text", "at"]
  h_is_reserved : Has K mg "is_reserved" s_is_reserved ["word"]
  h_is_name : Has K mg "is_name" s_is_name ["text"]
  h_dual : Has K mg "dual" s_dual ["spec"]
  h_law_draws : Has K mg "_law_draws" s_law_draws ["script", "count"]
  h_law_take : Has K mg "_law_take" s_law_take ["draws", "limit"]
  h_law_is_integer : Has K mg "_law_is_integer" s_law_is_integer ["actual"]
  h_law_name : Has K mg "_law_name" s_law_name ["draws", "k"]
  h_law_names : Has K mg "_law_names" s_law_names ["draws", "count"]
  h_law_leaf : Has K mg "_law_leaf" s_law_leaf ["draws", "names"]
  h_law_formula : Has K mg "_law_formula" s_law_formula ["draws", "names", "budget", "deep"]
  h_law_property : Has K mg "_law_property" s_law_property ["draws", "names", "budget", "deep", "share"]
  h_law_outcome : Has K mg "_law_outcome" s_law_outcome ["inputs", "outputs", "lead", "assumptions", "guarantees", "negated", "short"]
  h_law_is_spec : Has K mg "_law_is_spec" s_law_is_spec ["spec", "inputs", "outputs", "lead", "assumptions", "guarantees", "negated"]
  z_all : mg "all" = none
  z_bool : mg "bool" = none
  z_int : mg "int" = none
  z_isinstance : mg "isinstance" = none
  z_len : mg "len" = none
  z_list : mg "list" = none
  z_min : mg "min" = none
  z_range : mg "range" = none
  z_set : mg "set" = none
  z_tuple : mg "tuple" = none
  er : ∃ (aQ aN cS C fI pS gS : Addr) (fdI fdS : FuncData) (tk1 tk2 tk3 tk4 tk5 : Tok), GloT K mg "QUANTIFIERS" ["exists", "forall"] aQ ∧ GloT K mg "CONSTANTS" ["true", "false"] aN ∧ mg "LOWER_CASE" = some (.str "abcdefghijklmnopqrstuvwxyz" tk1) ∧ mg "DIGITS" = some (.str "0123456789" tk2) ∧ ErrC K mg "InvalidSpec" cS ∧ Spx.SpcC K C ∧ Mk K C fI ∧ mg "Spec" = some (.ref C) ∧ FunD K "__init__" "Spec.__init__" (defArgs s_Spec_init) (defBody s_Spec_init) (defScope s_Spec_init) [] [("negated", .bl false)] fI fdI ∧ PropOf K C "signals" pS gS ∧ L2.Fun K "signals" "Spec.signals" s_Spec_signals gS fdS ∧ Binds K fdS ["self"] [] ∧ mg "LEAST_LEAD" = some (.int (-3) tk3) ∧ mg "GREATEST_LEAD" = some (.int 2 tk4) ∧ mg "MOST_NAMES" = some (.int 3 tk5) ∧ C8.InsC K C

-- BODY
def spLaw (K : PySem.W.Frag) : Sp := fun vs H Q _ => ∃ (a : Addr) (ns : List Int), vs = [.ref a] ∧ SqL K H a (ns.map V.int) ∧ ns.length ≤ 63 ∧ ∀ H', Q (.bl true) H'
section
variable {P : Program} {w : World} {K : PySem.W.Frag} {mg : Str → Option Value} {base : Heap}
abbrev tLC : Str := "abcdefghijklmnopqrstuvwxyz"
abbrev tDG : Str := "0123456789"
def okW (f : Bool) (c : Nat) : Bool := decide (c ∈ tLC.cps.toList) || (!f && decide (c ∈ tDG.cps.toList))
/-- a word of s stands from a up to e -/
def WordTo (s : Str) (a e : Nat) : Prop := a ≤ e ∧ e ≤ s.length ∧ (∀ i, a ≤ i → i < e → ∀ c, s.cps.toList[i]? = some c → okW (decide (i = a)) c = true) ∧ ∀ c, s.cps.toList[e]? = some c → okW (decide (e = a)) c = false
def spWat : Sp := fun vs H Q _ => ∃ (s : Str) (a : Nat), vs = [.str s, .int a] ∧ s.length ≤ sizeLine ∧ a ≤ s.length ∧ ∀ e : Nat, WordTo s a e → Q (.str (cutS s (some (a : Int)) (some (e : Int)))) H
theorem gloS (T : Txt K mg) : ∃ tk1 tk2 : Tok, mg "LOWER_CASE" = some (.str tLC tk1) ∧ mg "DIGITS" = some (.str tDG tk2) := by
  obtain ⟨aQ, aN, cS, C, fI, pS, gS, fdI, fdS, tk1, tk2, tk3, tk4, tk5, g1, g2, h1, h2, _⟩ := T.er
  exact ⟨tk1, tk2, h1, h2⟩
theorem cal_wat (T : Txt K mg) : C8.Cal P w K mg base 1 "word_at" spWat [] := by
  obtain ⟨tk1, tk2, gLC, gDI⟩ := gloS T
  obtain ⟨f, fd, F, hm, hb⟩ := T.h_word_at
  refine ⟨f, fd, _, [], F.ok sc_word_at (fun vs H Q E h => ?_) (fun cdv A outer s H vs Q E hr h => ?_), hm, F.kp, hb, .nil⟩
  · obtain ⟨s, a, rfl, _⟩ := h
    rfl
  · obtain ⟨t, a, rfl, hz, ha, q⟩ := h
    refine ⟨_, (pss_cons
      (ps_set (i := 2) sc_word_at.nd rfl (Or.inl rfl) (pv 1))
      (C8.pss_cut
      (ps_while PassesOwn.never (PW.pt (pw_and (pt_cmpR op_lt (pv 2) (pe_callB call_len_str (by rfl) T.z_len PySem.boot_len (pa_cons (pv 0) pa_nil)) (nomark _)) (pw_and1 (PW.pt (pw_or (pt_cmpR op_in_sign (pe_ix ix_str (pv 0) (pv 2) (fun _ _ => rfl)) (pe_glob (v := .str "abcdefghijklmnopqrstuvwxyz") (by rfl) gLC ⟨_, rfl⟩) (by rfl)) (pw_or1 (PW.pt (pw_and (pt_cmpR op_gt (pv 2) (pv 1) (nomark _)) (pw_and1 (pt_cmpR op_in_sign (pe_ix ix_str (pv 0) (pv 2) (fun _ _ => rfl)) (pe_glob (v := .str "0123456789") (by rfl) gDI ⟨_, rfl⟩) (by rfl))))))))))) (pss_one
      (ps_aug (i := 2) sc_word_at.nd rfl (.inl rfl) pe_int ip_add)))
      (pss_one
      (ps_ret (pe_slice sl_str (pv 0) (po_some (pv 1)) (po_some (pv 2))))))), ?_⟩
    have htl : t.cps.toList.length = t.length := by rw [Array.length_toList]; rfl
    refine ⟨_, rfl, ?_⟩
    refine ⟨fun σ H' => ∃ e : Nat, σ = [some (.str t), some (.int a), some (.int e)] ∧ H' = H ∧ WordTo t a e, ?_, ?_⟩
    · refine ⟨fun m σ H' => ∃ e : Nat, m = t.length - e ∧ σ = [some (.str t), some (.int a), some (.int e)] ∧ H' = H ∧ a ≤ e ∧ e ≤ t.length ∧ (∀ i, a ≤ i → i < e → ∀ c, t.cps.toList[i]? = some c → okW (decide (i = a)) c = true), ⟨_, a, rfl, rfl, rfl, Nat.le_refl _, ha, fun i h1 h2 => absurd h2 (Nat.not_lt.mpr h1)⟩, ?_⟩
      rintro m σ H' ⟨e, rfl, rfl, rfl, h1, h2, h3⟩
      refine ⟨_, rfl, _, rfl, t, rfl, hz, _, _, rfl, rfl, _, rfl, ?_⟩
      have go : ∀ c, t.cps.toList[e]? = some c → okW (decide (e = a)) c = true → ∀ (i : Nat), a ≤ i → i < e + 1 → ∀ c, t.cps.toList[i]? = some c → okW (decide (i = a)) c = true := fun c hc hk i i1 i2 c' hc' => by
        by_cases z : i = e
        · rw [z] at hc' ⊢
          rw [hc] at hc'
          cases hc'
          exact hk
        · exact h3 i i1 (by omega) c' hc'
      by_cases hlt : e < t.length
      · rw [decide_eq_true (show (e : Int) < (t.length : Int) by omega)]
        refine iteT ?_
        obtain ⟨c, hc⟩ : ∃ c, t.cps.toList[e]? = some c := ⟨_, List.getElem?_eq_getElem (by rw [htl]; exact hlt)⟩
        have hat : atI t.cps.toList (e : Int) = some c := atI_nat hc
        refine ⟨_, rfl, _, rfl, t, (e : Int), c, rfl, rfl, hz, hat, c, tLC, rfl, rfl, _, rfl, ?_⟩
        by_cases k1 : c ∈ tLC.cps.toList
        · rw [decide_eq_true k1]
          refine iteT ?_
          refine iteT ?_
          exact ⟨fun σ' H2 => σ' = [some (.str t), some (.int a), some (.int ((e + 1 : Nat) : Int))] ∧ H2 = H', fun σ' H2 ⟨z1, z2⟩ => ⟨t.length - (e + 1), by omega, e + 1, rfl, z1, z2, by omega, by omega, go c hc (by unfold okW; rw [decide_eq_true k1]; rfl)⟩, _, rfl, _, _, rfl, rfl, rfl, rfl⟩
        · rw [decide_eq_false k1]
          refine iteF ?_
          have out : okW (decide (e = a)) c = false → WordTo t a e := fun hk => ⟨h1, h2, h3, fun c' hc' => by rw [hc] at hc'; cases hc'; exact hk⟩
          refine ⟨_, rfl, _, rfl, _, _, rfl, rfl, _, rfl, ?_⟩
          by_cases k2 : a < e
          · rw [decide_eq_true (show (a : Int) < (e : Int) by omega)]
            refine iteT ?_
            refine ⟨_, rfl, _, rfl, t, (e : Int), c, rfl, rfl, hz, hat, c, tDG, rfl, rfl, _, rfl, ?_⟩
            by_cases k3 : c ∈ tDG.cps.toList
            · rw [decide_eq_true k3]
              refine iteT ?_
              exact ⟨fun σ' H2 => σ' = [some (.str t), some (.int a), some (.int ((e + 1 : Nat) : Int))] ∧ H2 = H', fun σ' H2 ⟨z1, z2⟩ => ⟨t.length - (e + 1), by omega, e + 1, rfl, z1, z2, by omega, by omega, go c hc (by unfold okW; rw [decide_eq_false k1, decide_eq_true k3, decide_eq_false (show ¬ e = a by omega)]; rfl)⟩, _, rfl, _, _, rfl, rfl, rfl, rfl⟩
            · rw [decide_eq_false k3]
              refine iteF ⟨e, rfl, rfl, out ?_⟩
              unfold okW
              rw [decide_eq_false k1, decide_eq_false k3]
              simp
          · rw [decide_eq_false (show ¬ (a : Int) < (e : Int) by omega)]
            refine iteF (iteF ⟨e, rfl, rfl, out ?_⟩)
            unfold okW
            rw [decide_eq_false k1, decide_eq_true (show e = a by omega)]
            rfl
      · rw [decide_eq_false (show ¬ (e : Int) < (t.length : Int) by omega)]
        refine iteF (iteF ⟨e, rfl, rfl, h1, h2, h3, fun c hc => ?_⟩)
        have := (List.getElem?_eq_some_iff.mp hc).1
        rw [htl] at this
        omega
    · rintro σ H' ⟨e, rfl, rfl, hw⟩
      exact ⟨_, rfl, _, rfl, _, rfl, _, rfl, _, rfl, t, rfl, hz, q e hw⟩
theorem cutS_take (s : Str) (e : Nat) : cutS s (some ((0 : Nat) : Int)) (some (e : Int)) = ⟨(s.cps.toList.take (min e s.length)).toArray⟩ := by
  unfold cutS
  rw [HT.sIx_nat, HT.sIx_nat]
  simp
def wholeW (l : List Nat) : Bool := match l with | [] => false | c :: r => okW true c && r.all (okW false)
def resW (s : Str) : Bool := decide (s ∈ (["true", "false"] : List Str)) || decide (s ∈ (["exists", "forall"] : List Str))
/-- the text is the name of a signal -/
def nameOk (s : Str) : Bool := wholeW s.cps.toList && !resW s
theorem wholeW_iff {l : List Nat} (h : l ≠ []) : wholeW l = true ↔ ∀ i c, l[i]? = some c → okW (decide (i = 0)) c = true := by
  cases l with
  | nil => exact absurd rfl h
  | cons c r =>
    unfold wholeW
    dsimp only
    rw [Bool.and_eq_true, List.all_eq_true]
    constructor
    · rintro ⟨a, b⟩ i c' hc
      cases i with
      | zero => cases hc; exact a
      | succ i =>
        rw [decide_eq_false (Nat.succ_ne_zero i)]
        exact b c' (List.mem_of_getElem? hc)
    · intro k
      refine ⟨k 0 c rfl, fun x hx => ?_⟩
      obtain ⟨i, hi⟩ := List.mem_iff_getElem?.mp hx
      have := k (i + 1) x hi
      rwa [decide_eq_false (Nat.succ_ne_zero i)] at this
theorem str_len (s : Str) : s.cps.toList.length = s.length := by rw [Array.length_toList]; rfl
theorem word_whole {s : Str} {e : Nat} (hne : s.cps.toList ≠ []) (hw : WordTo s 0 e) : decide (V.str (cutS s (some ((0 : Nat) : Int)) (some (e : Int))) = V.str s) = wholeW s.cps.toList := by
  obtain ⟨_, h2, h3, h4⟩ := hw
  rw [cutS_take]
  by_cases c : e = s.length
  · subst c
    rw [Nat.min_self, ← str_len, List.take_length, Array.toArray_toList]
    rw [decide_eq_true rfl]
    refine (((wholeW_iff hne).mpr fun i c hc => ?_)).symm
    exact h3 i (Nat.zero_le _) (by have := (List.getElem?_eq_some_iff.mp hc).1; rw [str_len] at this; exact this) c hc
  · have hlt : e < s.cps.toList.length := by rw [str_len]; omega
    have hk := h4 _ (List.getElem?_eq_getElem hlt)
    have hn : wholeW s.cps.toList = false := by
      cases z : wholeW s.cps.toList with
      | false => rfl
      | true =>
        have := (wholeW_iff hne).mp z e _ (List.getElem?_eq_getElem hlt)
        rw [this] at hk
        cases hk
    rw [hn]
    refine decide_eq_false fun z => ?_
    have := congrArg Str.length (V.str.inj z)
    have h5 : ((s.cps.toList.take (min e s.length)).toArray).size = s.length := this
    rw [List.size_toArray, List.length_take, str_len] at h5
    omega
def spRes : Sp := fun vs H Q _ => ∃ s : Str, vs = [.str s] ∧ Q (.bl (resW s)) H
theorem gloQ (T : Txt K mg) : ∃ aQ aN : Addr, GloT K mg "QUANTIFIERS" ["exists", "forall"] aQ ∧ GloT K mg "CONSTANTS" ["true", "false"] aN := by
  obtain ⟨aQ, aN, cS, C, fI, pS, gS, fdI, fdS, tk1, tk2, tk3, tk4, tk5, g1, g2, _⟩ := T.er
  exact ⟨aQ, aN, g1, g2⟩
theorem cal_res (T : Txt K mg) : C8.Cal P w K mg base 1 "is_reserved" spRes [] := by
  obtain ⟨aQ, aN, gQ, gN⟩ := gloQ T
  obtain ⟨f, fd, F, hm, hb⟩ := T.h_is_reserved
  refine ⟨f, fd, _, [], F.ok sc_is_reserved (fun vs H Q E h => ?_) (fun cdv A outer s H vs Q E hr h => ?_), hm, F.kp, hb, .nil⟩
  · obtain ⟨s, rfl, _⟩ := h
    rfl
  · obtain ⟨s, rfl, q⟩ := h
    refine ⟨_, (pss_one
      (ps_ret (pe_or (pe_cmpR (op_inK (K := K) rfl) (pv 0) (pe_glob (v := .ref aN) (by rfl) gN.g rfl) (by rfl)) (pe_one (pe_cmpR (op_inK (K := K) rfl) (pv 0) (pe_glob (v := .ref aQ) (by rfl) gQ.g rfl) (by rfl)))))), ?_⟩
    unfold resW at q
    refine ⟨_, rfl, aN, _, rfl, .inr (gN.q H), rfl, L2.flat_strs ["true", "false"], ?_⟩
    rw [in_strs]
    refine ⟨_, rfl, ?_⟩
    by_cases c : s ∈ (["true", "false"] : List Str)
    · rw [decide_eq_true c] at q ⊢
      exact iteT q
    · rw [decide_eq_false c] at q ⊢
      refine iteF ⟨_, rfl, aQ, _, rfl, .inr (gQ.q H), rfl, L2.flat_strs ["exists", "forall"], ?_⟩
      rw [in_strs]
      exact q
def spNm : Sp := fun vs H Q _ => ∃ s : Str, vs = [.str s] ∧ s.length ≤ sizeLine ∧ Q (.bl (nameOk s)) H
theorem cal_nm (T : Txt K mg) : C8.Cal P w K mg base 2 "is_name" spNm [] := by
  have C_word_at : C8.Cal P w K mg base 1 "word_at" spWat [] := cal_wat T
  have C_is_reserved : C8.Cal P w K mg base 1 "is_reserved" spRes [] := cal_res T
  obtain ⟨f, fd, F, hm, hb⟩ := T.h_is_name
  refine ⟨f, fd, _, [], F.ok sc_is_name (fun vs H Q E h => ?_) (fun cdv A outer s H vs Q E hr h => ?_), hm, F.kp, hb, .nil⟩
  · obtain ⟨s, rfl, _⟩ := h
    rfl
  · obtain ⟨t, rfl, hz, q⟩ := h
    refine ⟨_, (pss_one
      (ps_ret (pe_and (pe_cmpR op_ne (pv 0) pe_str (nomark _)) (pe_and (pe_cmpR op_eq (C8.pe_c C_word_at hr (by decide) (by rfl) (pa_cons (pv 0) (pa_cons pe_int pa_nil))) (pv 0) (nomark _)) (pe_one (pe_not (C8.pe_c C_is_reserved hr (by decide) (by rfl) (pa_cons (pv 0) pa_nil)))))))), ?_⟩
    by_cases hne : t.cps.toList = []
    · have e : t = "" := by
        cases t with
        | mk c =>
          have : c = #[] := by simpa using hne
          rw [this]
          rfl
      subst e
      refine ⟨_, rfl, rfl, ?_⟩
      exact ⟨_, rfl, iteF q⟩
    · have e : t ≠ "" := fun z => hne (by rw [z]; rfl)
      refine ⟨_, rfl, rfl, ?_⟩
      rw [decide_eq_false (show ¬ V.str t = V.str "" from fun z => e (V.str.inj z))]
      refine ⟨_, rfl, iteT ?_⟩
      refine ⟨_, rfl, t, 0, rfl, hz, Nat.zero_le _, fun e2 hw => ⟨_, rfl, rfl, ?_⟩⟩
      rw [word_whole hne hw]
      unfold nameOk at q
      refine ⟨_, rfl, ?_⟩
      cases k : wholeW t.cps.toList with
      | false =>
        rw [k] at q
        exact iteF q
      | true =>
        rw [k] at q
        exact iteT ⟨_, rfl, t, rfl, _, rfl, q⟩
theorem cal_take (T : Txt K mg) : C8.Cal P w K mg base 1 "_law_take" spTake [] := by
  obtain ⟨f, fd, F, hm, hb⟩ := T.h_law_take
  refine ⟨f, fd, _, [], F.ok sc_law_take (fun vs H Q E h => ?_) (fun cdv A outer s H vs Q E hr h => ?_), hm, F.kp, hb, .nil⟩
  · obtain ⟨d, n, rfl, _⟩ := h
    rfl
  · obtain ⟨d, n, rfl, ⟨ds, hd⟩, hn, q⟩ := h
    refine ⟨_, (pss_cons
      (ps_if (pt_cmpR op_eq (pe_callB (call_lenK (K := K) rfl) (by rfl) T.z_len PySem.boot_len (pa_cons (pv 0) pa_nil)) pe_int (nomark _)) (pss_one
      (ps_ret pe_int)) pss_nil)
      (pss_one
      (ps_ret (pe_op op_mod (pe_callTy call_int1 (by rfl) T.z_int (by decide +kernel) (pa_cons (pe_bm0 PySem.F.plainAttrs_list PySem.F.slot_list_pop PySem.F.type_list_pop mt_pop (pv 0)) pa_nil)) (pv 1))))), ?_⟩
    walk_at "bx"
    refine ite2 (fun e => ?_) (fun e => ?_)
    · have q0 := q 0 ds (Int.le_refl 0) hn
      rw [upd_self hd] at q0
      exact q0
    · have hne : ds ≠ [] := fun z => e (by rw [z]; rfl)
      refine ⟨_, rfl, .inl ⟨rfl, _, SqL.of hd⟩, d, _, .int (ds.getLast hne), rfl, rfl, hd, ?_, ?_⟩
      · rw [List.length_map, List.getElem?_map, ← List.getLast?_eq_getElem?, List.getLast?_eq_getLast hne]
        rfl
      · walk_at "bx"
        rw [← List.map_dropLast]
        exact q _ _ (Int.emod_nonneg _ (by omega)) (Int.emod_lt_of_pos _ hn)
theorem cal_draws (T : Txt K mg) : C8.Cal P w K mg base 1 "_law_draws" (spDraws K) [] := by
  obtain ⟨f, fd, F, hm, hb⟩ := T.h_law_draws
  refine ⟨f, fd, _, [], F.ok sc_law_draws (fun vs H Q E h => ?_) (fun cdv A outer s H vs Q E hr h => ?_), hm, F.kp, hb, .nil⟩
  · obtain ⟨a, ns, c, rfl, _⟩ := h
    rfl
  · obtain ⟨a, ns, n, rfl, hS, hn, q⟩ := h
    refine ⟨_, (pss_cons
      (ps_set (i := 2) sc_law_draws.nd rfl (Or.inl rfl) (pe_callTy (call_list_ofK (K := K) rfl) (by rfl) T.z_list (by decide +kernel) (pa_cons (pv 0) pa_nil)))
      (C8.pss_cut
      (ps_if (pt_cmpR op_eq (pe_callB (call_lenK (K := K) rfl) (by rfl) T.z_len PySem.boot_len (pa_cons (pv 2) pa_nil)) pe_int (nomark _)) (pss_one
      (ps_set (i := 2) sc_law_draws.nd rfl (Or.inl rfl) (pe_lst (pa_cons pe_int pa_nil)))) pss_nil)
      (pss_cons
      (ps_set (i := 3) sc_law_draws.nd rfl (Or.inl rfl) (pe_lst pa_nil))
      (pss_cons
      (ps_set (i := 4) sc_law_draws.nd rfl (Or.inl rfl) pe_int)
      (pss_cons
      (ps_for PassesOwn.never rfl (pi_range1 (by rfl) T.z_range (pa_cons (pv 1) pa_nil)) (pg_name (i := 5) sc_law_draws.nd rfl (.inl rfl)) (pss_cons
      (ps_set (i := 6) sc_law_draws.nd rfl (Or.inl rfl) (pe_op op_mod (pv 5) (pe_callB (call_lenK (K := K) rfl) (by rfl) T.z_len PySem.boot_len (pa_cons (pv 2) pa_nil))))
      (pss_cons
      (ps_set (i := 7) sc_law_draws.nd rfl (Or.inl rfl) (pe_ix (ix_listK (K := K) rfl) (pv 2) (pv 6) (fun _ _ => rfl)))
      (pss_cons
      (ps_set (i := 4) sc_law_draws.nd rfl (Or.inl rfl) (pe_op op_mod (pe_callTy call_int1 (by rfl) T.z_int (by decide +kernel) (pa_cons (pe_op op_add (pe_op op_add (pe_op op_add (pe_op op_mul (pv 4) pe_int) (pe_op op_mul (pe_op op_mod (pe_callTy call_int1 (by rfl) T.z_int (by decide +kernel) (pa_cons (pv 7) pa_nil)) pe_int) pe_int)) (pe_op op_mul (pv 5) pe_int)) pe_int) pa_nil)) pe_int))
      (pss_cons
      (ps_set (i := 8) sc_law_draws.nd rfl (Or.inl rfl) (pe_op op_mod (pe_callTy call_int1 (by rfl) T.z_int (by decide +kernel) (pa_cons (pe_op op_add (pe_op op_add (pe_op op_mul (pv 4) (pv 4)) (pe_op op_mul pe_int (pv 4))) (pv 5)) pa_nil)) pe_int))
      (pss_one
      (ps_if (pt_cmpR op_ge (pv 7) (pe_op op_pow pe_int pe_int) (nomark _)) (pss_cons
      (ps_expr (pe_bm PySem.F.plainAttrs_list PySem.F.slot_list_append PySem.F.type_list_append mt_append (pv 3) (pa_cons (pe_op op_mod (pe_callTy call_int1 (by rfl) T.z_int (by decide +kernel) (pa_cons (pv 7) pa_nil)) pe_int) pa_nil)))
      (pss_one
      (ps_asg (pe_op op_fdiv (pv 7) pe_int) (pg_sub (pv 2) (pv 6) set_list)))) (pss_one
      (ps_expr (pe_bm PySem.F.plainAttrs_list PySem.F.slot_list_append PySem.F.type_list_append mt_append (pv 3) (pa_cons (pe_op op_mod (pe_callTy call_int1 (by rfl) T.z_int (by decide +kernel) (pa_cons (pv 8) pa_nil)) pe_int) pa_nil)))))))))))
      (pss_cons
      (ps_expr (pe_bm0 PySem.F.plainAttrs_list PySem.F.slot_list_reverse PySem.F.type_list_reverse mt_reverse (pv 3)))
      (pss_one
      (ps_ret (pv 3))))))))), ?_⟩
    -- cells = list(script)
    refine ⟨_, rfl, a, _, rfl, .inl hS, fun l hl => ?_⟩
    -- if len(cells) == 0: cells = [7]
    refine ⟨fun σ H2 => ∃ (c : Addr) (cs : List Int), σ = [some (.ref a), some (.int n), some (.ref c), none, none, none, none, none, none] ∧ H c = none ∧ Same H H2 ∧ H2 c = some (.lst (cs.map V.int)) ∧ cs ≠ [], ?_, ?_⟩
    · have h0 : (upd H l (.lst (ns.map V.int))) l = some (.lst (ns.map V.int)) := upd_same
      walk_at "bx"
      refine ite2 (fun e => ?_) (fun e => ?_)
      · refine ⟨by show 1 ≤ sizeLine; decide, fun l2 h2 => ?_⟩
        have s1 : Same H (upd H l (.lst (ns.map V.int))) := same_new hl
        exact ⟨l2, [7], rfl, s1.free h2, s1.trans (same_new h2), upd_same, by decide⟩
      · exact ⟨l, ns, rfl, hl, same_new hl, upd_same, fun z => e (by rw [z]; rfl)⟩
    · rintro σ H2 ⟨c, cs, rfl, hc0, s2, hc, hcs⟩
      -- found = [], mixed = 12345
      refine ⟨Nat.zero_le _, fun o ho => ?_⟩
      have hco : c ≠ o := ne_of_none hc ho
      have ho0 : H o = none := s2.free ho
      -- for k in range(count)
      refine ⟨_, rfl, _, rfl, by omega, by omega, for_range (lo := 0) (n := ((n : Int)).toNat) (fun i σ H3 => ∃ (m : Int) (cs fs : List Int) (v5 v6 v7 v8 : Option V), σ = [some (.ref a), some (.int n), some (.ref c), some (.ref o), some (.int m), v5, v6, v7, v8] ∧ 0 ≤ m ∧ m < 2147483647 ∧ Same H H3 ∧ H3 c = some (.lst (cs.map V.int)) ∧ cs ≠ [] ∧ H3 o = some (.lst (fs.map V.int)) ∧ fs.length ≤ i)
        ⟨12345, cs, [], none, none, none, none, rfl, by decide, by decide, s2.trans (same_new ho), by rw [upd_ne hco]; exact hc, hcs, upd_same, Nat.le_refl _⟩ ?_ ?_⟩
      · rintro i σ H3 hi ⟨m, cs, fs, v5, v6, v7, v8, rfl, m0, m1, s3, hc, hcs, hf, hfl⟩
        have hl : 0 < cs.length := List.length_pos_iff.mpr hcs
        obtain ⟨z, hz⟩ : ∃ z, cs[i % cs.length]? = some z := ⟨_, List.getElem?_eq_getElem (Nat.mod_lt _ hl)⟩
        have ej : ((0 : Int) + (i : Int)) % (((cs.map V.int).length : Nat) : Int) = ((i % cs.length : Nat) : Int) := by
          rw [Int.zero_add, List.length_map]
          rfl
        -- j = k % len(cells)
        walk_at "bx"
        refine ⟨(show (0 : Int) < _ by rw [List.length_map]; omega), ?_⟩
        -- cell = cells[j]
        refine ⟨_, rfl, _, rfl, c, _, _, .int z, rfl, rfl, SqL.of hc, ?_, ?_⟩
        · rw [ej]
          exact atI_nat (by rw [List.getElem?_map, hz]; rfl)
        -- mixed, again
        walk_at "bx"
        have b1 : (0 : Int) ≤ z % 1000003 := Int.emod_nonneg _ (by decide)
        refine ⟨.inl ⟨?_, ?_⟩, ?_⟩
        · have := Int.emod_nonneg (m * 48271 + z % 1000003 * 69621 + (0 + (i : Int)) * 7919 + 11) (show (2147483647 : Int) ≠ 0 by decide)
          show -(2 ^ 64) < (m * 48271 + z % 1000003 * 69621 + (0 + (i : Int)) * 7919 + 11) % 2147483647
          omega
        · have := Int.emod_lt_of_pos (m * 48271 + z % 1000003 * 69621 + (0 + (i : Int)) * 7919 + 11) (show (0 : Int) < 2147483647 by decide)
          show (m * 48271 + z % 1000003 * 69621 + (0 + (i : Int)) * 7919 + 11) % 2147483647 < 2 ^ 64
          omega
        have c0 : 0 ≤ (m * 48271 + z % 1000003 * 69621 + (0 + (i : Int)) * 7919 + 11) % 2147483647 := Int.emod_nonneg _ (by decide)
        have c1 : (m * 48271 + z % 1000003 * 69621 + (0 + (i : Int)) * 7919 + 11) % 2147483647 < 2147483647 := Int.emod_lt_of_pos _ (by decide)
        walk_at "bx"
        refine ite2 (fun e => ?_) (fun e => ?_)
        · walk_at "bx"
          refine ⟨lenI (by omega), ?_⟩
          walk_at "bx"
          refine ⟨c, cs.map V.int, _, i % cs.length, rfl, rfl, by rw [upd_ne hco]; exact hc, by rw [ej]; exact ixN_at (by rw [List.length_map]; exact Nat.mod_lt _ hl), ?_⟩
          refine ⟨_, cs.set (i % cs.length) (z / 1000), fs ++ [z % 1000], _, _, _, _, rfl, c0, c1, fun b o' hb => ?_, by rw [upd_same, set_mapI], by simpa using hcs, by rw [upd_ne hco.symm, upd_same]; simp, by simp; omega⟩
          rw [upd_ne (fun z => by rw [z, hc0] at hb; cases hb), upd_ne (fun z => by rw [z, ho0] at hb; cases hb)]
          exact s3 _ _ hb
        · walk_at "bx"
          refine ⟨lenI (by omega), ?_⟩
          refine ⟨_, cs, fs ++ [_], _, _, _, _, rfl, c0, c1, fun b o' hb => ?_, by rw [upd_ne hco]; exact hc, hcs, by rw [upd_same, List.map_append]; rfl, by simp; omega⟩
          rw [upd_ne (fun z => by rw [z, ho0] at hb; cases hb)]
          exact s3 _ _ hb
      · rintro σ H3 ⟨m, cs, fs, v5, v6, v7, v8, rfl, m0, m1, s3, hc, hcs, hf, hfl⟩
        -- found.reverse()
        walk_at "bx"
        refine q _ o (fun b o' hb => ?_) ho0 ⟨fs.reverse, ?_⟩
        · rw [upd_ne (fun z => by rw [z, ho0] at hb; cases hb)]
          exact s3 _ _ hb
        · rw [upd_same, List.map_reverse]
def unOps : List Str := ["not", "next", "eventually", "always", "previous", "weak_previous", "once", "historically"]
def binOps : List Str := ["and", "or", "implies", "iff", "until", "release", "since", "trigger", "weak_until"]
def Wo (nm : List Str) : Fm → Prop
  | .c0 k => k = "true" ∨ k = "false"
  | .sg s => s ∈ nm
  | .un k f => k ∈ unOps ∧ Wo nm f
  | .bin k f g => k ∈ binOps ∧ Wo nm f ∧ Wo nm g
theorem un_ne {k : Str} (h : k ∈ unOps) : k ≠ sSig := fun z => by
  subst z
  exact absurd h (by decide)
theorem bin_ne {k : Str} (h : k ∈ binOps) : k ≠ sSig := fun z => by
  subst z
  exact absurd h (by decide)
theorem Wo.wf {nm : List Str} : ∀ {f : Fm}, Wo nm f → Wf nm f
  | .c0 k, h => fun z => by
    subst z
    exact absurd (show sSig = "true" ∨ sSig = "false" from h) (by decide)
  | .sg s, h => h
  | .un k f, h => ⟨un_ne h.1, h.2.wf⟩
  | .bin k f g, h => ⟨bin_ne h.1, h.2.1.wf, h.2.2.wf⟩
abbrev sEnds : Str := "xqzjkvbw"
def EndsIn (s : Str) (k : Int) : Prop := ∃ c, atI sEnds.cps.toList k = some c ∧ s.cps.toList.getLast? = some c
theorem ends_app (x : Str) (c : Nat) : (x ++ (⟨#[c]⟩ : Str)).cps.toList.getLast? = some c := by
  show (x.cps ++ #[c]).toList.getLast? = some c
  simp
def NmG (s : Str) : Prop := nameOk s = true ∧ s.length ≤ 4
def spName : Sp := fun vs H Q _ => ∃ (d : Addr) (k : Int), vs = [.ref d, .int k] ∧ Drw H d ∧ 0 ≤ k ∧ k < 8 ∧ ∀ (H' : Hp) (s : Str), Kp d H H' → Drw H' d → PyData.strOk s = true → EndsIn s k → NmG s → Q (.str s) H'
def spNames : Sp := fun vs H Q _ => ∃ (d : Addr) (c : Int), vs = [.ref d, .int c] ∧ Drw H d ∧ 0 ≤ c ∧ c ≤ 8 ∧
  ∀ (H' : Hp) (p : Addr) (ss : List Str), Kp d H H' → Drw H' d → p ≠ d → H' p = some (.lst (ss.map V.str)) → ss.length = c.toNat → (∀ s ∈ ss, PyData.strOk s = true) → ss.Nodup → (∀ s ∈ ss, NmG s) → Q (.ref p) H'
def spLeaf (K : PySem.W.Frag) : Sp := fun vs H Q _ => ∃ (d n : Addr) (nm : List Str), vs = [.ref d, .ref n] ∧ Drw H d ∧ n ≠ d ∧ H n = some (.lst (nm.map V.str)) ∧ nm.length ≤ 30 ∧
  ∀ (H' : Hp) (v : V) (f : Fm), Kp d H H' → Drw H' d → FmAt K H' v f → Wo nm f → sz f ≤ 1 → Q v H'
def dpt : Fm → Nat
  | .c0 _ => 0
  | .sg _ => 0
  | .un _ f => dpt f + 1
  | .bin _ f g => max (dpt f) (dpt g) + 1
def Szd (f : Fm) (n : Nat) : Prop := sz f + 1 ≤ 2 ^ (n + 1) ∧ dpt f ≤ n
theorem szd_leaf {f : Fm} (h : sz f ≤ 1) (n : Nat) : Szd f n := by
  have h1 : 2 ≤ 2 ^ (n + 1) := by
    rw [Nat.pow_succ]
    have : 1 ≤ 2 ^ n := Nat.one_le_two_pow
    omega
  cases f with
  | c0 _ => exact ⟨h1, Nat.zero_le _⟩
  | sg _ => exact ⟨h1, Nat.zero_le _⟩
  | un _ f =>
    have := sz_pos f
    have h : sz f + 1 ≤ 1 := h
    omega
  | bin _ f g =>
    have := sz_pos f
    have h : sz f + sz g + 1 ≤ 1 := h
    omega
theorem szd_un {f : Fm} {n : Nat} (k : Str) (h : Szd f n) : Szd (.un k f) (n + 1) := by
  refine ⟨?_, Nat.succ_le_succ h.2⟩
  show sz f + 1 + 1 ≤ _
  have := h.1
  rw [Nat.pow_succ 2 (n + 1)]
  have : 1 ≤ 2 ^ (n + 1) := Nat.one_le_two_pow
  omega
theorem szd_bin {f g : Fm} {n : Nat} (k : Str) (h : Szd f n) (h' : Szd g n) : Szd (.bin k f g) (n + 1) := by
  refine ⟨?_, Nat.succ_le_succ (Nat.max_le.mpr ⟨h.2, h'.2⟩)⟩
  show sz f + sz g + 1 + 1 ≤ _
  have := h.1
  have := h'.1
  rw [Nat.pow_succ 2 (n + 1)]
  omega
def spForm (K : PySem.W.Frag) : Nat → Sp
  | 0 => fun _ _ _ _ => False
  | dp + 1 => fun vs H Q _ => ∃ (d n : Addr) (nm : List Str) (b : Int), vs = [.ref d, .ref n, .int b, .int (dp : Int)] ∧ Drw H d ∧ n ≠ d ∧ H n = some (.lst (nm.map V.str)) ∧ nm.length ≤ 30 ∧ 0 ≤ b ∧ b ≤ 1000 ∧
    ∀ (H' : Hp) (v : V) (f : Fm), Kp d H H' → Drw H' d → FmAt K H' v f → Wo nm f → Szd f dp → Q v H'
theorem str_at {z : Str} {i : Int} (h0 : 0 ≤ i) (h1 : i < (z.length : Nat)) : ∃ c, atI z.cps.toList i = some c := by
  have h2 : i.toNat < z.cps.toList.length := by
    rw [Array.length_toList]
    show i.toNat < z.length
    omega
  refine ⟨z.cps.toList[i.toNat], ?_⟩
  have e : ((i.toNat : Nat) : Int) = i := by omega
  have r := atI_nat (List.getElem?_eq_getElem h2)
  rwa [e] at r
theorem pick_at {ss : List Str} {i : Int} (h0 : 0 ≤ i) (h1 : i < (ss.length : Nat)) : ∃ s, s ∈ ss ∧ atI (ss.map V.str) i = some (.str s) := by
  have h2 : i.toNat < ss.length := by omega
  refine ⟨ss[i.toNat], List.getElem_mem h2, ?_⟩
  have e : ((i.toNat : Nat) : Int) = i := by omega
  have r := atI_nat (xs := ss.map V.str) (v := .str ss[i.toNat]) (by rw [List.getElem?_map, List.getElem?_eq_getElem h2]; rfl)
  rwa [e] at r
theorem one_len {c : Nat} : (⟨#[c]⟩ : Str).length = 1 := rfl
theorem app_len (a b : Str) : (a ++ b).length = a.length + b.length := by
  show (a.cps ++ b.cps).size = _
  rw [Array.size_append]
  rfl
abbrev sChars : Str := "abcdefghijklmnopqrstuvwxyz0123456789"
theorem len_chars : sChars.length = 36 := by decide +kernel
theorem len_ends : sEnds.length = 8 := by decide +kernel
theorem ok_app {a b : Str} (ha : PyData.strOk a = true) (hb : PyData.strOk b = true) : PyData.strOk (a ++ b) = true := by
  show (a.cps ++ b.cps).all _ = true
  rw [Array.all_append]
  unfold PyData.strOk at ha hb
  rw [ha, hb]
  rfl
theorem ok_join {sep : Str} (hs : PyData.strOk sep = true) : ∀ xs : List Str, (∀ x ∈ xs, PyData.strOk x = true) → PyData.strOk (Str.join sep xs) = true
  | [], _ => by
    rw [Str.join]
    decide +kernel
  | [x], h => by
    rw [Str.join]
    exact h x List.mem_cons_self
  | x :: y :: rest, h => ok_app (ok_app (h x List.mem_cons_self) hs) (ok_join hs (y :: rest) fun z hz => h z (List.mem_cons_of_mem _ hz))
theorem ok_one {z : Str} {i : Int} {c : Nat} (hz : PyData.strOk z = true) (h : atI z.cps.toList i = some c) : PyData.strOk ⟨#[c]⟩ = true := by
  obtain ⟨j, _, _, _, hj, _⟩ := atI_get h
  have hm : c ∈ z.cps.toList := by
    first
    | exact List.mem_of_getElem? (by assumption)
    | exact List.mem_of_getElem? hj
  unfold PyData.strOk at hz ⊢
  rw [Array.all_eq_true_iff_forall_mem] at hz
  have := hz c (by simpa using hm)
  simpa using this
theorem ok_chars : PyData.strOk sChars = true := by decide +kernel
theorem ok_ends : PyData.strOk sEnds = true := by decide +kernel
theorem at_mem {z : Str} {i : Int} {c : Nat} (h : atI z.cps.toList i = some c) : c ∈ z.cps.toList := by
  obtain ⟨j, _, _, _, hj, _⟩ := atI_get h
  first
  | exact List.mem_of_getElem? (by assumption)
  | exact List.mem_of_getElem? hj
theorem join_all : ∀ {xs : List Str}, (∀ x ∈ xs, ∀ c ∈ x.cps.toList, c ∈ sChars.cps.toList) → ∀ c ∈ (Str.join (Str.ofString "") xs).cps.toList, c ∈ sChars.cps.toList
  | [], _, c, h => by
    rw [Str.join] at h
    exact absurd h (by show c ∉ ([] : List Nat); simp)
  | [x], hx, c, h => by
    rw [Str.join] at h
    exact hx x List.mem_cons_self c h
  | x :: y :: rest, hx, c, h => by
    have h : c ∈ (x ++ Str.ofString "" ++ Str.join (Str.ofString "") (y :: rest)).cps.toList := h
    have e : ∀ a b : Str, (a ++ b).cps.toList = a.cps.toList ++ b.cps.toList := fun a b => by
      show (a.cps ++ b.cps).toList = _
      rw [Array.toList_append]
    rw [e, e, List.mem_append, List.mem_append] at h
    rcases h with (h | h) | h
    · exact hx x List.mem_cons_self c h
    · exact absurd h (by show c ∉ ([] : List Nat); simp)
    · exact join_all (fun z hz => hx z (List.mem_cons_of_mem _ hz)) c h
theorem chars_ok : ∀ c ∈ sChars.cps.toList, okW false c = true := by decide +kernel
theorem chars_lc : ∀ c ∈ sChars.cps.toList.take 26, okW true c = true := by decide +kernel
theorem ends_ok : ∀ c ∈ sEnds.cps.toList, okW false c = true := by decide +kernel
theorem ends_res : ∀ w ∈ (["true", "false", "exists", "forall"] : List Str), ∀ c ∈ sEnds.cps.toList, w.cps.toList.getLast? ≠ some c := by decide +kernel
theorem lc_at {u : Int} {c : Nat} (h0 : 0 ≤ u) (h1 : u < 26) (h : atI sChars.cps.toList u = some c) : okW true c = true := by
  refine chars_lc c ?_
  have hl : u.toNat < sChars.cps.toList.length := Nat.lt_of_lt_of_le (show u.toNat < 26 by omega) (by decide +kernel)
  have e : ((u.toNat : Nat) : Int) = u := by omega
  have r := atI_nat (List.getElem?_eq_getElem hl)
  rw [e, h] at r
  have r2 : sChars.cps.toList[u.toNat]? = some c := by rw [List.getElem?_eq_getElem hl, ← r]
  exact List.mem_of_getElem? (i := u.toNat) (by rw [List.getElem?_take, if_pos (by omega)]; exact r2)
theorem name_ok {c c2 : Nat} {J : Str} (h1 : okW true c = true) (h2 : ∀ c' ∈ J.cps.toList, c' ∈ sChars.cps.toList) (h3 : c2 ∈ sEnds.cps.toList) : nameOk ((⟨#[c]⟩ : Str) ++ J ++ (⟨#[c2]⟩ : Str)) = true := by
  have e : ((⟨#[c]⟩ : Str) ++ J ++ (⟨#[c2]⟩ : Str)).cps.toList = c :: (J.cps.toList ++ [c2]) := by
    show (#[c] ++ J.cps ++ #[c2]).toList = _
    simp
  unfold nameOk
  rw [e]
  have w : wholeW (c :: (J.cps.toList ++ [c2])) = true := by
    unfold wholeW
    dsimp only
    rw [h1, List.all_eq_true.mpr fun x hx => ?_]
    · rfl
    · rcases List.mem_append.mp hx with hx | hx
      · exact chars_ok x (h2 x hx)
      · rw [List.mem_singleton.mp hx]; exact ends_ok c2 h3
  have r : resW ((⟨#[c]⟩ : Str) ++ J ++ (⟨#[c2]⟩ : Str)) = false := by
    have k : ∀ w ∈ (["true", "false", "exists", "forall"] : List Str), ((⟨#[c]⟩ : Str) ++ J ++ (⟨#[c2]⟩ : Str)) ≠ w := fun w hw z => by
      have := ends_res w hw c2 h3
      rw [← z, ends_app] at this
      exact this rfl
    unfold resW
    rw [decide_eq_false (fun z => ?_), decide_eq_false (fun z => ?_)]
    · rfl
    · rcases List.mem_cons.mp z with z | z
      · exact k "exists" (by simp) z
      · exact k "forall" (by simp) (List.mem_singleton.mp z)
    · rcases List.mem_cons.mp z with z | z
      · exact k "true" (by simp) z
      · exact k "false" (by simp) (List.mem_singleton.mp z)
  rw [w, r]
  rfl
theorem cal_name (T : Txt K mg) : C8.Cal P w K mg base 2 "_law_name" spName [] := by
  have C_law_take : C8.Cal P w K mg base 1 "_law_take" spTake [] := cal_take T
  obtain ⟨f, fd, F, hm, hb⟩ := T.h_law_name
  refine ⟨f, fd, _, [], F.ok sc_law_name (fun vs H Q E h => ?_) (fun cdv A outer s H vs Q E hr h => ?_), hm, F.kp, hb, .nil⟩
  · obtain ⟨d, k, rfl, _⟩ := h
    rfl
  · obtain ⟨d, k, rfl, hd, k0, k1, q⟩ := h
    refine ⟨_, (pss_cons
      (ps_set (i := 2) sc_law_name.nd rfl (Or.inr rfl) pe_str)
      (pss_cons
      (ps_set (i := 3) sc_law_name.nd rfl (Or.inl rfl) (pe_join pe_str (pe_lc (own := [("j", 4)]) (g := gName 4) (tt := tYes) rfl sc_law_name.nd (pi_range1 (by rfl) T.z_range (pa_cons (C8.pe_c C_law_take hr (by decide) (by rfl) (pa_cons (pv 0) (pa_cons pe_int pa_nil))) pa_nil)) (blkOk_by (N := N_law_name) (sc := defScope s_law_name) (by decide +kernel)) (fun _ _ _ _ _ => (pg_name (i := 4) sc_law_name.nd rfl (Or.inl rfl))) (fun _ _ _ _ _ => pts_nil) (fun _ _ _ _ _ => (pe_ix ix_str (pv 2) (C8.pe_c C_law_take hr (by decide) (by rfl) (pa_cons (pv 0) (pa_cons pe_int pa_nil))) (fun _ _ => rfl))))))
      (pss_one
      (ps_ret (pe_op op_add_str (pe_op op_add_str (pe_ix ix_str (pv 2) (C8.pe_c C_law_take hr (by decide) (by rfl) (pa_cons (pv 0) (pa_cons pe_int pa_nil))) (fun _ _ => rfl)) (pv 3)) (pe_ix ix_str pe_str (pv 1) (fun _ _ => rfl))))))), ?_⟩
    refine ⟨⟨_, rfl⟩, ?_⟩
    refine ⟨_, rfl, d, _, rfl, hd, by decide, fun r ds r0 r1 => ?_⟩
    refine ⟨_, rfl, by omega, by omega, fun D hD => ?_⟩
    have nDd : D ≠ d := fun z => by rw [z, upd_same] at hD; cases hD
    refine lc_range (lo := 0) (n := r.toNat) (fun i H' => ∃ xs : List Str, Kp d H H' ∧ Drw H' d ∧ H' D = some (.lst (xs.map V.str)) ∧ xs.length = i ∧ ∀ x ∈ xs, x.length = 1 ∧ PyData.strOk x = true ∧ ∀ c ∈ x.cps.toList, c ∈ sChars.cps.toList)
      ⟨[], Kp.own.trans (Kp.new hD), Drw.own.new hD, upd_same, rfl, by simp⟩ ?_ ?_
    · rintro i H1 hi ⟨xs, k1', d1, e1, el, hx⟩
      refine ⟨rfl, _, rfl, _, rfl, d, _, rfl, d1, by decide, fun u us u0 u1 => ?_⟩
      obtain ⟨c, hc⟩ := str_at (z := sChars) u0 (by rw [len_chars]; exact u1)
      refine ⟨sChars, u, c, rfl, rfl, by rw [len_chars]; decide, hc, ?_⟩
      refine ⟨xs.map V.str, by rw [upd_ne nDd]; exact e1, by rw [List.length_map]; exact Nat.lt_of_le_of_lt (show xs.length ≤ 1000 by omega) (by decide), xs ++ [⟨#[c]⟩], ?_, ?_, ?_, ?_, ?_⟩
      · intro b o nb hb
        have nbD : b ≠ D := fun z => by
          have h0 : (upd H d (.lst (ds.map V.int))) D = none := hD
          rw [upd_ne nDd] at h0
          rw [z, h0] at hb
          cases hb
        rw [upd_ne nbD, upd_ne nb]
        exact k1' _ _ nb hb
      · exact ⟨us, by rw [upd_ne nDd.symm, upd_same]⟩
      · rw [upd_same, List.map_append]
        rfl
      · simp [el]
      · intro x hx2
        rcases List.mem_append.mp hx2 with z | z
        · exact hx x z
        · rw [List.mem_singleton.mp z]
          exact ⟨one_len, ok_one ok_chars hc, fun c' hc' => by rw [List.mem_singleton.mp hc']; exact at_mem hc⟩
    · rintro H1 ⟨xs, k2, d1, e1, el, hx⟩
      have hsum : (xs.map (·.length)).sum ≤ 2 := by
        have e : xs.map (·.length) = List.replicate xs.length 1 := List.eq_replicate_iff.mpr ⟨by rw [List.length_map], fun b hb => by
          obtain ⟨x, hx2, rfl⟩ := List.mem_map.mp hb
          exact (hx x hx2).1⟩
        rw [e, List.sum_replicate_nat]
        omega
      have hz : Str.length (Str.ofString "") = 0 := by decide +kernel
      have hjl := StrLaws.join_length_le (Str.ofString "") xs
      rw [← (show Txt.join (Str.ofString "") xs = Str.join (Str.ofString "") xs from TL.join_eq _ _), hz] at hjl
      have hj2 : (Txt.join (Str.ofString "") xs).length ≤ 2 := by omega
      refine ⟨_, D, xs, rfl, rfl, .inl (.of e1), ?_, ?_⟩
      · show (xs.map (·.length)).sum + xs.length * Str.length (Str.ofString "") ≤ 16777216
        rw [hz]
        omega
      · refine ⟨_, rfl, _, rfl, d, _, rfl, d1, by decide, fun u us u0 u1 => ?_⟩
        obtain ⟨c, hc⟩ := str_at (z := sChars) u0 (by rw [len_chars]; omega)
        refine ⟨sChars, u, c, rfl, rfl, by rw [len_chars]; decide, hc, ?_⟩
        refine ⟨_, rfl, _, _, rfl, rfl, ?_, ?_⟩
        · rw [one_len]
          exact Nat.le_trans (show 1 + (Txt.join (Str.ofString "") xs).length ≤ 3 by omega) (by decide)
        obtain ⟨c2, hc2⟩ := str_at (z := sEnds) k0 (by rw [len_ends]; exact k1)
        refine ⟨_, rfl, sEnds, k, c2, rfl, rfl, by rw [len_ends]; decide, hc2, _, _, rfl, rfl, ?_, ?_⟩
        · rw [app_len, one_len, one_len]
          exact Nat.le_trans (show 1 + (Txt.join (Str.ofString "") xs).length + 1 ≤ 4 by omega) (by decide)
        · refine q _ _ (k2.trans Kp.own) Drw.own (ok_app (ok_app (ok_one ok_chars hc) ?_) (ok_one ok_ends hc2)) ⟨c2, hc2, ends_app _ _⟩ ⟨name_ok (lc_at u0 u1 hc) (fun c' hc' => join_all (fun x hx2 => (hx x hx2).2.2) c' (by rw [show Txt.join (Str.ofString "") xs = Str.join (Str.ofString "") xs from TL.join_eq _ _] at hc'; exact hc')) (at_mem hc2), by rw [app_len, app_len, one_len, one_len]; omega⟩
          rw [show Txt.join (Str.ofString "") xs = Str.join (Str.ofString "") xs from TL.join_eq _ _]
          exact ok_join (by decide +kernel) xs fun x hx2 => (hx x hx2).2.1
theorem ends_inj : ∀ i j : Fin 8, sEnds.cps.toList[i.val]? = sEnds.cps.toList[j.val]? → i = j := by decide +kernel
theorem ends_nodup {xs : List Str} (hl : xs.length ≤ 8) (h : ∀ (j : Nat) (s : Str), xs[j]? = some s → EndsIn s (j : Int)) : xs.Nodup := by
  unfold List.Nodup
  rw [List.pairwise_iff_getElem]
  intro i j hi hj hij e
  obtain ⟨c, h1, h2⟩ := h i _ (List.getElem?_eq_getElem hi)
  obtain ⟨c', h1', h2'⟩ := h j _ (List.getElem?_eq_getElem hj)
  rw [e, h2'] at h2
  cases h2
  have gi : ∀ (k : Nat) c, k < 8 → atI sEnds.cps.toList (k : Int) = some c → sEnds.cps.toList[k]? = some c := fun k c hk hc => by
    have hl : k < sEnds.cps.toList.length := Nat.lt_of_lt_of_eq hk (by decide +kernel)
    have := atI_nat (List.getElem?_eq_getElem hl)
    rw [hc] at this
    rw [List.getElem?_eq_getElem hl, ← this]
  have := ends_inj ⟨i, by omega⟩ ⟨j, by omega⟩ ((gi i _ (by omega) h1).trans (gi j _ (by omega) h1').symm)
  have := congrArg Fin.val this
  simp only at this
  omega
theorem cal_names (T : Txt K mg) : C8.Cal P w K mg base 3 "_law_names" spNames [] := by
  have C_law_name : C8.Cal P w K mg base 2 "_law_name" spName [] := cal_name T
  obtain ⟨f, fd, F, hm, hb⟩ := T.h_law_names
  refine ⟨f, fd, _, [], F.ok sc_law_names (fun vs H Q E h => ?_) (fun cdv A outer s H vs Q E hr h => ?_), hm, F.kp, hb, .nil⟩
  · obtain ⟨d, c, rfl, _⟩ := h
    rfl
  · obtain ⟨d, c, rfl, hd, c0, c1, q⟩ := h
    refine ⟨_, (pss_one
      (ps_ret (pe_lc (own := [("k", 2)]) (g := gName 2) (tt := tYes) rfl sc_law_names.nd (pi_range1 (by rfl) T.z_range (pa_cons (pv 1) pa_nil)) (blkOk_by (N := N_law_names) (sc := defScope s_law_names) (by decide +kernel)) (fun _ _ _ _ _ => (pg_name (i := 2) sc_law_names.nd rfl (Or.inl rfl))) (fun _ _ _ _ _ => pts_nil) (fun _ _ _ _ _ => (C8.pe_c C_law_name hr (by decide) (by rfl) (pa_cons (pv 0) (pa_cons (pv 2) pa_nil))))))), ?_⟩
    refine ⟨_, rfl, _, rfl, by omega, by omega, fun D hD => ?_⟩
    have nDd : D ≠ d := fun z => by
      obtain ⟨ds, e⟩ := hd
      rw [z, e] at hD
      cases hD
    refine lc_range (lo := 0) (n := c.toNat) (fun i H' => ∃ xs : List Str, Kp d H H' ∧ Drw H' d ∧ H' D = some (.lst (xs.map V.str)) ∧ xs.length = i ∧ (∀ x ∈ xs, PyData.strOk x = true ∧ NmG x) ∧ ∀ (j : Nat) (s : Str), xs[j]? = some s → EndsIn s (j : Int))
      ⟨[], Kp.new hD, hd.new hD, upd_same, rfl, by simp, fun j s z => by simp at z⟩ ?_ ?_
    · rintro i H1 hi ⟨xs, k1, d1, e1, el, eok, een⟩
      refine ⟨rfl, _, rfl, _, rfl, d, _, rfl, d1, by omega, by omega, fun H2 s k2 d2 sok sen sng => ?_⟩
      refine ⟨xs.map V.str, k2 _ _ nDd e1, by rw [List.length_map]; exact Nat.lt_of_le_of_lt (show xs.length ≤ 1000 by omega) (by decide), xs ++ [s], fun b o nb hb => ?_, ?_, ?_, ?_, fun x hx2 => ?_, fun j s2 hj => ?_⟩
      · rw [upd_ne (fun z => by rw [z, hD] at hb; cases hb)]
        exact k2 _ _ nb (k1 _ _ nb hb)
      · obtain ⟨ds, e⟩ := d2
        exact ⟨ds, by rw [upd_ne nDd.symm]; exact e⟩
      · rw [upd_same, List.map_append]
        rfl
      · simp [el]
      · rcases List.mem_append.mp hx2 with z | z
        · exact eok x z
        · rw [List.mem_singleton.mp z]
          exact ⟨sok, sng⟩
      · rcases Nat.lt_or_ge j xs.length with z | z
        · rw [List.getElem?_append_left z] at hj
          exact een j s2 hj
        · rw [List.getElem?_append_right z] at hj
          have hj0 : j - xs.length = 0 := by
            have := (List.getElem?_eq_some_iff.mp hj).1
            simp at this
            omega
          rw [hj0] at hj
          cases hj
          have e : (j : Int) = 0 + (i : Int) := by omega
          rw [e]
          exact sen
    · rintro H1 ⟨xs, k1, d1, e1, el, eok, een⟩
      exact q H1 D xs k1 d1 nDd e1 el (fun s hs => (eok s hs).1) (ends_nodup (by omega) een) fun s hs => (eok s hs).2
theorem cal_leaf (T : Txt K mg) : C8.Cal P w K mg base 2 "_law_leaf" (spLeaf K) [] := by
  have C_law_take : C8.Cal P w K mg base 1 "_law_take" spTake [] := cal_take T
  obtain ⟨f, fd, F, hm, hb⟩ := T.h_law_leaf
  refine ⟨f, fd, _, [], F.ok sc_law_leaf (fun vs H Q E h => ?_) (fun cdv A outer s H vs Q E hr h => ?_), hm, F.kp, hb, .nil⟩
  · obtain ⟨d, n, nm, rfl, _⟩ := h
    rfl
  · obtain ⟨d, n, nm, rfl, hd, hnd, hn, hl, q⟩ := h
    refine ⟨_, (pss_cons
      (ps_set (i := 2) sc_law_leaf.nd rfl (Or.inl rfl) (C8.pe_c C_law_take hr (by decide) (by rfl) (pa_cons (pv 0) (pa_cons pe_int pa_nil))))
      (pss_cons
      (ps_if (PW.pt (pw_or (pt_cmpR op_eq (pe_callB (call_lenK (K := K) rfl) (by rfl) T.z_len PySem.boot_len (pa_cons (pv 1) pa_nil)) pe_int (nomark _)) (pw_or1 (pt_cmpR op_eq (pv 2) pe_int (nomark _))))) (pss_one
      (ps_ret (pe_tup (pa_cons (pe_ix (ix_listK (K := K) rfl) (pe_lst (pa_cons pe_str (pa_cons pe_str pa_nil))) (pe_op op_mod (pv 2) pe_int) (fun _ _ => rfl)) pa_nil)))) pss_nil)
      (pss_one
      (ps_ret (pe_tup (pa_cons pe_str (pa_cons (pe_ix (ix_listK (K := K) rfl) (pv 1) (C8.pe_c C_law_take hr (by decide) (by rfl) (pa_cons (pv 0) (pa_cons (pe_callB (call_lenK (K := K) rfl) (by rfl) T.z_len PySem.boot_len (pa_cons (pv 1) pa_nil)) pa_nil))) (fun _ _ => rfl)) pa_nil))))))), ?_⟩
    refine ⟨_, rfl, d, _, rfl, hd, by decide, fun r ds r0 r1 => ?_⟩
    have k1 : Kp d H (upd H d (.lst (ds.map V.int))) := Kp.own
    have d1 : Drw (upd H d (.lst (ds.map V.int))) d := Drw.own
    have hn1 := k1 _ _ hnd hn
    generalize upd H d (.lst (ds.map V.int)) = H1 at k1 d1 hn1 ⊢
    have lit : ∀ (Q2 : VK), (∀ (H' : Hp) (v : V) (f : Fm), Kp d H H' → Drw H' d → FmAt K H' v f → Wo nm f → sz f ≤ 1 → Q2 v H') → ∀ t, H1 t = none → ∃ p xs i v, V.ref t = V.ref p ∧ V.int (r % 2) = V.int i ∧ SqL K (upd H1 t (.lst [.str "true", .str "false"])) p xs ∧ atI xs i = some v ∧
        ([v].length ≤ sizeLine ∧ ∀ t2, (upd H1 t (.lst [.str "true", .str "false"])) t2 = none → Q2 (.ref t2) (upd (upd H1 t (.lst [.str "true", .str "false"])) t2 (.tup [v]))) := fun Q2 q2 t ht => by
      obtain ⟨z, hz, ha⟩ := pick_at (ss := ["true", "false"]) (i := r % 2) (Int.emod_nonneg _ (by decide)) (Int.emod_lt_of_pos _ (by decide))
      refine ⟨t, _, _, .str z, rfl, rfl, .of upd_same, ha, by show 1 ≤ sizeLine; decide, fun t2 ht2 => ?_⟩
      exact q2 _ _ (.c0 z) (k1.trans ((Kp.new ht).trans (Kp.new ht2))) ((d1.new ht).new ht2) ⟨t2, rfl, .of upd_same⟩ (show z = "true" ∨ z = "false" by simpa using hz) (Nat.le_refl _)
    refine ⟨_, rfl, n, _, rfl, .inl (.of hn1), rfl, _, rfl, ite_eq (fun c => ?_) (fun c => ⟨_, rfl, rfl, _, rfl, ite_eq (fun c2 => ?_) (fun c2 => ?_)⟩)⟩
    · exact ⟨by show 2 ≤ sizeLine; decide, fun t ht => ⟨_, rfl, _, _, rfl, rfl, by show (0 : Int) < 2; decide, lit Q q t ht⟩⟩
    · exact ⟨by show 2 ≤ sizeLine; decide, fun t ht => ⟨_, rfl, _, _, rfl, rfl, by show (0 : Int) < 2; decide, lit Q q t ht⟩⟩
    · rw [List.length_map] at c
      refine ⟨_, rfl, _, rfl, _, rfl, n, _, rfl, .inl (.of hn1), d, _, rfl, d1, by rw [List.length_map]; omega, fun u us u0 u1 => ?_⟩
      rw [List.length_map] at u1
      have k2 : Kp d H1 (upd H1 d (.lst (us.map V.int))) := Kp.own
      have d2 : Drw (upd H1 d (.lst (us.map V.int))) d := Drw.own
      have hn2 := k2 _ _ hnd hn1
      generalize upd H1 d (.lst (us.map V.int)) = H2 at k2 d2 hn2 ⊢
      obtain ⟨z, hz, ha⟩ := pick_at (ss := nm) u0 u1
      refine ⟨n, _, _, .str z, rfl, rfl, .of hn2, ha, by show 2 ≤ sizeLine; decide, fun t ht => ?_⟩
      exact q _ _ (.sg z) (k1.trans (k2.trans (Kp.new ht))) (d2.new ht) ⟨t, rfl, .of upd_same⟩ hz (Nat.le_refl _)
theorem str_ite {k x : Str} {A B : Prop} (h1 : k = x → A) (h2 : k ≠ x → B) : if decide (V.str k = V.str x) = true then A else B := by
  by_cases c : k = x
  · rw [if_pos (by rw [c]; exact decide_eq_true rfl)]
    exact h1 c
  · rw [if_neg (by rw [decide_eq_false (fun z => c (V.str.inj z))]; exact Bool.false_ne_true)]
    exact h2 c
abbrev L7 : List Str := ["next", "eventually", "always", "previous", "weak_previous", "once", "historically"]
abbrev M7 : List Str := ["until", "release", "since", "trigger", "weak_until", "until", "since"]
abbrev L4 : List Str := ["and", "or", "implies", "iff"]
theorem l7_un : ∀ s, s ∈ L7 → s ∈ unOps := by decide
theorem m7_bin : ∀ s, s ∈ M7 → s ∈ binOps := by decide
theorem l4_bin : ∀ s, s ∈ L4 → s ∈ binOps := by decide
theorem two_pow_pos' (n : Nat) : 1 ≤ 2 ^ n := Nat.one_le_two_pow
theorem cal_form_step {n : Nat} (T : Txt K mg) (C_law_formula : C8.Cal P w K mg base (2 + n) "_law_formula" (spForm K n) []) : C8.Cal P w K mg base (2 + n + 1) "_law_formula" (spForm K (n + 1)) [] := by
  have C_law_take : C8.Cal P w K mg base 1 "_law_take" spTake [] := cal_take T
  have C_law_leaf : C8.Cal P w K mg base 2 "_law_leaf" (spLeaf K) [] := cal_leaf T
  obtain ⟨f, fd, F, hm, hb⟩ := T.h_law_formula
  refine ⟨f, fd, _, [], F.ok sc_law_formula (fun vs H Q E h => ?_) (fun cdv A outer s H vs Q E hr h => ?_), hm, F.kp, hb, .nil⟩
  · obtain ⟨d, n, nm, b, rfl, _⟩ := h
    rfl
  · obtain ⟨d, na, nm, b, rfl, hd, hnd, hn, hl, hb0, hb1, q⟩ := h
    refine ⟨_, (pss_cons
      (ps_set (i := 4) sc_law_formula.nd rfl (Or.inl rfl) (C8.pe_c C_law_take hr (by omega) (by rfl) (pa_cons (pv 0) (pa_cons pe_int pa_nil))))
      (pss_cons
      (ps_if (PW.pt (pw_or (pt_cmpR op_eq (pv 3) pe_int (nomark _)) (pw_or1 (pt_cmpR op_lt (pv 4) pe_int (nomark _))))) (pss_one
      (ps_ret (C8.pe_c C_law_leaf hr (by omega) (by rfl) (pa_cons (pv 0) (pa_cons (pv 1) pa_nil))))) pss_nil)
      (C8.pss_cut
      (ps_if (PW.pt (pw_and (pt_cmpR op_gt (pv 2) pe_int (nomark _)) (pw_and1 (pt_cmpR op_lt (pv 4) pe_int (nomark _))))) (pss_cons
      (ps_set (i := 5) sc_law_formula.nd rfl (Or.inl rfl) (pe_lst (pa_cons pe_str (pa_cons pe_str (pa_cons pe_str (pa_cons pe_str (pa_cons pe_str (pa_cons pe_str (pa_cons pe_str pa_nil)))))))))
      (pss_cons
      (ps_if (pt_cmpR op_lt (pv 4) pe_int (nomark _)) (pss_one
      (ps_ret (pe_tup (pa_cons (pe_ix (ix_listK (K := K) rfl) (pv 5) (pe_op op_sub (pv 4) pe_int) (fun _ _ => rfl)) (pa_cons (C8.pe_c C_law_formula hr (by omega) (by rfl) (pa_cons (pv 0) (pa_cons (pv 1) (pa_cons (pe_op op_sub (pv 2) pe_int) (pa_cons (pe_op op_sub (pv 3) pe_int) pa_nil))))) pa_nil))))) pss_nil)
      (pss_cons
      (ps_set (i := 6) sc_law_formula.nd rfl (Or.inl rfl) (pe_ix (ix_listK (K := K) rfl) (pe_lst (pa_cons pe_str (pa_cons pe_str (pa_cons pe_str (pa_cons pe_str (pa_cons pe_str (pa_cons pe_str (pa_cons pe_str pa_nil)))))))) (pe_op op_sub (pv 4) pe_int) (fun _ _ => rfl)))
      (C8.pss_cut
      (ps_if (PW.pt (pw_and (pt_cmpR op_eq (pv 3) pe_int (nomark _)) (pw_and1 (pt_cmpR op_eq (pv 6) pe_str (nomark _))))) (pss_one
      (ps_set (i := 6) sc_law_formula.nd rfl (Or.inl rfl) pe_str)) pss_nil)
      (pss_cons
      (ps_set (i := 7) sc_law_formula.nd rfl (Or.inl rfl) (C8.pe_c C_law_take hr (by omega) (by rfl) (pa_cons (pv 0) (pa_cons (pv 2) pa_nil))))
      (pss_cons
      (ps_set (i := 8) sc_law_formula.nd rfl (Or.inl rfl) (C8.pe_c C_law_formula hr (by omega) (by rfl) (pa_cons (pv 0) (pa_cons (pv 1) (pa_cons (pv 7) (pa_cons (pe_op op_sub (pv 3) pe_int) pa_nil))))))
      (pss_one
      (ps_ret (pe_tup (pa_cons (pv 6) (pa_cons (pv 8) (pa_cons (C8.pe_c C_law_formula hr (by omega) (by rfl) (pa_cons (pv 0) (pa_cons (pv 1) (pa_cons (pe_op op_sub (pe_op op_sub (pv 2) pe_int) (pv 7)) (pa_cons (pe_op op_sub (pv 3) pe_int) pa_nil))))) pa_nil)))))))))))) pss_nil)
      (pss_cons
      (ps_if (pt_cmpR op_eq (pe_op op_mod (pv 4) pe_int) pe_int (nomark _)) (pss_one
      (ps_ret (pe_tup (pa_cons pe_str (pa_cons (C8.pe_c C_law_formula hr (by omega) (by rfl) (pa_cons (pv 0) (pa_cons (pv 1) (pa_cons (pv 2) (pa_cons (pe_op op_sub (pv 3) pe_int) pa_nil))))) pa_nil))))) pss_nil)
      (pss_cons
      (ps_set (i := 6) sc_law_formula.nd rfl (Or.inl rfl) (pe_ix (ix_listK (K := K) rfl) (pe_lst (pa_cons pe_str (pa_cons pe_str (pa_cons pe_str (pa_cons pe_str pa_nil))))) (pe_op op_mod (pv 4) pe_int) (fun _ _ => rfl)))
      (C8.pss_cut
      (ps_if (PW.pt (pw_and (pt_cmpR op_eq (pv 3) pe_int (nomark _)) (pw_and1 (pt_cmpR op_eq (pv 6) pe_str (nomark _))))) (pss_one
      (ps_set (i := 6) sc_law_formula.nd rfl (Or.inl rfl) pe_str)) pss_nil)
      (pss_cons
      (ps_set (i := 7) sc_law_formula.nd rfl (Or.inl rfl) (C8.pe_c C_law_take hr (by omega) (by rfl) (pa_cons (pv 0) (pa_cons (pe_op op_add (pv 2) pe_int) pa_nil))))
      (pss_cons
      (ps_set (i := 8) sc_law_formula.nd rfl (Or.inl rfl) (C8.pe_c C_law_formula hr (by omega) (by rfl) (pa_cons (pv 0) (pa_cons (pv 1) (pa_cons (pv 7) (pa_cons (pe_op op_sub (pv 3) pe_int) pa_nil))))))
      (pss_one
      (ps_ret (pe_tup (pa_cons (pv 6) (pa_cons (pv 8) (pa_cons (C8.pe_c C_law_formula hr (by omega) (by rfl) (pa_cons (pv 0) (pa_cons (pv 1) (pa_cons (pe_op op_sub (pv 2) (pv 7)) (pa_cons (pe_op op_sub (pv 3) pe_int) pa_nil))))) pa_nil)))))))))))))), ?_⟩
    refine ⟨_, rfl, d, _, rfl, hd, by decide, fun r ds r0 r1 => ?_⟩
    have k1 : Kp d H (upd H d (.lst (ds.map V.int))) := Kp.own
    have d1 : Drw (upd H d (.lst (ds.map V.int))) d := Drw.own
    have hn1 := k1 _ _ hnd hn
    generalize upd H d (.lst (ds.map V.int)) = H1 at k1 d1 hn1 ⊢
    have leaf : tRet (tCall (spLeaf K) [] C8.E0 (tCons (tVar 0) (tCons (tVar 1) tNil))) { nx := fun _ _ => True, rt := Q } [some (.ref d), some (.ref na), some (.int b), some (.int (n : Int)), some (.int r), none, none, none, none] H1 := by
      refine ⟨_, rfl, _, rfl, d, na, nm, rfl, d1, hnd, hn1, hl, fun H2 v g k2 d2 g2 w2 z2 => q H2 v g (k1.trans k2) d2 g2 w2 (szd_leaf z2 n)⟩
    refine ⟨_, rfl, rfl, _, rfl, ite_eq (fun _ => leaf) (fun cn => ⟨_, rfl, _, _, rfl, rfl, _, rfl, ite_lt (fun _ => leaf) (fun c3 => ?_)⟩)⟩
    clear leaf
    obtain ⟨n', rfl⟩ : ∃ n', n = n' + 1 := ⟨n - 1, by omega⟩
    have hdp : (((n' + 1 : Nat) : Int) - 1) = (n' : Int) := by omega
    have rcl : ∀ (H2 : Hp) (b2 : Int) (Q2 : VK) (E2 : XK), Kp d H H2 → Drw H2 d → 0 ≤ b2 → b2 ≤ 1000 → (∀ (H' : Hp) (v : V) (g : Fm), Kp d H2 H' → Drw H' d → FmAt K H' v g → Wo nm g → Szd g n' → Q2 v H') → spForm K (n' + 1) [.ref d, .ref na, .int b2, .int (((n' + 1 : Nat) : Int) - 1)] H2 Q2 E2 := fun H2 b2 Q2 E2 k2 d2 z0 z1 q2 =>
      ⟨d, na, nm, b2, by rw [hdp], d2, hnd, k2 _ _ hnd hn, hl, z0, z1, q2⟩
    have fin1 : ∀ (H2 H3 : Hp) (s : Str) (v : V) (g : Fm), Kp d H H2 → Drw H2 d → s ∈ unOps → FmAt K H2 v g → Wo nm g → Szd g n' → ∀ t, H2 t = none → Q (.ref t) (upd H2 t (.tup [.str s, v])) := fun H2 H3 s v g k2 d2 hs hg hw hz t ht =>
      q _ _ (.un s g) (k2.trans (Kp.new ht)) (d2.new ht) ⟨t, v, rfl, .of upd_same, hg.same (same_new ht)⟩ ⟨hs, hw⟩ (szd_un s hz)
    have fin2 : ∀ (H2 : Hp) (s : Str) (v u : V) (g g2 : Fm), Kp d H H2 → Drw H2 d → s ∈ binOps → FmAt K H2 v g → Wo nm g → Szd g n' → FmAt K H2 u g2 → Wo nm g2 → Szd g2 n' → ∀ t, H2 t = none → Q (.ref t) (upd H2 t (.tup [.str s, v, u])) := fun H2 s v u g g2 k2 d2 hs hg hw hz hg2 hw2 hz2 t ht =>
      q _ _ (.bin s g g2) (k2.trans (Kp.new ht)) (d2.new ht) ⟨t, v, u, rfl, .of upd_same, hg.same (same_new ht), hg2.same (same_new ht)⟩ ⟨hs, hw, hw2⟩ (szd_bin s hz hz2)
    refine ⟨fun σ H' => σ = [some (.ref d), some (.ref na), some (.int b), some (.int ((n' + 1 : Nat) : Int)), some (.int r), none, none, none, none] ∧ H1 = H', ?_, ?_⟩
    · refine ⟨_, rfl, _, _, rfl, rfl, _, rfl, ite_lt (fun c1 => ⟨_, rfl, _, _, rfl, rfl, _, rfl, ite_lt (fun c2 => ?_) (fun _ => ⟨rfl, rfl⟩)⟩) (fun _ => ⟨rfl, rfl⟩)⟩
      refine ⟨by show 7 ≤ sizeLine; decide, fun t1 n1 => ?_⟩
      have k2 := k1.trans (Kp.new (o := .lst (L7.map V.str)) n1)
      have d2 := d1.new (o := .lst (L7.map V.str)) n1
      refine ⟨_, rfl, _, _, rfl, rfl, _, rfl, ite_lt (fun c4 => ?_) (fun c4 => ?_)⟩
      · obtain ⟨s, hs, ha⟩ := pick_at (ss := L7) (i := r - 3) (by omega) (by show r - 3 < 7; omega)
        refine ⟨_, rfl, _, rfl, _, _, rfl, rfl, t1, _, _, .str s, rfl, rfl, .of upd_same, ha, ?_⟩
        refine ⟨_, rfl, _, rfl, _, rfl, _, _, rfl, rfl, _, rfl, _, _, rfl, rfl, rcl _ _ _ C8.E0 k2 d2 (by omega) (by omega) fun H3 v g k3 d3 g3 w3 z3 => ?_⟩
        exact ⟨by show 2 ≤ sizeLine; decide, fun t ht => fin1 _ H3 s v g (k2.trans k3) d3 (l7_un s hs) g3 w3 z3 t ht⟩
      · obtain ⟨s, hs, ha⟩ := pick_at (ss := M7) (i := r - 10) (by omega) (by show r - 10 < 7; omega)
        refine ⟨by show 7 ≤ sizeLine; decide, fun t2 n2 => ?_⟩
        have k3 := k2.trans (Kp.new (o := .lst (M7.map V.str)) n2)
        have d3 := d2.new (o := .lst (M7.map V.str)) n2
        refine ⟨_, rfl, _, _, rfl, rfl, t2, _, _, .str s, rfl, rfl, .of upd_same, ha, ?_⟩
        refine ⟨fun σ H' => ∃ s' : Str, s' ∈ binOps ∧ σ = [some (.ref d), some (.ref na), some (.int b), some (.int ((n' + 1 : Nat) : Int)), some (.int r), some (.ref t1), some (.str s'), none, none] ∧ Kp d H H' ∧ Drw H' d, ?_, ?_⟩
        · refine ⟨_, rfl, rfl, _, rfl, ite_eq (fun _ => ⟨_, rfl, rfl, _, rfl, str_ite (fun _ => ?_) (fun _ => ?_)⟩) (fun _ => ?_)⟩
          · exact ⟨_, by decide, rfl, k3, d3⟩
          · exact ⟨s, m7_bin s hs, rfl, k3, d3⟩
          · exact ⟨s, m7_bin s hs, rfl, k3, d3⟩
        · rintro σ H4 ⟨s', hs', rfl, k4, d4⟩
          refine ⟨_, rfl, _, rfl, d, _, rfl, d4, c1, fun u us u0 u1 => ?_⟩
          have k5 : Kp d H (upd H4 d (.lst (us.map V.int))) := k4.trans Kp.own
          have d5 : Drw (upd H4 d (.lst (us.map V.int))) d := Drw.own
          generalize upd H4 d (.lst (us.map V.int)) = H5 at k5 d5 ⊢
          refine ⟨_, rfl, _, rfl, _, rfl, _, rfl, _, _, rfl, rfl, rcl _ _ _ C8.E0 k5 d5 (by omega) (by omega) fun H6 v g k6 d6 g6 w6 z6 => ?_⟩
          refine ⟨_, rfl, _, rfl, _, rfl, _, rfl, _, rfl, _, _, rfl, rfl, _, rfl, _, _, rfl, rfl, _, rfl, _, _, rfl, rfl, rcl _ _ _ C8.E0 (k5.trans k6) d6 (by omega) (by omega) fun H7 v2 g2 k7 d7 g7 w7 z7 => ?_⟩
          obtain ⟨ys, hys⟩ := d6
          exact ⟨by show 3 ≤ sizeLine; decide, fun t ht => fin2 H7 s' v v2 g g2 ((k5.trans k6).trans k7) d7 hs' (g6.kp hys k7) w6 z6 g7 w7 z7 t ht⟩
    · rintro σ H' ⟨rfl, rfl⟩
      refine ⟨_, rfl, _, _, rfl, rfl, by show (0 : Int) < 5; decide, rfl, _, rfl, ite_eq (fun _ => ?_) (fun _ => ?_)⟩
      · refine ⟨_, rfl, _, rfl, _, rfl, _, rfl, _, _, rfl, rfl, rcl _ _ _ C8.E0 k1 d1 hb0 hb1 fun H3 v g k3 d3 g3 w3 z3 => ?_⟩
        exact ⟨by show 2 ≤ sizeLine; decide, fun t ht => fin1 _ H3 _ v g (k1.trans k3) d3 (by decide) g3 w3 z3 t ht⟩
      · obtain ⟨s, hs, ha⟩ := pick_at (ss := L4) (i := r % 4) (Int.emod_nonneg _ (by decide)) (Int.emod_lt_of_pos _ (by decide))
        refine ⟨by show 4 ≤ sizeLine; decide, fun t2 n2 => ?_⟩
        have k3 := k1.trans (Kp.new (o := .lst (L4.map V.str)) n2)
        have d3 := d1.new (o := .lst (L4.map V.str)) n2
        refine ⟨_, rfl, _, _, rfl, rfl, by show (0 : Int) < 4; decide, t2, _, _, .str s, rfl, rfl, .of upd_same, ha, ?_⟩
        refine ⟨fun σ H' => ∃ s' : Str, s' ∈ binOps ∧ σ = [some (.ref d), some (.ref na), some (.int b), some (.int ((n' + 1 : Nat) : Int)), some (.int r), none, some (.str s'), none, none] ∧ Kp d H H' ∧ Drw H' d, ?_, ?_⟩
        · refine ⟨_, rfl, rfl, _, rfl, ite_eq (fun _ => ⟨_, rfl, rfl, _, rfl, str_ite (fun _ => ?_) (fun _ => ?_)⟩) (fun _ => ?_)⟩
          · exact ⟨_, by decide, rfl, k3, d3⟩
          · exact ⟨s, l4_bin s hs, rfl, k3, d3⟩
          · exact ⟨s, l4_bin s hs, rfl, k3, d3⟩
        · rintro σ H4 ⟨s', hs', rfl, k4, d4⟩
          refine ⟨_, rfl, _, rfl, _, _, rfl, rfl, d, _, rfl, d4, by omega, fun u us u0 u1 => ?_⟩
          have k5 : Kp d H (upd H4 d (.lst (us.map V.int))) := k4.trans Kp.own
          have d5 : Drw (upd H4 d (.lst (us.map V.int))) d := Drw.own
          generalize upd H4 d (.lst (us.map V.int)) = H5 at k5 d5 ⊢
          refine ⟨_, rfl, _, rfl, _, rfl, _, rfl, _, _, rfl, rfl, rcl _ _ _ C8.E0 k5 d5 (by omega) (by omega) fun H6 v g k6 d6 g6 w6 z6 => ?_⟩
          refine ⟨_, rfl, _, rfl, _, rfl, _, rfl, _, rfl, _, rfl, _, _, rfl, rfl, _, rfl, _, _, rfl, rfl, rcl _ _ _ C8.E0 (k5.trans k6) d6 (by omega) (by omega) fun H7 v2 g2 k7 d7 g7 w7 z7 => ?_⟩
          obtain ⟨ys, hys⟩ := d6
          exact ⟨by show 3 ≤ sizeLine; decide, fun t ht => fin2 H7 s' v v2 g g2 ((k5.trans k6).trans k7) d7 hs' (g6.kp hys k7) w6 z6 g7 w7 z7 t ht⟩
theorem cal_form (T : Txt K mg) : ∀ n, C8.Cal P w K mg base (2 + n) "_law_formula" (spForm K n) []
  | 0 => by
    obtain ⟨f, fd, F, hm, hb⟩ := T.h_law_formula
    exact ⟨f, fd, _, [], ⟨fun vs H Q E h => h.elim, fun A outer s H args us vs Q E _ _ _ _ h => h.elim⟩, hm, F.kp, hb, .nil⟩
  | n + 1 => cal_form_step T (cal_form T n)
theorem nodup_len {l ss : List Str} (nd : l.Nodup) (h : ∀ z ∈ l, z ∈ ss) : l.length ≤ ss.length := by
  rcases Nat.lt_or_ge ss.length l.length with c | c
  · rw [(Sxt.perm_of_sub l ss nd h (Nat.le_of_lt c)).length_eq]
    exact Nat.le_refl _
  · exact c
structure GoodS (ins outs : List Str) (L : Int) : Prop where
  nm : ∀ s ∈ ins ++ outs, nameOk s = true
  nd : (ins ++ outs).Nodup
  li : ins.length ≤ 3
  lo : outs.length ≤ 3
  l0 : -3 ≤ L
  l1 : L ≤ 2
def SpcAt (C : Addr) (H : Hp) (x : Addr) (ins outs : List Str) (L : Int) (as gs : List V) (n : Bool) : Prop := ∃ dx i o a g, H x = some (.ins C dx (Spx.sf i o L a g n)) ∧ H i = some (.tup (ins.map V.str)) ∧ H o = some (.tup (outs.map V.str)) ∧ H a = some (.tup as) ∧ H g = some (.tup gs)
theorem SpcAt.same {C : Addr} {H H' : Hp} (s : Same H H') {x : Addr} {ins outs : List Str} {L : Int} {as gs : List V} {n : Bool} : SpcAt C H x ins outs L as gs n → SpcAt C H' x ins outs L as gs n := fun ⟨dx, i, o, a, g, h1, h2, h3, h4, h5⟩ => ⟨dx, i, o, a, g, s _ _ h1, s _ _ h2, s _ _ h3, s _ _ h4, s _ _ h5⟩
def spInit (C cS : Addr) : Sp := fun vs H Q E => ∃ (x dx i o a g : Addr) (ins outs : List Str) (L : Int) (as gs : List V) (n : Bool), vs = [.ref x, .ref i, .ref o, .int L, .ref a, .ref g, .bl n] ∧ H x = some (.ins C dx []) ∧ SeqV H i (ins.map V.str) ∧ SeqV H o (outs.map V.str) ∧ SeqV H a as ∧ SeqV H g gs ∧
  ins.length ≤ 100 ∧ outs.length ≤ 100 ∧ as.length ≤ 100 ∧ gs.length ≤ 100 ∧ (∀ s ∈ ins ++ outs, s.length ≤ 100) ∧ (¬ GoodS ins outs L → ∀ H', Same H H' → E (.ref cS) none H') ∧ (GoodS ins outs L → ∀ H', Kp x H H' → SpcAt C H' x ins outs L as gs n → Q .non H')
/-- tuple(x) of a list or a tuple -/
theorem tupq {H : Hp} {a : Addr} {xs : List V} {Q : VK} (h : SeqV H a xs) (q : ∀ H' t, Same H H' → H' t = some (.tup xs) → Q (.ref t) H') : rTupOf K [.ref a] H Q := by
  rcases h with h | h
  · exact ⟨a, xs, rfl, .inl ⟨.of h, fun l hl => q _ l (same_new hl) upd_same⟩⟩
  · exact ⟨a, xs, rfl, .inr ⟨.of h, q H a (Same.refl H) h⟩⟩
theorem ok_init {C cS fI : Addr} {fdI : FuncData} {tk3 tk4 tk5 : Tok} (T : Txt K mg) (eS : ErrC K mg "InvalidSpec" cS) (PC : Spx.SpcC K C) (gLL : mg "LEAST_LEAD" = some (.int (-3) tk3)) (gGL : mg "GREATEST_LEAD" = some (.int 2 tk4)) (gMN : mg "MOST_NAMES" = some (.int 3 tk5))
    (F : FunD K "__init__" "Spec.__init__" (defArgs s_Spec_init) (defBody s_Spec_init) (defScope s_Spec_init) [] [("negated", .bl false)] fI fdI) :
    FnOk P w K mg base (L2.CX P w) 4 fI fdI ["self", "inputs", "outputs", "lead", "assumptions", "guarantees", "negated"] (spInit C cS) := by
  have C_is_name : C8.Cal P w K mg base 2 "is_name" spNm [] := cal_nm T
  refine F.ok sc_Spec_init (fun vs H Q E h => ?_) (fun cdv A outer s H vs Q E hr h => ?_)
  · obtain ⟨x, dx, i, o, a, g, ins, outs, L, as, gs, n, rfl, _⟩ := h
    rfl
  · obtain ⟨x, dx, i, o, a, g, ins, outs, L, as, gs, n, rfl, hx, hi, ho, ha, hg, l1, l2, l3, l4, l5, q1, q2⟩ := h
    refine ⟨_, (pss_cons
      (ps_set (i := 7) sc_Spec_init.nd rfl (Or.inl rfl) (pe_op op_cat (pe_callTy (call_list_ofK (K := K) rfl) (by rfl) T.z_list (by decide +kernel) (pa_cons (pv 1) pa_nil)) (pe_callTy (call_list_ofK (K := K) rfl) (by rfl) T.z_list (by decide +kernel) (pa_cons (pv 2) pa_nil))))
      (pss_cons
      (ps_if (pt_not (pt_val (pe_callB (Spx.cr_allK (K := K) rfl rfl) (by rfl) T.z_all (by decide +kernel) (pa_cons (pe_lc (own := [("name", 8)]) (g := gName 8) (tt := tYes) rfl sc_Spec_init.nd (pi_list (pv 7)) (blkOk_by (N := N_Spec_init) (sc := defScope s_Spec_init) (by decide +kernel)) (fun _ _ _ _ _ => (pg_name (i := 8) sc_Spec_init.nd rfl (Or.inl rfl))) (fun _ _ _ _ _ => pts_nil) (fun _ _ _ _ _ => (C8.pe_c C_is_name hr (by decide) (by rfl) (pa_cons (pv 8) pa_nil)))) pa_nil)))) (pss_one
      (ps_raise rfl (takes_of rfl rfl rfl rfl) (eS.made rfl))) pss_nil)
      (pss_cons
      (ps_if (pt_cmpR op_lt (pe_callB (Spx.call_lenTx (P := P) (w := w) rfl rfl) (by rfl) T.z_len PySem.boot_len (pa_cons (pe_callTy (Sxt.cr_setTx (K := K) (P := P) (w := w) rfl rfl rfl rfl) (by rfl) T.z_set (by decide +kernel) (pa_cons (pv 7) pa_nil)) pa_nil)) (pe_callB (call_lenK (K := K) rfl) (by rfl) T.z_len PySem.boot_len (pa_cons (pv 7) pa_nil)) (nomark _)) (pss_one
      (ps_raise rfl (takes_of rfl rfl rfl rfl) (eS.made rfl))) pss_nil)
      (pss_cons
      (ps_if (PW.pt (pw_or (pt_cmpR op_gt (pe_callB (call_lenK (K := K) rfl) (by rfl) T.z_len PySem.boot_len (pa_cons (pv 1) pa_nil)) (pe_glob (v := .int 3) (by rfl) gMN ⟨_, rfl⟩) (nomark _)) (pw_or1 (pt_cmpR op_gt (pe_callB (call_lenK (K := K) rfl) (by rfl) T.z_len PySem.boot_len (pa_cons (pv 2) pa_nil)) (pe_glob (v := .int 3) (by rfl) gMN ⟨_, rfl⟩) (nomark _))))) (pss_one
      (ps_raise rfl (takes_of rfl rfl rfl rfl) (eS.made rfl))) pss_nil)
      (pss_cons
      (ps_if (PW.pt (pw_or (pt_cmpR op_lt (pv 3) (pe_glob (v := .int (-3)) (by rfl) gLL ⟨_, rfl⟩) (nomark _)) (pw_or1 (pt_cmpR op_gt (pv 3) (pe_glob (v := .int 2) (by rfl) gGL ⟨_, rfl⟩) (nomark _))))) (pss_one
      (ps_raise rfl (takes_of rfl rfl rfl rfl) (eS.made rfl))) pss_nil)
      (pss_cons
      (ps_fld (pv 0) (pe_callTy (call_tuple_ofK (K := K) rfl) (by rfl) T.z_tuple (by decide +kernel) (pa_cons (pv 1) pa_nil)) rfl)
      (pss_cons
      (ps_fld (pv 0) (pe_callTy (call_tuple_ofK (K := K) rfl) (by rfl) T.z_tuple (by decide +kernel) (pa_cons (pv 2) pa_nil)) rfl)
      (pss_cons
      (ps_fld (pv 0) (pv 3) rfl)
      (pss_cons
      (ps_fld (pv 0) (pe_callTy (call_tuple_ofK (K := K) rfl) (by rfl) T.z_tuple (by decide +kernel) (pa_cons (pv 4) pa_nil)) rfl)
      (pss_cons
      (ps_fld (pv 0) (pe_callTy (call_tuple_ofK (K := K) rfl) (by rfl) T.z_tuple (by decide +kernel) (pa_cons (pv 5) pa_nil)) rfl)
      (pss_one
      (ps_fld (pv 0) (pv 6) rfl)))))))))))), ?_⟩
    refine ⟨_, rfl, i, _, rfl, hi.sq, fun D1 hD1 => ?_⟩
    have s1 := same_new (o := .lst (ins.map V.str)) hD1
    have e1 := upd_same (H := H) (a := D1) (o := .lst (ins.map V.str))
    generalize upd H D1 (.lst (ins.map V.str)) = H1 at s1 e1 ⊢
    refine ⟨_, rfl, o, _, rfl, (ho.same s1).sq, fun D2 hD2 => ?_⟩
    have s2 := same_new (o := .lst (outs.map V.str)) hD2
    have e2 := upd_same (H := H1) (a := D2) (o := .lst (outs.map V.str))
    have e1' := s2 _ _ e1
    generalize upd H1 D2 (.lst (outs.map V.str)) = H2 at s2 e2 e1' ⊢
    refine ⟨D1, D2, _, _, rfl, rfl, e1', e2, by rw [List.length_map, List.length_map]; exact Nat.le_trans (show ins.length + outs.length ≤ 200 by omega) (by decide), fun p hp => ?_⟩
    have s3 := same_new (o := .lst (ins.map V.str ++ outs.map V.str)) hp
    have e3 : (upd H2 p (.lst (ins.map V.str ++ outs.map V.str))) p = some (.lst ((ins ++ outs).map V.str)) := by rw [upd_same, List.map_append]
    generalize upd H2 p (.lst (ins.map V.str ++ outs.map V.str)) = H3 at s3 e3 ⊢
    have s03 := (s1.trans s2).trans s3
    clear e1 e2 e1' s1 s2 s3
    have hl : (ins ++ outs).length ≤ 200 := by rw [List.length_append]; omega
    generalize hns : ins ++ outs = ns at e3 l5 hl ⊢
    -- all names are names
    refine ⟨_, rfl, p, rfl, ⟨_, .of e3⟩, fun D hD => lc_list (K := K) (a := p) (xs := ns.map V.str) (fun j H4 => Same H3 H4 ∧ H4 D = some (.lst (((ns.take j).map nameOk).map V.bl))) ⟨same_new hD, upd_same⟩ (fun j H4 _ ⟨z, _⟩ => .of (z _ _ e3)) ?_ ?_⟩
    · rintro j y H4 hj ⟨s4, e4⟩
      obtain ⟨z, hzj, rfl⟩ : ∃ z, ns[j]? = some z ∧ y = V.str z := by
        rw [List.getElem?_map] at hj
        cases e : ns[j]? with
        | none => rw [e] at hj; cases hj
        | some t => rw [e] at hj; exact ⟨t, rfl, (Option.some.inj hj).symm⟩
      have et : ns.take (j + 1) = ns.take j ++ [z] := by rw [List.take_add_one, hzj]; rfl
      have hjl := (List.getElem?_eq_some_iff.mp hzj).1
      refine ⟨rfl, _, rfl, z, rfl, Nat.le_trans (l5 z (List.mem_of_getElem? hzj)) (by decide), _, e4, by rw [List.length_map, List.length_map, List.length_take]; exact Nat.lt_of_le_of_lt (show min j ns.length ≤ 200 by omega) (by decide), fun c u hc => ?_, ?_⟩
      · rw [upd_ne (ne_of_none hc hD)]
        exact s4 _ _ hc
      · rw [upd_same, et, List.map_append, List.map_append]
        rfl
    rintro H4 ⟨s4, e4⟩
    rw [List.length_map, List.take_length] at e4
    have s04 := s03.trans s4
    refine ⟨D, ns.map nameOk, rfl, .of e4, _, rfl, ?_⟩
    cases hall : (ns.map nameOk).all id with
    | false =>
      refine iteT (q1 (fun v => ?_) H4 s04)
      have : (ns.map nameOk).all id = true := List.all_eq_true.mpr fun b hb => by
        obtain ⟨s, hs, rfl⟩ := List.mem_map.mp hb
        exact v.nm s (by rw [hns]; exact hs)
      rw [this] at hall
      cases hall
    | true =>
      refine iteF ?_
      have hnm : ∀ s ∈ ns, nameOk s = true := fun s hs => List.all_eq_true.mp hall _ (List.mem_map.mpr ⟨s, hs, rfl⟩)
      -- the names differ
      have e34 := s4 _ _ e3
      refine ⟨_, rfl, p, ns, rfl, .of e34, Nat.lt_of_le_of_lt (show ns.length + 1 ≤ 201 by omega) (by decide), fun p2 us hp2 h1 h2 h3 => ⟨p2, us, rfl, upd_same, by omega, ?_⟩⟩
      have s5 : Same H4 (upd H4 p2 (Sxt.SetTxO P w p2 us)) := same_new hp2
      have e35 := s5 _ _ e34
      generalize upd H4 p2 (Sxt.SetTxO P w p2 us) = H5 at s5 e35 ⊢
      have s05 := s04.trans s5
      refine ⟨_, rfl, p, _, rfl, .inl (.of e35), _, _, rfl, rfl, _, rfl, ?_⟩
      rw [List.length_map]
      refine ite_lt (fun k => q1 (fun v => ?_) H5 s05) (fun k => ?_)
      · have := nodup_len (l := ns) (by rw [← hns]; exact v.nd) fun z hz => (h2 z).mpr hz
        omega
      have hnd : ns.Nodup := (Sxt.perm_of_sub us ns h3 (fun z hz => (h2 z).mp hz) (by omega)).nodup_iff.mpr h3
      -- at most three
      refine ⟨_, rfl, i, _, rfl, (hi.same s05).sq, _, _, rfl, rfl, _, rfl, ?_⟩
      rw [List.length_map]
      refine ite2 (fun k => q1 (fun v => by have := v.li; have := of_decide_eq_true k; omega) H5 s05) (fun k => ?_)
      have k1 : ¬ (3 : Int) < ins.length := fun y => k (decide_eq_true y)
      refine ⟨_, rfl, o, _, rfl, (ho.same s05).sq, _, _, rfl, rfl, _, rfl, ?_⟩
      rw [List.length_map]
      refine ite2 (fun k => q1 (fun v => by have := v.lo; have := of_decide_eq_true k; omega) H5 s05) (fun k => ?_)
      have k2 : ¬ (3 : Int) < outs.length := fun y => k (decide_eq_true y)
      refine ⟨_, rfl, _, _, rfl, rfl, _, rfl, ite2 (fun k => q1 (fun v => by have := v.l0; have := of_decide_eq_true k; omega) H5 s05) (fun k => ?_)⟩
      have k3 : ¬ L < -3 := fun y => k (decide_eq_true y)
      refine ⟨_, rfl, _, _, rfl, rfl, _, rfl, ite2 (fun k => q1 (fun v => by have := v.l1; have := of_decide_eq_true k; omega) H5 s05) (fun k => ?_)⟩
      have k4 : ¬ (2 : Int) < L := fun y => k (decide_eq_true y)
      have gd : GoodS ins outs L := ⟨by rw [hns]; exact hnm, by rw [hns]; exact hnd, by omega, by omega, by omega, by omega⟩
      have hx5 := s05 _ _ hx
      -- the parts
      refine ⟨_, rfl, ?_⟩
      dsimp only [tNil]
      refine tupq (hi.same s05) fun H6 i' s6 ei => ?_
      have hx6 := s6 _ _ hx5
      have s06 := s05.trans s6
      have nix : i' ≠ x := fun z => by rw [z, hx6] at ei; cases ei
      refine ⟨_, rfl, x, C, dx, _, rfl, hx6, PC.cl, PC.ni, by decide, ?_⟩
      have k7 : Kp x H6 (upd H6 x (.ins C dx (putF "inputs" (.ref i') []))) := Kp.own
      have hx7 := upd_same (H := H6) (a := x) (o := .ins C dx (putF "inputs" (.ref i') []))
      have sk : ∀ {z : Addr} {xs : List V} {H1 H2 : Hp}, H1 x ≠ some (.lst xs) → H1 x ≠ some (.tup xs) → Kp x H1 H2 → SeqV H1 z xs → SeqV H2 z xs := fun {z xs H1 H2} n1 n2 k h => by
        have nz : z ≠ x := fun e => by
          rcases h with h | h
          · exact n1 (by rw [← e]; exact h)
          · exact n2 (by rw [← e]; exact h)
        exact h.imp (k _ _ nz) (k _ _ nz)
      have ho7 := sk (by rw [hx6]; exact fun z => by cases z) (by rw [hx6]; exact fun z => by cases z) k7 (ho.same s06)
      have ha7 := sk (by rw [hx6]; exact fun z => by cases z) (by rw [hx6]; exact fun z => by cases z) k7 (ha.same s06)
      have hg7 := sk (by rw [hx6]; exact fun z => by cases z) (by rw [hx6]; exact fun z => by cases z) k7 (hg.same s06)
      have ei7 := k7 _ _ nix ei
      have k07 : Kp x H (upd H6 x (.ins C dx (putF "inputs" (.ref i') []))) := fun b u nb hb => k7 _ _ nb (s06 _ _ hb)
      generalize upd H6 x (.ins C dx (putF "inputs" (.ref i') [])) = H7 at k7 hx7 ho7 ha7 hg7 ei7 k07 ⊢
      refine ⟨_, rfl, ?_⟩
      dsimp only [tNil]
      refine tupq ho7 fun H8 o' s8 eo => ?_
      have hx8 := s8 _ _ hx7
      have nox : o' ≠ x := fun z => by rw [z, hx8] at eo; cases eo
      refine ⟨_, rfl, x, C, dx, _, rfl, hx8, PC.cl, PC.no, (show 1 < 1000 by decide), ?_⟩
      refine ⟨_, rfl, _, rfl, x, C, dx, _, rfl, upd_same, PC.cl, PC.nl, (show 2 < 1000 by decide), ?_⟩
      rw [upd_upd]
      have k9 : Kp x H8 (upd H8 x (.ins C dx (putF "lead" (.int L) (putF "outputs" (.ref o') (putF "inputs" (.ref i') []))))) := Kp.own
      have hx9 := upd_same (H := H8) (a := x) (o := .ins C dx (putF "lead" (.int L) (putF "outputs" (.ref o') (putF "inputs" (.ref i') []))))
      have ha9 := sk (by rw [hx8]; exact fun z => by cases z) (by rw [hx8]; exact fun z => by cases z) k9 (ha7.same s8)
      have hg9 := sk (by rw [hx8]; exact fun z => by cases z) (by rw [hx8]; exact fun z => by cases z) k9 (hg7.same s8)
      have ei9 := k9 _ _ nix (s8 _ _ ei7)
      have eo9 := k9 _ _ nox eo
      have k09 : Kp x H (upd H8 x (.ins C dx (putF "lead" (.int L) (putF "outputs" (.ref o') (putF "inputs" (.ref i') []))))) := fun b u nb hb => k9 _ _ nb (s8 _ _ (k07 _ _ nb hb))
      generalize upd H8 x (.ins C dx (putF "lead" (.int L) (putF "outputs" (.ref o') (putF "inputs" (.ref i') [])))) = H9 at k9 hx9 ha9 hg9 ei9 eo9 k09 ⊢
      refine ⟨_, rfl, ?_⟩
      dsimp only [tNil]
      refine tupq ha9 fun HA a' sA ea => ?_
      have hxA := sA _ _ hx9
      have nax : a' ≠ x := fun z => by rw [z, hxA] at ea; cases ea
      refine ⟨_, rfl, x, C, dx, _, rfl, hxA, PC.cl, PC.na, (show 3 < 1000 by decide), ?_⟩
      have kB : Kp x HA (upd HA x (.ins C dx (putF "assumptions" (.ref a') (putF "lead" (.int L) (putF "outputs" (.ref o') (putF "inputs" (.ref i') [])))))) := Kp.own
      have hxB := upd_same (H := HA) (a := x) (o := .ins C dx (putF "assumptions" (.ref a') (putF "lead" (.int L) (putF "outputs" (.ref o') (putF "inputs" (.ref i') [])))))
      have hgB := sk (by rw [hxA]; exact fun z => by cases z) (by rw [hxA]; exact fun z => by cases z) kB (hg9.same sA)
      have eiB := kB _ _ nix (sA _ _ ei9)
      have eoB := kB _ _ nox (sA _ _ eo9)
      have eaB := kB _ _ nax ea
      have k0B : Kp x H (upd HA x (.ins C dx (putF "assumptions" (.ref a') (putF "lead" (.int L) (putF "outputs" (.ref o') (putF "inputs" (.ref i') [])))))) := fun b u nb hb => kB _ _ nb (sA _ _ (k09 _ _ nb hb))
      generalize upd HA x (.ins C dx (putF "assumptions" (.ref a') (putF "lead" (.int L) (putF "outputs" (.ref o') (putF "inputs" (.ref i') []))))) = HB at kB hxB hgB eiB eoB eaB k0B ⊢
      refine ⟨_, rfl, ?_⟩
      dsimp only [tNil]
      refine tupq hgB fun HC g' sC eg => ?_
      have hxC := sC _ _ hxB
      have ngx : g' ≠ x := fun z => by rw [z, hxC] at eg; cases eg
      refine ⟨_, rfl, x, C, dx, _, rfl, hxC, PC.cl, PC.ng, (show 4 < 1000 by decide), ?_⟩
      refine ⟨_, rfl, _, rfl, x, C, dx, _, rfl, upd_same, PC.cl, PC.nn, (show 5 < 1000 by decide), ?_⟩
      rw [upd_upd]
      have kD : Kp x HC (upd HC x (.ins C dx (Spx.sf i' o' L a' g' n))) := Kp.own
      exact q2 gd _ (fun b u nb hb => kD _ _ nb (sC _ _ (k0B _ _ nb hb))) ⟨dx, i', o', a', g', upd_same, kD _ _ nix (sC _ _ eiB), kD _ _ nox (sC _ _ eoB), kD _ _ nax (sC _ _ eaB), kD _ _ ngx eg⟩
def spSgn (C : Addr) : Sp := fun vs H Q _ => ∃ (x : Addr) (ins outs : List Str) (L : Int) (as gs : List V) (n : Bool), vs = [.ref x] ∧ SpcAt C H x ins outs L as gs n ∧ ins.length ≤ 3 ∧ outs.length ≤ 3 ∧ ∀ (H' : Hp) (p : Addr), Same H H' → H' p = some (.tup ((ins ++ outs).map V.str)) → Q (.ref p) H'
theorem ok_sgn {C gS : Addr} {fdS : FuncData} (T : Txt K mg) (PC : Spx.SpcC K C) (F : L2.Fun K "signals" "Spec.signals" s_Spec_signals gS fdS) : FnOk P w K mg base CX0 1 gS fdS ["self"] (spSgn C) := by
  refine F.ok sc_Spec_signals (fun vs H Q E h => ?_) (fun cdv A outer s H vs Q E hr h => ?_)
  · obtain ⟨x, ins, outs, L, as, gs, n, rfl, _⟩ := h
    rfl
  · obtain ⟨x, ins, outs, L, as, gs, n, rfl, ⟨dx, i, o, a, g, h1, h2, h3, h4, h5⟩, l1, l2, q⟩ := h
    refine ⟨_, (pss_one
      (ps_ret (pe_op (op_catK (K := K) rfl) (pe_fld (pv 0) rfl) (pe_fld (pv 0) rfl)))), ?_⟩
    refine ⟨_, rfl, x, C, dx, _, _, rfl, h1, PC.cl, PC.ni, Spx.sl_i _ _ _ _ _ _, ?_⟩
    refine ⟨_, rfl, x, C, dx, _, _, rfl, h1, PC.cl, PC.no, Spx.sl_o _ _ _ _ _ _, ?_⟩
    refine ⟨i, o, _, _, rfl, rfl, .of h2, .of h3, by rw [List.length_map, List.length_map]; exact Nat.le_trans (show ins.length + outs.length ≤ 6 by omega) (by decide), fun z => ?_, fun _ z => ?_, fun _ _ p hp => ?_⟩
    · have e : ins = [] := List.map_eq_nil_iff.mp z
      subst e
      exact q H o (Same.refl H) h3
    · have e : outs = [] := List.map_eq_nil_iff.mp z
      subst e
      exact q H i (Same.refl H) (by rw [List.append_nil]; exact h2)
    · exact q _ p (same_new hp) (by rw [upd_same, List.map_append])
/-- what is known of the class Spec -/
structure Sk (P : Program) (w : World) (K : PySem.W.Frag) (mg : Str → Option Value) (base : Heap) (C cS pS gS : Addr) (fdS : FuncData) : Prop where
  eS : ErrC K mg "InvalidSpec" cS
  PC : Spx.SpcC K C
  MS : Spx.MakH P w K mg base 4 "Spec" C 5 "negated" (.bl false) (spInit C cS)
  PS : PropOf K C "signals" pS gS
  FS : FnOk P w K mg base CX0 1 gS fdS ["self"] (spSgn C)
  bS : Binds K fdS ["self"] []
  gSP : mg "Spec" = some (.ref C)
  hIC : C8.InsC K C
theorem sk (T : Txt K mg) : ∃ (C cS pS gS : Addr) (fdS : FuncData), Sk P w K mg base C cS pS gS fdS := by
  obtain ⟨aQ, aN, cS, C, fI, pS, gS, fdI, fdS, tk1, tk2, tk3, tk4, tk5, _, _, _, _, eS, PC, MC, gC, FI, PS, FS, bS, gLL, gGL, gMN, hIC⟩ := T.er
  refine ⟨C, cS, pS, gS, fdS, eS, PC, ⟨fI, fdI, ["self", "inputs", "outputs", "lead", "assumptions", "guarantees", "negated"], MC, ok_init T eS PC gLL gGL gMN FI, gC, ?_, ?_⟩, PS, ok_sgn T PC FS, bS, gC, hIC⟩
  · exact FI.binds0 6 (by intro z; cases z) rfl fun D doc pm an cdv ct us ks l1 l2 => match us, ks, l1, l2 with | [_, _, _, _, _, _], [_], _, _ => ⟨_, _, _, _, _, _, rfl, rfl, rfl⟩
  · exact FI.kbinds0 6 ["negated"] [] (fun us mv ws => us ++ mv ++ ws) (by intro z; cases z) (fun q hq => by cases hq) (fun r1 r2 r3 => (r1.append r2).append r3) fun D doc pm an cdv ct us mv ws l1 l2 l3 => match us, mv, ws, l1, l2, l3 with | [_, _, _, _, _, _], [], [_], _, _, _ => rfl
def spDual (C : Addr) : Sp := fun vs H Q _ => ∃ (x : Addr) (ins outs : List Str) (L : Int) (as gs : List V) (n : Bool), vs = [.ref x] ∧ SpcAt C H x ins outs L as gs n ∧ GoodS ins outs L ∧ as.length ≤ 100 ∧ gs.length ≤ 100 ∧ (∀ s ∈ ins ++ outs, s.length ≤ 100) ∧
  ∀ (H' : Hp) (y : Addr), Same H H' → SpcAt C H' y outs ins (-1 - L) as gs (!n) → Q (.ref y) H'
theorem good_dual {ins outs : List Str} {L : Int} (h : GoodS ins outs L) : GoodS outs ins (-1 - L) :=
  ⟨fun s hs => h.nm s (by rw [List.mem_append] at hs ⊢; exact hs.symm), List.perm_append_comm.nodup_iff.mp h.nd, h.lo, h.li, by have := h.l1; omega, by have := h.l0; omega⟩
theorem cal_dual {C cS pS gS : Addr} {fdS : FuncData} (T : Txt K mg) (S : Sk P w K mg base C cS pS gS fdS) : C8.Cal P w K mg base 6 "dual" (spDual C) [] := by
  obtain ⟨eS, PC, MS, PS, FS, bS, gSP, hIC⟩ := S
  obtain ⟨f, fd, F, hm, hb⟩ := T.h_dual
  refine ⟨f, fd, _, [], F.ok sc_dual (fun vs H Q E h => ?_) (fun cdv A outer s H vs Q E hr h => ?_), hm, F.kp, hb, .nil⟩
  · obtain ⟨x, ins, outs, L, as, gs, n, rfl, _⟩ := h
    rfl
  · obtain ⟨x, ins, outs, L, as, gs, n, rfl, ⟨dx, i, o, a, g, h1, h2, h3, h4, h5⟩, gd, l3, l4, l5, q⟩ := h
    refine ⟨_, (pss_one
      (ps_ret (Spx.pe_mkK MS hr (by decide) Spx.hxN (by rfl) (pa_cons (pe_fld (pv 0) rfl) (pa_cons (pe_fld (pv 0) rfl) (pa_cons (pe_op op_sub (pe_un un_neg pe_int) (pe_fld (pv 0) rfl)) (pa_cons (pe_fld (pv 0) rfl) (pa_cons (pe_fld (pv 0) rfl) pa_nil))))) (pk_cons (pe_not (pe_fld (pv 0) rfl)) pk_nil)))), ?_⟩
    refine ⟨_, rfl, x, C, dx, _, _, rfl, h1, PC.cl, PC.no, Spx.sl_o _ _ _ _ _ _, ?_⟩
    refine ⟨_, rfl, x, C, dx, _, _, rfl, h1, PC.cl, PC.ni, Spx.sl_i _ _ _ _ _ _, ?_⟩
    refine ⟨_, rfl, _, rfl, x, C, dx, _, _, rfl, h1, PC.cl, PC.nl, Spx.sl_l _ _ _ _ _ _, _, _, rfl, rfl, ?_⟩
    refine ⟨_, rfl, x, C, dx, _, _, rfl, h1, PC.cl, PC.na, Spx.sl_a _ _ _ _ _ _, ?_⟩
    refine ⟨_, rfl, x, C, dx, _, _, rfl, h1, PC.cl, PC.ng, Spx.sl_g _ _ _ _ _ _, ?_⟩
    refine ⟨_, rfl, x, C, dx, _, _, rfl, h1, PC.cl, PC.nn, Spx.sl_n _ _ _ _ _ _, _, rfl, rfl, rfl, fun y dy hy hdy hne => ?_⟩
    have s0 : Same H (upd (upd H dy (.own y)) y (.ins C dy [])) := fun b u hb => by
      rw [upd_ne (ne_of_none hb hy), upd_ne (ne_of_none hb hdy)]
      exact hb
    refine ⟨y, dy, o, i, a, g, outs, ins, -1 - L, as, gs, !n, rfl, upd_same, .inr (s0 _ _ h3), .inr (s0 _ _ h2), .inr (s0 _ _ h4), .inr (s0 _ _ h5), by have := gd.lo; omega, by have := gd.li; omega, l3, l4, fun s hs => l5 s (by rw [List.mem_append] at hs ⊢; exact hs.symm), fun ng => (ng (good_dual gd)).elim, fun _ H' k' A' => ⟨rfl, q H' y (fun b u hb => ?_) A'⟩⟩
    exact k' _ _ (ne_of_none hb hy) (s0 _ _ hb)
def spOut (C : Addr) : Sp := fun vs H Q _ => ∃ (i o a g : Addr) (ins outs : List Str) (L : Int) (as gs : List V) (n sh : Bool), vs = [.ref i, .ref o, .int L, .ref a, .ref g, .bl n, .bl sh] ∧ SeqV H i (ins.map V.str) ∧ SeqV H o (outs.map V.str) ∧ SeqV H a as ∧ SeqV H g gs ∧
  ins.length ≤ 100 ∧ outs.length ≤ 100 ∧ as.length ≤ 100 ∧ gs.length ≤ 100 ∧ (∀ s ∈ ins ++ outs, s.length ≤ 100) ∧ (¬ GoodS ins outs L → ∀ H', Same H H' → Q .non H') ∧ (GoodS ins outs L → ∀ (H' : Hp) (x : Addr), Same H H' → SpcAt C H' x ins outs L as gs n → Q (.ref x) H')
theorem cal_out {C cS pS gS : Addr} {fdS : FuncData} (T : Txt K mg) (S : Sk P w K mg base C cS pS gS fdS) : C8.Cal P w K mg base 6 "_law_outcome" (spOut C) [] := by
  obtain ⟨eS, PC, MS, PS, FS, bS, gSP, hIC⟩ := S
  obtain ⟨f, fd, F, hm, hb⟩ := T.h_law_outcome
  refine ⟨f, fd, _, [], F.ok sc_law_outcome (fun vs H Q E h => ?_) (fun cdv A outer s H vs Q E hr h => ?_), hm, F.kp, hb, .nil⟩
  · obtain ⟨i, o, a, g, ins, outs, L, as, gs, n, sh, rfl, _⟩ := h
    rfl
  · obtain ⟨i, o, a, g, ins, outs, L, as, gs, n, sh, rfl, hi, ho, ha, hg, l1, l2, l3, l4, l5, q1, q2⟩ := h
    refine ⟨_, (pss_one
      (ps_try_only rfl rfl ⟨rfl, by decide, .inl eS.g⟩ takes0 (fun W pn xe tk _ => (C8.pss_cut
      (ps_if (PW.pt (pw_and (pt_val (pv 6)) (pw_and1 (pt_not (pt_val (pv 5)))))) (pss_one
      (ps_ret (Spx.pe_mkD MS hr (by decide) (Spx.hxX tk) (by rfl) (pa_cons (pv 0) (pa_cons (pv 1) (pa_cons (pv 2) (pa_cons (pv 3) (pa_cons (pv 4) pa_nil)))))))) pss_nil)
      (pss_one
      (ps_ret (Spx.pe_mkK MS hr (by decide) (Spx.hxX tk) (by rfl) (pa_cons (pv 0) (pa_cons (pv 1) (pa_cons (pv 2) (pa_cons (pv 3) (pa_cons (pv 4) pa_nil))))) (pk_cons (pv 5) pk_nil)))))) (fun a oe cls d pn hz hf => (pss_one
      (ps_ret pe_non))))), ?_⟩
    have mk : ∀ (y dy : Addr) (Q' : VK) (E' : XK), H y = none → H dy = none → dy ≠ y → (¬ GoodS ins outs L → ∀ H', Same H H' → E' (.ref cS) none H') → (GoodS ins outs L → ∀ H', Same H H' → SpcAt C H' y ins outs L as gs n → Q' .non H') →
        spInit C cS [.ref y, .ref i, .ref o, .int L, .ref a, .ref g, .bl n] (upd (upd H dy (.own y)) y (.ins C dy [])) Q' E' := fun y dy Q' E' hy hdy hne e1 e2 => by
      have s0 : Same H (upd (upd H dy (.own y)) y (.ins C dy [])) := fun b u hb => by
        rw [upd_ne (ne_of_none hb hy), upd_ne (ne_of_none hb hdy)]
        exact hb
      refine ⟨y, dy, i, o, a, g, ins, outs, L, as, gs, n, rfl, upd_same, hi.same s0, ho.same s0, ha.same s0, hg.same s0, l1, l2, l3, l4, l5, fun ng H' s' => e1 ng H' (s0.trans s'), fun gd H' k' A' => e2 gd H' (fun b u hb => ?_) A'⟩
      exact k' _ _ (ne_of_none hb hy) (s0 _ _ hb)
    refine ⟨fun σ H' => σ = [some (.ref i), some (.ref o), some (.int L), some (.ref a), some (.ref g), some (.bl n), some (.bl sh)] ∧ H' = H, ?_, ?_⟩
    · refine ⟨_, rfl, _, rfl, ?_⟩
      cases sh with
      | false => exact iteF (iteF ⟨rfl, rfl⟩)
      | true =>
        refine iteT ⟨_, rfl, _, rfl, ?_⟩
        cases n with
        | true => exact iteF ⟨rfl, rfl⟩
        | false =>
          refine iteT ⟨_, rfl, _, rfl, _, rfl, _, rfl, _, rfl, rfl, fun y dy hy hdy hne => ?_⟩
          exact mk y dy _ _ hy hdy hne (fun ng H' s' => ⟨true, eS.me, fun _ a ha => q1 ng H' s', fun z => by (cases z)⟩) (fun gd H' s' A => ⟨rfl, q2 gd H' y s' A⟩)
    · rintro σ H' ⟨rfl, rfl⟩
      refine ⟨_, rfl, _, rfl, _, rfl, _, rfl, _, rfl, _, rfl, rfl, rfl, fun y dy hy hdy hne => ?_⟩
      exact mk y dy _ _ hy hdy hne (fun ng H' s' => ⟨true, eS.me, fun _ a ha => q1 ng H' s', fun z => by (cases z)⟩) (fun gd H' s' A => ⟨rfl, q2 gd H' y s' A⟩)
theorem sz1 : 1 ≤ sizeLine := by decide
theorem sz2 : 2 ≤ sizeLine := by decide
theorem sz3 : 3 ≤ sizeLine := by decide
/-! the formula as data -/
def dF : Fm → PyData
  | .c0 k => .tuple [.str k]
  | .sg s => .tuple [.str sSig, .str s]
  | .un k f => .tuple [.str k, dF f]
  | .bin k f g => .tuple [.str k, dF f, dF g]
theorem dp_fm {K : PySem.W.Frag} {H : Hp} : ∀ {f : Fm} {v : V}, FmAt K H v f → Dp K H v (dF f)
  | .c0 k, _, ⟨a, rfl, h⟩ => .tup h (.cons (.str _) .nil)
  | .sg s, _, ⟨a, rfl, h⟩ => .tup h (.cons (.str _) (.cons (.str _) .nil))
  | .un k f, _, ⟨a, x, rfl, h, hx⟩ => .tup h (.cons (.str _) (.cons (dp_fm hx) .nil))
  | .bin k f g, _, ⟨a, x, y, rfl, h, hx, hy⟩ => .tup h (.cons (.str _) (.cons (dp_fm hx) (.cons (dp_fm hy) .nil)))
theorem ok_un : ∀ k ∈ unOps, PyData.strOk k = true := by decide +kernel
theorem ok_bin : ∀ k ∈ binOps, PyData.strOk k = true := by decide +kernel
theorem lay_fm {nm : List Str} (hok : ∀ s ∈ nm, PyData.strOk s = true) : ∀ {f : Fm}, Wo nm f → PyData.canLay0 (dF f) = true
  | .c0 k, h => by
    have e : PyData.strOk k = true := by
      rcases h with rfl | rfl
      · decide +kernel
      · decide +kernel
    simp [dF, PyData.canLay0, PyData.canLayAll0, e]
  | .sg s, h => by
    have e : PyData.strOk sSig = true := by decide +kernel
    simp [dF, PyData.canLay0, PyData.canLayAll0, e, hok s h]
  | .un k f, h => by simp [dF, PyData.canLay0, PyData.canLayAll0, ok_un k h.1, lay_fm hok h.2]
  | .bin k f g, h => by simp [dF, PyData.canLay0, PyData.canLayAll0, ok_bin k h.1, lay_fm hok h.2.1, lay_fm hok h.2.2]
theorem dep_fm : ∀ f : Fm, PyData.depth (dF f) ≤ dpt f + 1
  | .c0 k => by simp [dF, PyData.depth, PyData.depthAll, dpt]
  | .sg s => by simp [dF, PyData.depth, PyData.depthAll, dpt]
  | .un k f => by
    have := dep_fm f
    simp [dF, PyData.depth, PyData.depthAll, dpt]
    omega
  | .bin k f g => by
    have := dep_fm f
    have := dep_fm g
    simp [dF, PyData.depth, PyData.depthAll, dpt]
    omega
theorem shaped_fm {nm : List Str} (hok : ∀ s ∈ nm, PyData.strOk s = true) {f : Fm} (h : Wo nm f) (hd : dpt f ≤ 60) : SeqAt.shaped (dF f) = true := by
  unfold SeqAt.shaped
  have := dep_fm f
  rw [lay_fm hok h, decide_eq_true (show PyData.depth (dF f) ≤ 64 by omega)]
  rfl
/-! properties -/
inductive Pr where
  | f (f : Fm)
  | q (k : Str) (hs : List Str) (f : Fm)
def PvAt (K : PySem.W.Frag) (H : Hp) : V → Pr → Prop
  | v, .f f => FmAt K H v f
  | v, .q k hs f => ∃ a b u, v = .ref a ∧ SqT K H a [.str k, .ref b, u] ∧ SqT K H b (hs.map V.str) ∧ FmAt K H u f
theorem PvAt.same {K : PySem.W.Frag} {H H' : Hp} (e : Same H H') : ∀ {v : V} {p : Pr}, PvAt K H v p → PvAt K H' v p
  | _, .f _, h => FmAt.same e h
  | _, .q _ _ _, ⟨a, b, u, h1, h2, h3, h4⟩ => ⟨a, b, u, h1, sqt_same e h2, sqt_same e h3, h4.same e⟩
theorem PvAt.kp {K : PySem.W.Frag} {H H' : Hp} {d : Addr} {ys : List V} (hd : H d = some (.lst ys)) (e : Kp d H H') : ∀ {v : V} {p : Pr}, PvAt K H v p → PvAt K H' v p
  | _, .f _, h => FmAt.kp hd e h
  | _, .q _ _ _, ⟨a, b, u, h1, h2, h3, h4⟩ => ⟨a, b, u, h1, sqt_kp hd e h2, sqt_kp hd e h3, h4.kp hd e⟩
def PvsAt (K : PySem.W.Frag) (H : Hp) : List V → List Pr → Prop
  | [], [] => True
  | v :: vs, p :: ps => PvAt K H v p ∧ PvsAt K H vs ps
  | _, _ => False
theorem PvsAt.same {K : PySem.W.Frag} {H H' : Hp} (e : Same H H') : ∀ {vs : List V} {ps : List Pr}, PvsAt K H vs ps → PvsAt K H' vs ps
  | [], [], _ => trivial
  | _ :: _, _ :: _, h => ⟨h.1.same e, h.2.same e⟩
theorem PvsAt.kp {K : PySem.W.Frag} {H H' : Hp} {d : Addr} {ys : List V} (hd : H d = some (.lst ys)) (e : Kp d H H') : ∀ {vs : List V} {ps : List Pr}, PvsAt K H vs ps → PvsAt K H' vs ps
  | [], [], _ => trivial
  | _ :: _, _ :: _, h => ⟨h.1.kp hd e, h.2.kp hd e⟩
theorem PvsAt.len {K : PySem.W.Frag} {H : Hp} : ∀ {vs : List V} {ps : List Pr}, PvsAt K H vs ps → vs.length = ps.length
  | [], [], _ => rfl
  | _ :: _, _ :: _, h => congrArg (· + 1) h.2.len
theorem PvsAt.snoc {K : PySem.W.Frag} {H : Hp} {v : V} {p : Pr} (k : PvAt K H v p) : ∀ {vs : List V} {ps : List Pr}, PvsAt K H vs ps → PvsAt K H (vs ++ [v]) (ps ++ [p])
  | [], [], _ => ⟨k, trivial⟩
  | _ :: _, _ :: _, h => ⟨h.1, h.2.snoc k⟩
def dP : Pr → PyData
  | .f f => dF f
  | .q k hs f => .tuple [.str k, .tuple (hs.map PyData.str), dF f]
theorem dp_strs {K : PySem.W.Frag} {H : Hp} : ∀ ss : List Str, DpAll K H (ss.map V.str) (ss.map PyData.str)
  | [] => .nil
  | s :: r => .cons (.str s) (dp_strs r)
theorem dp_pr {K : PySem.W.Frag} {H : Hp} : ∀ {v : V} {p : Pr}, PvAt K H v p → Dp K H v (dP p)
  | _, .f _, h => dp_fm h
  | _, .q k hs f, ⟨a, b, u, h1, h2, h3, h4⟩ => by
    rw [h1]
    exact .tup h2 (.cons (.str k) (.cons (.tup h3 (dp_strs hs)) (.cons (dp_fm h4) .nil)))
theorem dp_prs {K : PySem.W.Frag} {H : Hp} : ∀ {vs : List V} {ps : List Pr}, PvsAt K H vs ps → DpAll K H vs (ps.map dP)
  | [], [], _ => .nil
  | _ :: _, _ :: _, h => .cons (dp_pr h.1) (dp_prs h.2)
/-- it may be laid out and isn't deep -/
def Lay (ds : List PyData) : Prop := PyData.canLayAll0 ds = true ∧ PyData.depthAll ds ≤ 30
theorem Lay.nil : Lay [] := ⟨rfl, Nat.zero_le _⟩
theorem Lay.cons {d : PyData} {ds : List PyData} (h : PyData.canLay0 d = true) (h2 : PyData.depth d ≤ 30) (k : Lay ds) : Lay (d :: ds) := ⟨by simp [PyData.canLayAll0, h, k.1], by have := k.2; simp only [PyData.depthAll]; omega⟩
theorem lay_str : ∀ {ss : List Str}, (∀ s ∈ ss, PyData.strOk s = true) → PyData.canLayAll0 (ss.map PyData.str) = true ∧ PyData.depthAll (ss.map PyData.str) = 0
  | [], _ => ⟨rfl, rfl⟩
  | s :: r, h => by
    obtain ⟨a, b⟩ := lay_str (ss := r) fun t ht => h t (List.mem_cons_of_mem _ ht)
    exact ⟨by simp [PyData.canLayAll0, PyData.canLay0, h s List.mem_cons_self, a], by simp [PyData.depthAll, PyData.depth, b]⟩
theorem lay_strs {ss : List Str} (h : ∀ s ∈ ss, PyData.strOk s = true) : Lay (ss.map PyData.str) := ⟨(lay_str h).1, by rw [(lay_str h).2]; omega⟩
theorem lay_T {ds : List PyData} (h : Lay ds) : PyData.canLay0 (.tuple ds) = true ∧ SeqAt.shaped (.tuple ds) = true ∧ PyData.depth (.tuple ds) ≤ 31 := by
  have a : PyData.canLay0 (.tuple ds) = true := by rw [PyData.canLay0]; exact h.1
  have b : PyData.depth (.tuple ds) ≤ 31 := by have := h.2; rw [PyData.depth]; omega
  refine ⟨a, ?_, b⟩
  unfold SeqAt.shaped
  rw [a, decide_eq_true (show PyData.depth (.tuple ds) ≤ 64 by omega)]
  rfl
theorem lay_L {ds : List PyData} (h : Lay ds) : PyData.canLay0 (.list ds) = true ∧ PyData.depth (.list ds) ≤ 31 := by
  have b : PyData.depth (.list ds) ≤ 31 := by have := h.2; rw [PyData.depth]; omega
  exact ⟨by rw [PyData.canLay0]; exact h.1, b⟩
/-- a property that may be laid out -/
def PrL (p : Pr) : Prop := PyData.canLay0 (dP p) = true ∧ PyData.depth (dP p) ≤ 30
theorem lay_prs : ∀ {ps : List Pr}, (∀ p ∈ ps, PrL p) → Lay (ps.map dP)
  | [], _ => Lay.nil
  | p :: ps, h => Lay.cons (h p List.mem_cons_self).1 (h p List.mem_cons_self).2 (lay_prs fun t ht => h t (List.mem_cons_of_mem _ ht))
theorem prL_f {nm : List Str} (hok : ∀ s ∈ nm, PyData.strOk s = true) {f : Fm} (h : Wo nm f) (hd : dpt f ≤ 20) : PrL (.f f) := ⟨lay_fm hok h, by have := dep_fm f; show PyData.depth (dF f) ≤ 30; omega⟩
theorem prL_q {nm hs : List Str} {k : Str} (hok : ∀ s ∈ nm, PyData.strOk s = true) (hh : ∀ s ∈ hs, PyData.strOk s = true) (hk : PyData.strOk k = true) {f : Fm} (h : Wo nm f) (hd : dpt f ≤ 20) : PrL (.q k hs f) := by
  have a := lay_fm hok h
  have b := dep_fm f
  obtain ⟨c, d⟩ := lay_str hh
  refine ⟨?_, ?_⟩
  · simp [dP, PyData.canLay0, PyData.canLayAll0, hk, a, c]
  · simp only [dP, PyData.depth, PyData.depthAll, d]
    omega
def spPrp (K : PySem.W.Frag) : Sp := fun vs H Q _ => ∃ (d n : Addr) (nm : List Str), vs = [.ref d, .ref n, .int 2, .int 2, .int 3] ∧ Drw H d ∧ n ≠ d ∧ H n = some (.lst (nm.map V.str)) ∧ nm.length ≤ 20 ∧ (∀ s ∈ nm, PyData.strOk s = true) ∧
  ∀ (H' : Hp) (v : V) (p : Pr), Kp d H H' → Drw H' d → PvAt K H' v p → PrL p → Q v H'
theorem ok_h1 : ∀ s ∈ (["h1", "k2", "exists", "forall"] : List Str), PyData.strOk s = true := by decide +kernel
theorem hid_q {H : Hp} {a : Addr} {j : Int} {Q : VK} (h : SqT K H a [.str "h1", .str "k2"]) (hh : H a = some (.tup [.str "h1", .str "k2"])) (hj : j = 1 ∨ j = 2) (q : ∀ (H' : Hp) (b : Addr) (hs : List Str), Same H H' → (∀ d, Kp d H H') → (∀ d, Drw H d → Drw H' d) → H' b = some (.tup (hs.map V.str)) → (∀ s ∈ hs, s ∈ (["h1", "k2", "exists", "forall"] : List Str)) → hs.length ≤ 2 → Q (.ref b) H') : rSlA K (.ref a) none (some j) H Q := by
  rcases hj with rfl | rfl
  · refine ⟨a, _, rfl, h, fun z => absurd z.2 (by show ¬ HT.sIx 2 2 (some 1) = 2; decide), fun _ p hp => ?_⟩
    exact q _ p ["h1"] (same_new hp) (fun d => Kp.new hp) (fun d hd => hd.new hp) upd_same (by decide) (by decide)
  · refine ⟨a, _, rfl, h, fun _ => ?_, fun z => absurd ⟨(show HT.sIx 2 0 none = 0 by decide), (show HT.sIx 2 2 (some 2) = 2 by decide)⟩ z⟩
    exact q H a ["h1", "k2"] (Same.refl H) (fun d _ _ _ hb => hb) (fun d hd => hd) hh (by decide) (by decide)
theorem cal_prp (T : Txt K mg) : C8.Cal P w K mg base 6 "_law_property" (spPrp K) [] := by
  have C_law_take : C8.Cal P w K mg base 1 "_law_take" spTake [] := cal_take T
  have C_law_formula : C8.Cal P w K mg base 5 "_law_formula" (spForm K 3) [] := cal_form T 3
  obtain ⟨f, fd, F, hm, hb⟩ := T.h_law_property
  refine ⟨f, fd, _, [], F.ok sc_law_property (fun vs H Q E h => ?_) (fun cdv A outer s H vs Q E hr h => ?_), hm, F.kp, hb, .nil⟩
  · obtain ⟨d, n, nm, rfl, _⟩ := h
    rfl
  · obtain ⟨d, n, nm, rfl, hd, nd, hn, hl, hok, q⟩ := h
    refine ⟨_, (pss_cons
      (ps_if (pt_cmpR op_ge (C8.pe_c C_law_take hr (by decide) (by rfl) (pa_cons (pv 0) (pa_cons pe_int pa_nil))) (pv 4) (nomark _)) (pss_one
      (ps_ret (C8.pe_c C_law_formula hr (by decide) (by rfl) (pa_cons (pv 0) (pa_cons (pv 1) (pa_cons (pv 2) (pa_cons (pv 3) pa_nil))))))) pss_nil)
      (pss_cons
      (ps_set (i := 5) sc_law_property.nd rfl (Or.inl rfl) (pe_slice (sl_tupK (K := K) rfl) (pe_tup (pa_cons pe_str (pa_cons pe_str pa_nil))) po_none (po_some (pe_op op_add pe_int (pe_op op_fdiv (C8.pe_c C_law_take hr (by decide) (by rfl) (pa_cons (pv 0) (pa_cons pe_int pa_nil))) pe_int)))))
      (pss_cons
      (ps_set (i := 6) sc_law_property.nd rfl (Or.inl rfl) (C8.pe_c C_law_formula hr (by decide) (by rfl) (pa_cons (pv 0) (pa_cons (pe_op op_cat (pe_callTy (call_list_ofK (K := K) rfl) (by rfl) T.z_list (by decide +kernel) (pa_cons (pv 1) pa_nil)) (pe_callTy (call_list_ofK (K := K) rfl) (by rfl) T.z_list (by decide +kernel) (pa_cons (pv 5) pa_nil))) (pa_cons (pe_callB (call_min2 rfl) (by rfl) T.z_min (by decide +kernel) (pa_cons (pv 2) (pa_cons pe_int pa_nil))) (pa_cons (pv 3) pa_nil))))))
      (pss_one
      (ps_ret (pe_tup (pa_cons (pe_ix (ix_listK (K := K) rfl) (pe_lst (pa_cons pe_str (pa_cons pe_str pa_nil))) (C8.pe_c C_law_take hr (by decide) (by rfl) (pa_cons (pv 0) (pa_cons pe_int pa_nil))) (fun _ _ => rfl)) (pa_cons (pv 5) (pa_cons (pv 6) pa_nil))))))))), ?_⟩
    refine ⟨_, rfl, d, 12, rfl, hd, by decide, fun r ds r0 r1 => ?_⟩
    have k1 : Kp d H (upd H d (.lst (ds.map V.int))) := Kp.own
    have d1 : Drw (upd H d (.lst (ds.map V.int))) d := Drw.own
    have hn1 := k1 _ _ nd hn
    generalize upd H d (.lst (ds.map V.int)) = H1 at k1 d1 hn1 ⊢
    refine ⟨_, rfl, _, _, rfl, rfl, _, rfl, ite2 (fun c => ?_) (fun c => ?_)⟩
    · refine ⟨_, rfl, _, rfl, _, rfl, _, rfl, d, n, nm, 2, rfl, d1, nd, hn1, by omega, by decide, by decide, fun H' v g k2 d2 F2 W2 Z2 => ?_⟩
      exact q H' v (.f g) (k1.trans k2) d2 F2 (prL_f hok W2 (Nat.le_trans Z2.2 (by decide)))
    · refine ⟨sz2, fun t ht => ?_⟩
      have ntd : t ≠ d := fun e => by
        obtain ⟨ys, hy⟩ := d1
        rw [e, hy] at ht
        cases ht
      have s2 := same_new (o := .tup [.str "h1", .str "k2"]) ht
      have e2 := upd_same (H := H1) (a := t) (o := .tup [.str "h1", .str "k2"])
      have d2 := d1.new (o := .tup [.str "h1", .str "k2"]) ht
      have hn2 := s2 _ _ hn1
      have k2 : Kp d H1 (upd H1 t (.tup [.str "h1", .str "k2"])) := Kp.new ht
      generalize upd H1 t (.tup [.str "h1", .str "k2"]) = H2 at s2 e2 d2 hn2 k2 ⊢
      refine ⟨_, rfl, d, 5, rfl, d2, by decide, fun u us u0 u1 => ?_⟩
      have k3 : Kp d H2 (upd H2 d (.lst (us.map V.int))) := Kp.own
      have d3 : Drw (upd H2 d (.lst (us.map V.int))) d := Drw.own
      have hn3 := k3 _ _ nd hn2
      have e3 := k3 _ _ ntd e2
      generalize upd H2 d (.lst (us.map V.int)) = H3 at k3 d3 hn3 e3 ⊢
      refine ⟨_, _, rfl, rfl, ⟨by decide, by decide⟩, _, _, rfl, rfl, _, rfl, ?_⟩
      show rSlA K (.ref t) none (some (1 + u / 4)) H3 _
      refine hid_q (.of e3) e3 (by omega) fun H4 b hs s4 k4 d4 eb hin hhl => ?_
      have hn4 := s4 _ _ hn3
      have d4' := d4 _ d3
      have nbd : b ≠ d := fun e => by
        obtain ⟨ys, hy⟩ := d4'
        rw [e, hy] at eb
        cases eb
      refine ⟨_, rfl, _, rfl, n, _, rfl, .inl (.of hn4), fun D1 hD1 => ?_⟩
      have s5 := same_new (o := .lst (nm.map V.str)) hD1
      have e5 := upd_same (H := H4) (a := D1) (o := .lst (nm.map V.str))
      have k5 : Kp d H4 (upd H4 D1 (.lst (nm.map V.str))) := Kp.new hD1
      have d5 := d4'.new (o := .lst (nm.map V.str)) hD1
      have eb5 := s5 _ _ eb
      generalize upd H4 D1 (.lst (nm.map V.str)) = H5 at s5 e5 k5 d5 eb5 ⊢
      refine ⟨_, rfl, b, _, rfl, .inr (.of eb5), fun D2 hD2 => ?_⟩
      have s6 := same_new (o := .lst (hs.map V.str)) hD2
      have e6 := upd_same (H := H5) (a := D2) (o := .lst (hs.map V.str))
      have e56 := s6 _ _ e5
      have k6 : Kp d H5 (upd H5 D2 (.lst (hs.map V.str))) := Kp.new hD2
      have d6 := d5.new (o := .lst (hs.map V.str)) hD2
      have eb6 := s6 _ _ eb5
      generalize upd H5 D2 (.lst (hs.map V.str)) = H6 at s6 e6 e56 k6 d6 eb6 ⊢
      refine ⟨D1, D2, _, _, rfl, rfl, e56, e6, by rw [List.length_map, List.length_map]; exact Nat.le_trans (show nm.length + hs.length ≤ 30 by omega) (by decide), fun c hc => ?_⟩
      have s7 := same_new (o := .lst (nm.map V.str ++ hs.map V.str)) hc
      have e7 : (upd H6 c (.lst (nm.map V.str ++ hs.map V.str))) c = some (.lst ((nm ++ hs).map V.str)) := by rw [upd_same, List.map_append]
      have k7 : Kp d H6 (upd H6 c (.lst (nm.map V.str ++ hs.map V.str))) := Kp.new hc
      have d7 := d6.new (o := .lst (nm.map V.str ++ hs.map V.str)) hc
      have ncd : c ≠ d := fun e => by
        obtain ⟨ys, hy⟩ := d6
        rw [e, hy] at hc
        cases hc
      have eb7 := s7 _ _ eb6
      generalize upd H6 c (.lst (nm.map V.str ++ hs.map V.str)) = H7 at s7 e7 k7 d7 eb7 ⊢
      have hok2 : ∀ s ∈ nm ++ hs, PyData.strOk s = true := fun s hs' => (List.mem_append.mp hs').elim (hok s) (fun h => ok_h1 s (hin s h))
      refine ⟨_, rfl, _, _, rfl, _, rfl, d, c, nm ++ hs, 2, rfl, d7, ncd, e7, by rw [List.length_append]; omega, by decide, by decide, fun H8 v g k8 d8 F8 W8 Z8 => ?_⟩
      have eb8 := k8 _ _ nbd eb7
      refine ⟨sz2, fun l hl2 => ?_⟩
      have s9 := same_new (o := .lst [.str "exists", .str "forall"]) hl2
      have e9 := upd_same (H := H8) (a := l) (o := .lst [.str "exists", .str "forall"])
      have k9 : Kp d H8 (upd H8 l (.lst [.str "exists", .str "forall"])) := Kp.new hl2
      have d9 := d8.new (o := .lst [.str "exists", .str "forall"]) hl2
      have nld : l ≠ d := fun e => by
        obtain ⟨ys, hy⟩ := d8
        rw [e, hy] at hl2
        cases hl2
      have eb9 := s9 _ _ eb8
      have F9 := F8.same s9
      generalize upd H8 l (.lst [.str "exists", .str "forall"]) = H9 at s9 e9 k9 d9 eb9 F9 ⊢
      refine ⟨_, rfl, d, 2, rfl, d9, by decide, fun j js j0 j1 => ?_⟩
      obtain ⟨ys9, hy9⟩ := id d9
      have kA : Kp d H9 (upd H9 d (.lst (js.map V.int))) := Kp.own
      have dA : Drw (upd H9 d (.lst (js.map V.int))) d := Drw.own
      have eA := kA _ _ nld e9
      have ebA := kA _ _ nbd eb9
      have FA := F9.kp hy9 kA
      generalize upd H9 d (.lst (js.map V.int)) = HA at kA dA eA ebA FA ⊢
      obtain ⟨z, hz, hat⟩ := pick_at (ss := ["exists", "forall"]) (i := j) j0 (by show j < 2; exact j1)
      refine ⟨l, _, _, .str z, rfl, rfl, .of eA, hat, _, rfl, _, rfl, sz3, fun p hp => ?_⟩
      have sB := same_new (o := .tup [.str z, .ref b, v]) hp
      refine q _ _ (.q z hs g) ?_ (dA.new hp) ⟨p, b, v, rfl, .of upd_same, .of (sB _ _ ebA), FA.same sB⟩ (prL_q hok2 (fun s hs' => ok_h1 s (hin s hs')) (ok_h1 z (List.mem_cons_of_mem _ (List.mem_cons_of_mem _ hz))) W8 (Nat.le_trans Z8.2 (by decide)))
      exact k1.trans (k2.trans (k3.trans ((k4 d).trans (k5.trans (k6.trans (k7.trans (k8.trans (k9.trans (kA.trans (Kp.new hp))))))))))
theorem cal_isint (T : Txt K mg) : C8.Cal P w K mg base 1 "_law_is_integer" spIsInt [] := by
  obtain ⟨f, fd, F, hm, hb⟩ := T.h_law_is_integer
  refine ⟨f, fd, _, [], F.ok sc_law_is_integer (fun vs H Q E h => ?_) (fun cdv A outer s H vs Q E hr h => ?_), hm, F.kp, hb, .nil⟩
  · obtain ⟨i, rfl, _⟩ := h
    rfl
  · obtain ⟨i, rfl, q⟩ := h
    refine ⟨_, (pss_one
      (ps_ret (pe_and (pe_callB (call_isiK' (K := K) rfl) (by rfl) T.z_isinstance (by decide +kernel) (pa_cons (pv 0) (pa_cons (pe_bltn (v := .ty "int") (by rfl) T.z_int (by decide +kernel) rfl) pa_nil))) (pe_one (pe_not (pe_callB (call_isiK' (K := K) rfl) (by rfl) T.z_isinstance (by decide +kernel) (pa_cons (pv 0) (pa_cons (pe_bltn (v := .ty "bool") (by rfl) T.z_bool (by decide +kernel) rfl) pa_nil)))))))), ?_⟩
    refine ⟨_, rfl, _, _, _, _, true, rfl, .ty "int", .base (.int i), kit_ty (by decide +kernel), true, rfl, iteT ?_⟩
    exact ⟨_, rfl, _, _, _, _, false, rfl, .ty "bool", .base (.int i), kit_ty (by decide +kernel), false, rfl, q⟩
def spIs (K : PySem.W.Frag) (C : Addr) : Sp := fun vs H Q _ => ∃ (x i o a g : Addr) (ins outs : List Str) (L : Int) (as gs : List V) (ps qs : List Pr) (n : Bool), vs = [.ref x, .ref i, .ref o, .int L, .ref a, .ref g, .bl n] ∧ SpcAt C H x ins outs L as gs n ∧
  H i = some (.lst (ins.map V.str)) ∧ H o = some (.lst (outs.map V.str)) ∧ H a = some (.lst as) ∧ H g = some (.lst gs) ∧ PvsAt K H as ps ∧ PvsAt K H gs qs ∧ (∀ p ∈ ps, PrL p) ∧ (∀ p ∈ qs, PrL p) ∧ ins.length ≤ 3 ∧ outs.length ≤ 3 ∧ (∀ s ∈ ins ++ outs, PyData.strOk s = true) ∧
  ∀ H', Same H H' → Q (.bl true) H'
theorem tupl {H : Hp} {a : Addr} {xs : List V} {Q : VK} (h : H a = some (.lst xs)) (q : ∀ H' t, Same H H' → H' t = some (.tup xs) → Q (.ref t) H') : rTupOf K [.ref a] H Q := tupq (.inl h) q
theorem cal_is {C cS pS gS : Addr} {fdS : FuncData} (T : Txt K mg) (S : Sk P w K mg base C cS pS gS fdS) : C8.Cal P w K mg base 4 "_law_is_spec" (spIs K C) [] := by
  obtain ⟨eS, PC, MS, PS, FS, bS, gSP, hIC⟩ := S
  have C_law_is_integer : C8.Cal P w K mg base 1 "_law_is_integer" spIsInt [] := cal_isint T
  obtain ⟨f, fd, F, hm, hb⟩ := T.h_law_is_spec
  refine ⟨f, fd, _, [], F.ok sc_law_is_spec (fun vs H Q E h => ?_) (fun cdv A outer s H vs Q E hr h => ?_), hm, F.kp, hb, .nil⟩
  · obtain ⟨x, i, o, a, g, ins, outs, L, as, gs, ps, qs, n, rfl, _⟩ := h
    rfl
  · obtain ⟨x, i, o, a, g, ins, outs, L, as, gs, ps, qs, n, rfl, hA, hi, ho, ha, hg, hP, hQ, lP, lQ, l1, l2, hok, q⟩ := h
    obtain ⟨dx, i', o', a', g', h1, h2, h3, h4, h5⟩ := id hA
    refine ⟨_, (pss_cons
      (ps_if (PW.pt (pw_or (pt_not (pt_val (pe_callB (C8.call_isC hIC) (by rfl) T.z_isinstance (by decide +kernel) (pa_cons (pv 0) (pa_cons (pe_glob (v := .ref C) (by rfl) gSP rfl) pa_nil))))) (pw_or (pt_cmpR (op_neDK (K := K) rfl hr.units) (pe_fld (pv 0) rfl) (pe_callTy (call_tuple_ofK (K := K) rfl) (by rfl) T.z_tuple (by decide +kernel) (pa_cons (pv 1) pa_nil)) (nomark _)) (pw_or1 (pt_cmpR (op_neDK (K := K) rfl hr.units) (pe_fld (pv 0) rfl) (pe_callTy (call_tuple_ofK (K := K) rfl) (by rfl) T.z_tuple (by decide +kernel) (pa_cons (pv 2) pa_nil)) (nomark _)))))) (pss_one
      (ps_ret pe_bl)) pss_nil)
      (pss_cons
      (ps_if (PW.pt (pw_or (pt_not (pt_val (C8.pe_c C_law_is_integer hr (by decide) (by rfl) (pa_cons (pe_fld (pv 0) rfl) pa_nil)))) (pw_or1 (pt_cmpR op_ne (pe_fld (pv 0) rfl) (pv 3) (nomark _))))) (pss_one
      (ps_ret pe_bl)) pss_nil)
      (pss_cons
      (ps_if (PW.pt (pw_or (pt_not (pt_val (pe_callB (call_isiK' (K := K) rfl) (by rfl) T.z_isinstance (by decide +kernel) (pa_cons (pe_fld (pv 0) rfl) (pa_cons (pe_bltn (v := .ty "bool") (by rfl) T.z_bool (by decide +kernel) rfl) pa_nil))))) (pw_or1 (pt_cmpR op_ne (pe_fld (pv 0) rfl) (pv 6) (nomark _))))) (pss_one
      (ps_ret pe_bl)) pss_nil)
      (pss_cons
      (ps_if (PW.pt (pw_or (pt_not (pt_val (pe_callB (call_isiK' (K := K) rfl) (by rfl) T.z_isinstance (by decide +kernel) (pa_cons (pe_fld (pv 0) rfl) (pa_cons (pe_bltn (v := .ty "tuple") (by rfl) T.z_tuple (by decide +kernel) rfl) pa_nil))))) (pw_or1 (pt_not (pt_val (pe_callB (call_isiK' (K := K) rfl) (by rfl) T.z_isinstance (by decide +kernel) (pa_cons (pe_fld (pv 0) rfl) (pa_cons (pe_bltn (v := .ty "tuple") (by rfl) T.z_tuple (by decide +kernel) rfl) pa_nil)))))))) (pss_one
      (ps_ret pe_bl)) pss_nil)
      (pss_cons
      (ps_if (PW.pt (pw_or (pt_cmpR (op_neDK (K := K) rfl hr.units) (pe_fld (pv 0) rfl) (pe_callTy (call_tuple_ofK (K := K) rfl) (by rfl) T.z_tuple (by decide +kernel) (pa_cons (pv 4) pa_nil)) (nomark _)) (pw_or1 (pt_cmpR (op_neDK (K := K) rfl hr.units) (pe_fld (pv 0) rfl) (pe_callTy (call_tuple_ofK (K := K) rfl) (by rfl) T.z_tuple (by decide +kernel) (pa_cons (pv 5) pa_nil)) (nomark _))))) (pss_one
      (ps_ret pe_bl)) pss_nil)
      (pss_one
      (ps_ret (pe_and (pe_callB (call_isiK' (K := K) rfl) (by rfl) T.z_isinstance (by decide +kernel) (pa_cons (pe_prop (pv 0) PC.cl PS FS (hr.mono (by decide)) bS .nil pass0 rfl) (pa_cons (pe_bltn (v := .ty "tuple") (by rfl) T.z_tuple (by decide +kernel) rfl) pa_nil))) (pe_one (pe_cmpR (op_eqDK (K := K) rfl hr.units) (pe_prop (pv 0) PC.cl PS FS (hr.mono (by decide)) bS .nil pass0 rfl) (pe_op (op_catK (K := K) rfl) (pe_callTy (call_tuple_ofK (K := K) rfl) (by rfl) T.z_tuple (by decide +kernel) (pa_cons (pv 1) pa_nil)) (pe_callTy (call_tuple_ofK (K := K) rfl) (by rfl) T.z_tuple (by decide +kernel) (pa_cons (pv 2) pa_nil))) (nomark _))))))))))), ?_⟩
    have oki : ∀ s ∈ ins, PyData.strOk s = true := fun s hs => hok s (List.mem_append_left _ hs)
    have oko : ∀ s ∈ outs, PyData.strOk s = true := fun s hs => hok s (List.mem_append_right _ hs)
    obtain ⟨ti, si, _⟩ := lay_T (lay_strs oki)
    obtain ⟨to, so, _⟩ := lay_T (lay_strs oko)
    obtain ⟨tio, sio, _⟩ := lay_T (lay_strs hok)
    obtain ⟨tp, sp, _⟩ := lay_T (lay_prs lP)
    obtain ⟨tq, sq, _⟩ := lay_T (lay_prs lQ)
    refine ⟨_, rfl, x, dx, _, rfl, h1, _, rfl, iteF ?_⟩
    refine ⟨_, rfl, x, C, dx, _, _, rfl, h1, PC.cl, PC.ni, Spx.sl_i _ _ _ _ _ _, ?_⟩
    refine ⟨_, rfl, ?_⟩
    dsimp only [tNil]
    refine tupl hi fun H1 t1 s1 e1 => ?_
    refine ⟨_, _, .tup (.of (s1 _ _ h2)) (dp_strs ins), .tup (.of e1) (dp_strs ins), si, si, _, rfl, ?_⟩
    rw [SeqAt.eqv_refl _ ti]
    refine iteF ?_
    refine ⟨_, rfl, x, C, dx, _, _, rfl, s1 _ _ h1, PC.cl, PC.no, Spx.sl_o _ _ _ _ _ _, ?_⟩
    refine ⟨_, rfl, ?_⟩
    dsimp only [tNil]
    refine tupl (s1 _ _ ho) fun H2 t2 s2 e2 => ?_
    have s02 := s1.trans s2
    refine ⟨_, _, .tup (.of (s02 _ _ h3)) (dp_strs outs), .tup (.of e2) (dp_strs outs), so, so, _, rfl, ?_⟩
    rw [SeqAt.eqv_refl _ to]
    refine iteF ?_
    -- the lead
    have h12 := s02 _ _ h1
    refine ⟨_, rfl, x, C, dx, _, _, rfl, h12, PC.cl, PC.nl, Spx.sl_l _ _ _ _ _ _, _, rfl, _, rfl, iteF ?_⟩
    refine ⟨_, rfl, x, C, dx, _, _, rfl, h12, PC.cl, PC.nl, Spx.sl_l _ _ _ _ _ _, _, rfl, rfl, _, rfl, ?_⟩
    rw [show (!decide (V.int L = V.int L)) = false by simp]
    refine iteF ?_
    -- negated
    refine ⟨_, rfl, x, C, dx, _, _, rfl, h12, PC.cl, PC.nn, Spx.sl_n _ _ _ _ _ _, _, _, _, _, true, rfl, .ty "bool", .base (.bl n), kit_ty (by decide +kernel), _, rfl, iteF ?_⟩
    refine ⟨_, rfl, x, C, dx, _, _, rfl, h12, PC.cl, PC.nn, Spx.sl_n _ _ _ _ _ _, _, rfl, rfl, _, rfl, ?_⟩
    rw [show (!decide (V.bl n = V.bl n)) = false by simp]
    refine iteF ?_
    -- tuples
    refine ⟨_, rfl, x, C, dx, _, _, rfl, h12, PC.cl, PC.na, Spx.sl_a _ _ _ _ _ _, _, _, _, _, true, rfl, .ty "tuple", .base (.tup (s02 _ _ h4)), kit_ty (by decide +kernel), _, rfl, iteF ?_⟩
    refine ⟨_, rfl, x, C, dx, _, _, rfl, h12, PC.cl, PC.ng, Spx.sl_g _ _ _ _ _ _, _, _, _, _, true, rfl, .ty "tuple", .base (.tup (s02 _ _ h5)), kit_ty (by decide +kernel), _, rfl, iteF ?_⟩
    refine ⟨_, rfl, x, C, dx, _, _, rfl, h12, PC.cl, PC.na, Spx.sl_a _ _ _ _ _ _, ?_⟩
    refine ⟨_, rfl, ?_⟩
    dsimp only [tNil]
    refine tupl (s02 _ _ ha) fun H3 t3 s3 e3 => ?_
    have s03 := s02.trans s3
    refine ⟨_, _, .tup (.of (s03 _ _ h4)) (dp_prs (hP.same s03)), .tup (.of e3) (dp_prs (hP.same s03)), sp, sp, _, rfl, ?_⟩
    rw [SeqAt.eqv_refl _ tp]
    refine iteF ?_
    refine ⟨_, rfl, x, C, dx, _, _, rfl, s03 _ _ h1, PC.cl, PC.ng, Spx.sl_g _ _ _ _ _ _, ?_⟩
    refine ⟨_, rfl, ?_⟩
    dsimp only [tNil]
    refine tupl (s03 _ _ hg) fun H4 t4 s4 e4 => ?_
    have s04 := s03.trans s4
    refine ⟨_, _, .tup (.of (s04 _ _ h5)) (dp_prs (hQ.same s04)), .tup (.of e4) (dp_prs (hQ.same s04)), sq, sq, _, rfl, ?_⟩
    rw [SeqAt.eqv_refl _ tq]
    refine iteF ?_
    -- the signals
    refine ⟨_, rfl, x, dx, _, rfl, s04 _ _ h1, x, ins, outs, L, as, gs, n, rfl, hA.same s04, l1, l2, fun H5 p5 s5 e5 => ⟨_, _, _, _, true, rfl, .ty "tuple", .base (.tup e5), kit_ty (by decide +kernel), true, rfl, iteT ?_⟩⟩
    have s05 := s04.trans s5
    refine ⟨_, rfl, x, dx, _, rfl, s05 _ _ h1, x, ins, outs, L, as, gs, n, rfl, hA.same s05, l1, l2, fun H6 p6 s6 e6 => ?_⟩
    have s06 := s05.trans s6
    refine ⟨_, rfl, ?_⟩
    dsimp only [tNil]
    refine tupl (s06 _ _ hi) fun H7 t7 s7 e7 => ?_
    have s07 := s06.trans s7
    refine ⟨_, rfl, ?_⟩
    dsimp only [tNil]
    refine tupl (s07 _ _ ho) fun H8 t8 s8 e8 => ?_
    have s08 := s07.trans s8
    have fin : ∀ (H' : Hp) (t : Addr), Same H8 H' → H' t = some (.tup ((ins ++ outs).map V.str)) → rEqD K (.ref p6) (.ref t) H' Q := fun H' t s' ht =>
      ⟨_, _, .tup (.of (s' _ _ (s8 _ _ (s7 _ _ e6)))) (dp_strs (ins ++ outs)), .tup (.of ht) (dp_strs (ins ++ outs)), sio, sio, by rw [SeqAt.eqv_refl _ tio]; exact q _ (s08.trans s')⟩
    refine ⟨t7, t8, _, _, rfl, rfl, .of (s8 _ _ e7), .of e8, by rw [List.length_map, List.length_map]; exact Nat.le_trans (show ins.length + outs.length ≤ 6 by omega) (by decide), fun z => ?_, fun _ z => ?_, fun _ _ p hp => ?_⟩
    · have e : ins = [] := List.map_eq_nil_iff.mp z
      subst e
      exact fin H8 t8 (Same.refl _) e8
    · have e : outs = [] := List.map_eq_nil_iff.mp z
      subst e
      exact fin H8 t7 (Same.refl _) (by rw [List.append_nil]; exact s8 _ _ e7)
    · exact fin _ p (same_new hp) (by rw [upd_same, List.map_append])
theorem cut_to (xs : List V) (k : Nat) : cutV xs none (some (k : Int)) = xs.take k := by
  unfold cutV
  rw [HT.sIx_none, HT.sIx_nat, Nat.sub_zero, List.drop_zero]
  rcases Nat.le_total k xs.length with h | h
  · rw [Nat.min_eq_left h]
  · rw [Nat.min_eq_right h, List.take_length, List.take_of_length_le h]
theorem cut_mid (xs : List V) (a b : Nat) : cutV xs (some (a : Int)) (some ((a + b : Nat) : Int)) = (xs.drop a).take b := by
  unfold cutV
  rw [HT.sIx_nat, HT.sIx_nat]
  rcases Nat.le_total a xs.length with h | h
  · rw [Nat.min_eq_left h]
    rcases Nat.le_total (a + b) xs.length with g | g
    · rw [Nat.min_eq_left g, Nat.add_sub_cancel_left]
    · rw [Nat.min_eq_right g, List.take_of_length_le (by rw [List.length_drop]; exact Nat.le_refl _), List.take_of_length_le (by rw [List.length_drop]; omega)]
  · rw [Nat.min_eq_right h, List.drop_length, List.drop_of_length_le h, List.take_nil, List.take_nil]
abbrev L4a : List Str := ["a1", "b1", "c1", "d1"]
abbrev BAD : List Str := ["", "A", "1a", "a b", "true", "exists", "a_b", "aB", "false", "forall", " a", "a-"]
theorem bad_no : ∀ s ∈ BAD, nameOk s = false := by decide +kernel
theorem bad_ok : ∀ s ∈ BAD ++ L4a, PyData.strOk s = true ∧ s.length ≤ 10 := by decide +kernel
theorem good_take {nm : List Str} (h6 : nm.length = 6) (nd : nm.Nodup) (ng : ∀ s ∈ nm, NmG s) {j k : Nat} (hj : j ≤ 3) (hk : k ≤ 3) {L : Int} (h0 : -3 ≤ L) (h1 : L ≤ 2) : GoodS (nm.take j) ((nm.drop 3).take k) L := by
  have sub : (nm.take j ++ (nm.drop 3).take k).Sublist nm := by
    have e : nm = nm.take 3 ++ nm.drop 3 := (List.take_append_drop 3 nm).symm
    conv => rhs; rw [e]
    refine List.Sublist.append ?_ (List.take_sublist _ _)
    have : nm.take j = (nm.take 3).take j := by rw [List.take_take, Nat.min_eq_left hj]
    rw [this]
    exact List.take_sublist _ _
  exact ⟨fun s hs => (ng s (sub.subset hs)).1, sub.nodup nd, by rw [List.length_take]; omega, by rw [List.length_take]; omega, h0, h1⟩
/-- what stands in the law while the parts are spoilt -/
structure Pt46 (K : PySem.W.Frag) (H : Hp) (d i o A G : Addr) (ins outs : List Str) (as gs : List V) (ps qs : List Pr) : Prop where
  dr : Drw H d
  hi : H i = some (.lst (ins.map V.str))
  ho : H o = some (.lst (outs.map V.str))
  hA : H A = some (.lst as)
  hG : H G = some (.lst gs)
  nd : i ≠ d ∧ o ≠ d ∧ A ≠ d ∧ G ≠ d
  pA : PvsAt K H as ps
  pG : PvsAt K H gs qs
  lA : ∀ p ∈ ps, PrL p
  lG : ∀ p ∈ qs, PrL p
  nA : as.length ≤ 3
  nG : gs.length ≤ 3
  ni : ins.length ≤ 10
  no : outs.length ≤ 10
  ok : ∀ s ∈ ins ++ outs, PyData.strOk s = true ∧ s.length ≤ 10
theorem Pt46.same {K : PySem.W.Frag} {H H' : Hp} {d i o A G : Addr} {ins outs : List Str} {as gs : List V} {ps qs : List Pr} (s : Same H H') (h : Pt46 K H d i o A G ins outs as gs ps qs) : Pt46 K H' d i o A G ins outs as gs ps qs :=
  ⟨(let ⟨ys, hy⟩ := h.dr; ⟨ys, s _ _ hy⟩), s _ _ h.hi, s _ _ h.ho, s _ _ h.hA, s _ _ h.hG, h.nd, h.pA.same s, h.pG.same s, h.lA, h.lG, h.nA, h.nG, h.ni, h.no, h.ok⟩
theorem Pt46.kp {K : PySem.W.Frag} {H H' : Hp} {d i o A G : Addr} {ins outs : List Str} {as gs : List V} {ps qs : List Pr} (k : Kp d H H') (hd : Drw H' d) (h : Pt46 K H d i o A G ins outs as gs ps qs) : Pt46 K H' d i o A G ins outs as gs ps qs := by
  obtain ⟨ys, hy⟩ := h.dr
  exact ⟨hd, k _ _ h.nd.1 h.hi, k _ _ h.nd.2.1 h.ho, k _ _ h.nd.2.2.1 h.hA, k _ _ h.nd.2.2.2 h.hG, h.nd, h.pA.kp hy k, h.pG.kp hy k, h.lA, h.lG, h.nA, h.nG, h.ni, h.no, h.ok⟩
theorem Pt46.withi {K : PySem.W.Frag} {H H' : Hp} {d i o A G p : Addr} {ins outs ins' : List Str} {as gs : List V} {ps qs : List Pr} (h : Pt46 K H d i o A G ins outs as gs ps qs) (s : Same H H') (e : H' p = some (.lst (ins'.map V.str))) (hp : p ≠ d) (l : ins'.length ≤ 10) (k : ∀ s ∈ ins', PyData.strOk s = true ∧ s.length ≤ 10) : Pt46 K H' d p o A G ins' outs as gs ps qs :=
  let g := h.same s
  ⟨g.dr, e, g.ho, g.hA, g.hG, ⟨hp, g.nd.2⟩, g.pA, g.pG, g.lA, g.lG, g.nA, g.nG, l, g.no, fun z hz => (List.mem_append.mp hz).elim (k z) (fun q => g.ok z (List.mem_append_right _ q))⟩
theorem Pt46.witho {K : PySem.W.Frag} {H H' : Hp} {d i o A G p : Addr} {ins outs outs' : List Str} {as gs : List V} {ps qs : List Pr} (h : Pt46 K H d i o A G ins outs as gs ps qs) (s : Same H H') (e : H' p = some (.lst (outs'.map V.str))) (hp : p ≠ d) (l : outs'.length ≤ 10) (k : ∀ s ∈ outs', PyData.strOk s = true ∧ s.length ≤ 10) : Pt46 K H' d i p A G ins outs' as gs ps qs :=
  let g := h.same s
  ⟨g.dr, g.hi, e, g.hA, g.hG, ⟨g.nd.1, hp, g.nd.2.2⟩, g.pA, g.pG, g.lA, g.lG, g.nA, g.nG, g.ni, l, fun z hz => (List.mem_append.mp hz).elim (fun q => g.ok z (List.mem_append_left _ q)) (k z)⟩
theorem dr_ne {H : Hp} {d p : Addr} (h : Drw H d) (hp : H p = none) : p ≠ d := fun e => by
  obtain ⟨ys, hy⟩ := h
  rw [e, hy] at hp
  cases hp
theorem bad_dup {ins outs : List Str} {L : Int} {x : Str} (h1 : x ∈ ins) (h2 : x ∈ outs) : ¬ GoodS ins outs L := fun g => (List.nodup_append.mp g.nd).2.2 x h1 x h2 rfl
theorem bad_nm {ins outs : List Str} {L : Int} {x : Str} (h1 : x ∈ ins) (h2 : nameOk x = false) : ¬ GoodS ins outs L := fun g => by
  have := g.nm x (List.mem_append_left _ h1)
  rw [h2] at this
  cases this
theorem SpcAt.kp {C : Addr} {H H' : Hp} {b : Addr} {ys : List V} (hb : H b = some (.lst ys)) (k : Kp b H H') {x : Addr} {ins outs : List Str} {L : Int} {as gs : List V} {n : Bool} : SpcAt C H x ins outs L as gs n → SpcAt C H' x ins outs L as gs n := fun ⟨dx, i, o, a, g, h1, h2, h3, h4, h5⟩ => by
  have nt : ∀ {z : Addr} {xs : List V}, H z = some (.tup xs) → z ≠ b := fun h e => by rw [e, hb] at h; cases h
  have nx : x ≠ b := fun e => by rw [e, hb] at h1; cases h1
  exact ⟨dx, i, o, a, g, k _ _ nx h1, k _ _ (nt h2) h2, k _ _ (nt h3) h3, k _ _ (nt h4) h4, k _ _ (nt h5) h5⟩
/-- the outcome, in one -/
theorem out_q {C i o a g : Addr} {H : Hp} {ins outs : List Str} {L : Int} {as gs : List V} {n sh : Bool} {Q : VK} {E : XK} (hi : SeqV H i (ins.map V.str)) (ho : SeqV H o (outs.map V.str)) (ha : SeqV H a as) (hg : SeqV H g gs) (l1 : ins.length ≤ 100) (l2 : outs.length ≤ 100) (l3 : as.length ≤ 100) (l4 : gs.length ≤ 100) (l5 : ∀ s ∈ ins ++ outs, s.length ≤ 100)
    (h : ∀ (sv : V) (H' : Hp), Same H H' → ((¬ GoodS ins outs L ∧ sv = .non) ∨ (GoodS ins outs L ∧ ∃ x, sv = .ref x ∧ SpcAt C H' x ins outs L as gs n)) → Q sv H') : spOut C [.ref i, .ref o, .int L, .ref a, .ref g, .bl n, .bl sh] H Q E :=
  ⟨i, o, a, g, ins, outs, L, as, gs, n, sh, rfl, hi, ho, ha, hg, l1, l2, l3, l4, l5, fun ng H' s => h .non H' s (.inl ⟨ng, rfl⟩), fun gd H' x s A => h (.ref x) H' s (.inr ⟨gd, x, rfl, A⟩)⟩
theorem shaped4 {a b c e : PyData} (h1 : PyData.canLay0 a = true) (h2 : PyData.canLay0 b = true) (h3 : PyData.canLay0 c = true) (h4 : PyData.canLay0 e = true) (d1 : PyData.depth a ≤ 40) (d2 : PyData.depth b ≤ 40) (d3 : PyData.depth c ≤ 40) (d4 : PyData.depth e ≤ 40) : PyData.canLay0 (.list [a, b, c, e]) = true ∧ SeqAt.shaped (.list [a, b, c, e]) = true := by
  have x : PyData.canLay0 (.list [a, b, c, e]) = true := by simp [PyData.canLay0, PyData.canLayAll0, h1, h2, h3, h4]
  refine ⟨x, ?_⟩
  have y : PyData.depth (.list [a, b, c, e]) ≤ 64 := by
    simp only [PyData.depth, PyData.depthAll]
    omega
  unfold SeqAt.shaped
  rw [x, decide_eq_true y]
  rfl
theorem at3 {u : Int} (h0 : 0 ≤ u) (h1 : u < 3) : ∃ z : Int, (z < -3 ∨ 2 < z) ∧ atI [V.int (-4), V.int 3, V.int 10] u = some (.int z) := by
  have c : u = 0 ∨ u = 1 ∨ u = 2 := by omega
  rcases c with rfl | rfl | rfl
  · exact ⟨-4, by decide, rfl⟩
  · exact ⟨3, by decide, rfl⟩
  · exact ⟨10, by decide, rfl⟩
abbrev A1 : List Str := ["a1"]
theorem Pt46.off {K : PySem.W.Frag} {H H' : Hp} {d i o A G b : Addr} {ys : List V} {ins outs : List Str} {as gs : List V} {ps qs : List Pr} (eb : H b = some (.lst ys)) (k : Kp b H H') (nb : i ≠ b ∧ o ≠ b ∧ A ≠ b ∧ G ≠ b ∧ d ≠ b) (h : Pt46 K H d i o A G ins outs as gs ps qs) : Pt46 K H' d i o A G ins outs as gs ps qs := by
  obtain ⟨n1, n2, n3, n4, n5⟩ := nb
  exact ⟨(let ⟨zs, hz⟩ := h.dr; ⟨zs, k _ _ n5 hz⟩), k _ _ n1 h.hi, k _ _ n2 h.ho, k _ _ n3 h.hA, k _ _ n4 h.hG, h.nd, h.pA.kp eb k, h.pG.kp eb k, h.lA, h.lG, h.nA, h.nG, h.ni, h.no, h.ok⟩
theorem ok_law {f : Addr} {fd : FuncData} (F : L2.Fun K "law" "law" s_law f fd) (T : Txt K mg) : FnOk P w K mg base CX0 14 f fd ["script"] (spLaw K) := by
  obtain ⟨C, cS, pS, gS, fdS, S⟩ := sk (P := P) (w := w) (base := base) T
  have C_law_draws : C8.Cal P w K mg base 1 "_law_draws" (spDraws K) [] := cal_draws T
  have C_law_take : C8.Cal P w K mg base 1 "_law_take" spTake [] := cal_take T
  have C_law_names : C8.Cal P w K mg base 3 "_law_names" spNames [] := cal_names T
  have C_law_formula : C8.Cal P w K mg base 5 "_law_formula" (spForm K 3) [] := cal_form T 3
  have C_law_property : C8.Cal P w K mg base 6 "_law_property" (spPrp K) [] := cal_prp T
  have C_law_outcome : C8.Cal P w K mg base 6 "_law_outcome" (spOut C) [] := cal_out T S
  have C_law_is_spec : C8.Cal P w K mg base 4 "_law_is_spec" (spIs K C) [] := cal_is T S
  have C_dual : C8.Cal P w K mg base 6 "dual" (spDual C) [] := cal_dual T S
  refine F.ok sc_law (fun vs H Q E h => ?_) (fun cdv A outer s H vs Q E hr h => ?_)
  · obtain ⟨a, ns, rfl, _⟩ := h
    rfl
  · obtain ⟨a, ns, rfl, hS, h63, q⟩ := h
    refine ⟨_, (pss_cons
      (ps_set (i := 1) sc_law.nd rfl (Or.inr rfl) (C8.pe_c C_law_draws hr (by decide) (by rfl) (pa_cons (pv 0) (pa_cons pe_int pa_nil))))
      (pss_cons
      (ps_set (i := 2) sc_law.nd rfl (Or.inl rfl) (C8.pe_c C_law_names hr (by decide) (by rfl) (pa_cons (pv 1) (pa_cons pe_int pa_nil))))
      (pss_cons
      (ps_set (i := 3) sc_law.nd rfl (Or.inr rfl) (pe_slice (sl_listK (K := K) rfl) (pv 2) po_none (po_some (C8.pe_c C_law_take hr (by decide) (by rfl) (pa_cons (pv 1) (pa_cons pe_int pa_nil))))))
      (pss_cons
      (ps_set (i := 4) sc_law.nd rfl (Or.inr rfl) (pe_slice (sl_listK (K := K) rfl) (pv 2) (po_some pe_int) (po_some (pe_op op_add pe_int (C8.pe_c C_law_take hr (by decide) (by rfl) (pa_cons (pv 1) (pa_cons pe_int pa_nil)))))))
      (pss_cons
      (ps_set (i := 5) sc_law.nd rfl (Or.inl rfl) (pe_op op_sub (C8.pe_c C_law_take hr (by decide) (by rfl) (pa_cons (pv 1) (pa_cons pe_int pa_nil))) pe_int))
      (pss_cons
      (ps_setLc (i := 6) (own := [("k", 14)]) (g := gName 14) (tt := tYes) rfl sc_law.nd rfl rfl (sw_true rfl rfl rfl (by decide +kernel)) (pi_range1 (by rfl) T.z_range (pa_cons (C8.pe_c C_law_take hr (by decide) (by rfl) (pa_cons (pv 1) (pa_cons pe_int pa_nil))) pa_nil)) (blkOk_by (N := N_law) (sc := defScope s_law) (by decide +kernel)) (fun _ _ _ _ _ => (pg_name (i := 14) sc_law.nd rfl (Or.inl rfl))) (fun _ _ _ _ _ => pts_nil) (fun _ _ _ _ _ => (C8.pe_c C_law_formula hr (by decide) (by rfl) (pa_cons (pv 1) (pa_cons (pe_op op_cat (pv 3) (pv 4)) (pa_cons pe_int (pa_cons pe_int pa_nil)))))))
      (pss_cons
      (ps_setLc (i := 7) (own := [("k", 14)]) (g := gName 14) (tt := tYes) rfl sc_law.nd rfl rfl (sw_true rfl rfl rfl (by decide +kernel)) (pi_range1 (by rfl) T.z_range (pa_cons (C8.pe_c C_law_take hr (by decide) (by rfl) (pa_cons (pv 1) (pa_cons pe_int pa_nil))) pa_nil)) (blkOk_by (N := N_law) (sc := defScope s_law) (by decide +kernel)) (fun _ _ _ _ _ => (pg_name (i := 14) sc_law.nd rfl (Or.inl rfl))) (fun _ _ _ _ _ => pts_nil) (fun _ _ _ _ _ => (C8.pe_c C_law_property hr (by decide) (by rfl) (pa_cons (pv 1) (pa_cons (pe_op op_cat (pv 3) (pv 4)) (pa_cons pe_int (pa_cons pe_int (pa_cons pe_int pa_nil))))))))
      (pss_cons
      (ps_set (i := 8) sc_law.nd rfl (Or.inl rfl) (pe_cmpR op_eq (C8.pe_c C_law_take hr (by decide) (by rfl) (pa_cons (pv 1) (pa_cons pe_int pa_nil))) pe_int (nomark _)))
      (pss_cons
      (ps_set (i := 9) sc_law.nd rfl (Or.inl rfl) (C8.pe_c C_law_take hr (by decide) (by rfl) (pa_cons (pv 1) (pa_cons pe_int pa_nil))))
      (C8.pss_cut
      (ps_if (pt_cmpR op_eq (pv 9) pe_int (nomark _)) (pss_one
      (ps_set (i := 3) sc_law.nd rfl (Or.inr rfl) (pe_lst (pa_cons pe_str (pa_cons pe_str (pa_cons pe_str (pa_cons pe_str pa_nil))))))) pss_nil)
      (C8.pss_cut
      (ps_if (pt_cmpR op_eq (pv 9) pe_int (nomark _)) (pss_one
      (ps_set (i := 4) sc_law.nd rfl (Or.inr rfl) (pe_lst (pa_cons pe_str (pa_cons pe_str (pa_cons pe_str (pa_cons pe_str pa_nil))))))) pss_nil)
      (C8.pss_cut
      (ps_if (pt_cmpR op_eq (pv 9) pe_int (nomark _)) (pss_cons
      (ps_set (i := 10) sc_law.nd rfl (Or.inl rfl) (pe_lst (pa_cons pe_str (pa_cons pe_str (pa_cons pe_str (pa_cons pe_str (pa_cons pe_str (pa_cons pe_str (pa_cons pe_str (pa_cons pe_str (pa_cons pe_str (pa_cons pe_str (pa_cons pe_str (pa_cons pe_str pa_nil))))))))))))))
      (pss_one
      (ps_set (i := 3) sc_law.nd rfl (Or.inr rfl) (pe_op op_cat (pe_slice (sl_listK (K := K) rfl) (pv 3) po_none (po_some pe_int)) (pe_lst (pa_cons (pe_ix (ix_listK (K := K) rfl) (pv 10) (C8.pe_c C_law_take hr (by decide) (by rfl) (pa_cons (pv 1) (pa_cons pe_int pa_nil))) (fun _ _ => rfl)) pa_nil)))))) pss_nil)
      (C8.pss_cut
      (ps_if (pt_cmpR op_eq (pv 9) pe_int (nomark _)) (pss_cons
      (ps_set (i := 4) sc_law.nd rfl (Or.inr rfl) (pe_op op_cat (pe_slice (sl_listK (K := K) rfl) (pv 4) po_none (po_some pe_int)) (pe_slice (sl_listK (K := K) rfl) (pe_op op_cat (pe_op op_cat (pv 3) (pv 4)) (pe_lst (pa_cons pe_str pa_nil))) po_none (po_some pe_int))))
      (pss_cons
      (ps_set (i := 3) sc_law.nd rfl (Or.inr rfl) (pe_slice (sl_listK (K := K) rfl) (pe_op op_cat (pv 3) (pe_lst (pa_cons pe_str pa_nil))) po_none (po_some pe_int)))
      (pss_one
      (ps_set (i := 4) sc_law.nd rfl (Or.inr rfl) (pe_op op_cat (pe_slice (sl_listK (K := K) rfl) (pv 4) po_none (po_some pe_int)) (pv 3)))))) pss_nil)
      (C8.pss_cut
      (ps_if (pt_cmpR op_eq (pv 9) pe_int (nomark _)) (pss_one
      (ps_set (i := 5) sc_law.nd rfl (Or.inl rfl) (pe_ix (ix_listK (K := K) rfl) (pe_lst (pa_cons (pe_un un_neg pe_int) (pa_cons pe_int (pa_cons pe_int pa_nil)))) (C8.pe_c C_law_take hr (by decide) (by rfl) (pa_cons (pv 1) (pa_cons pe_int pa_nil))) (fun _ _ => rfl)))) pss_nil)
      (pss_cons
      (ps_set (i := 11) sc_law.nd rfl (Or.inl rfl) (pe_lst (pa_cons (pe_callTy (call_list_ofK (K := K) rfl) (by rfl) T.z_list (by decide +kernel) (pa_cons (pv 3) pa_nil)) (pa_cons (pe_callTy (call_list_ofK (K := K) rfl) (by rfl) T.z_list (by decide +kernel) (pa_cons (pv 4) pa_nil)) (pa_cons (pe_callTy (call_list_ofK (K := K) rfl) (by rfl) T.z_list (by decide +kernel) (pa_cons (pv 6) pa_nil)) (pa_cons (pe_callTy (call_list_ofK (K := K) rfl) (by rfl) T.z_list (by decide +kernel) (pa_cons (pv 7) pa_nil)) pa_nil))))))
      (pss_cons
      (ps_set (i := 12) sc_law.nd rfl (Or.inl rfl) (C8.pe_c C_law_outcome hr (by decide) (by rfl) (pa_cons (pe_ix (ix_listK (K := K) rfl) (pv 11) pe_int (fun _ _ => rfl)) (pa_cons (pe_ix (ix_listK (K := K) rfl) (pv 11) pe_int (fun _ _ => rfl)) (pa_cons (pv 5) (pa_cons (pe_ix (ix_listK (K := K) rfl) (pv 11) pe_int (fun _ _ => rfl)) (pa_cons (pe_ix (ix_listK (K := K) rfl) (pv 11) pe_int (fun _ _ => rfl)) (pa_cons (pv 8) (pa_cons (pe_cmpR op_eq (C8.pe_c C_law_take hr (by decide) (by rfl) (pa_cons (pv 1) (pa_cons pe_int pa_nil))) pe_int (nomark _)) pa_nil)))))))))
      (pss_cons
      (ps_if (pt_cmpR (op_neDK (K := K) rfl hr.units) (pv 11) (pe_lst (pa_cons (pv 3) (pa_cons (pv 4) (pa_cons (pv 6) (pa_cons (pv 7) pa_nil))))) (nomark _)) (pss_one
      (ps_ret pe_bl)) pss_nil)
      (pss_cons
      (ps_if (pt_cmpR op_lt (pv 9) pe_int (nomark _)) (pss_one
      (ps_ret (pe_cmpR op_isN (pv 12) pe_non (nomark _)))) pss_nil)
      (pss_cons
      (ps_expr (pe_bm PySem.F.plainAttrs_list PySem.F.slot_list_append PySem.F.type_list_append mt_append (pe_ix (ix_listK (K := K) rfl) (pv 11) pe_int (fun _ _ => rfl)) (pa_cons pe_str pa_nil)))
      (pss_cons
      (ps_expr (pe_bm PySem.F.plainAttrs_list PySem.F.slot_list_append PySem.F.type_list_append mt_append (pe_ix (ix_listK (K := K) rfl) (pv 11) pe_int (fun _ _ => rfl)) (pa_cons (pe_tup (pa_cons pe_str pa_nil)) pa_nil)))
      (pss_cons
      (ps_expr (pe_bm PySem.F.plainAttrs_list PySem.F.slot_list_append PySem.F.type_list_append mt_append (pe_ix (ix_listK (K := K) rfl) (pv 11) pe_int (fun _ _ => rfl)) (pa_cons (pe_tup (pa_cons pe_str pa_nil)) pa_nil)))
      (pss_cons
      (ps_if (pt_not (pt_val (C8.pe_c C_law_is_spec hr (by decide) (by rfl) (pa_cons (pv 12) (pa_cons (pv 3) (pa_cons (pv 4) (pa_cons (pv 5) (pa_cons (pv 6) (pa_cons (pv 7) (pa_cons (pv 8) pa_nil)))))))))) (pss_one
      (ps_ret pe_bl)) pss_nil)
      (pss_cons
      (ps_set (i := 13) sc_law.nd rfl (Or.inl rfl) (C8.pe_c C_dual hr (by decide) (by rfl) (pa_cons (pv 12) pa_nil)))
      (pss_cons
      (ps_if (pt_not (pt_val (C8.pe_c C_law_is_spec hr (by decide) (by rfl) (pa_cons (pv 13) (pa_cons (pv 4) (pa_cons (pv 3) (pa_cons (pe_op op_sub (pe_un un_neg pe_int) (pv 5)) (pa_cons (pv 6) (pa_cons (pv 7) (pa_cons (pe_not (pv 8)) pa_nil)))))))))) (pss_one
      (ps_ret pe_bl)) pss_nil)
      (pss_one
      (ps_ret (C8.pe_c C_law_is_spec hr (by decide) (by rfl) (pa_cons (C8.pe_c C_dual hr (by decide) (by rfl) (pa_cons (pv 13) pa_nil)) (pa_cons (pv 3) (pa_cons (pv 4) (pa_cons (pv 5) (pa_cons (pv 6) (pa_cons (pv 7) (pa_cons (pv 8) pa_nil)))))))))))))))))))))))))))))))))), ?_⟩
    refine ⟨_, rfl, a, ns, 200, rfl, hS, by decide, fun H1 d s1 hd0 hd1 => ?_⟩
    refine ⟨_, rfl, d, 6, rfl, hd1, by decide, by decide, fun H2 n nm k2 d2 nd2 hn2 hnl hok hnd hng => ?_⟩
    have h6 : nm.length = 6 := hnl
    clear hd0 hd1 s1 k2
    refine ⟨_, rfl, _, rfl, d, 4, rfl, d2, by decide, fun r ds r0 r1 => ?_⟩
    have k3 : Kp d H2 (upd H2 d (.lst (ds.map V.int))) := Kp.own
    have d3 : Drw (upd H2 d (.lst (ds.map V.int))) d := Drw.own
    have hn3 := k3 _ _ nd2 hn2
    generalize upd H2 d (.lst (ds.map V.int)) = H3 at k3 d3 hn3 ⊢
    obtain ⟨rk, rfl⟩ : ∃ rk : Nat, r = (rk : Int) := ⟨r.toNat, by omega⟩
    refine ⟨_, rfl, n, _, rfl, .of hn3, fun i hi => ?_⟩
    rw [cut_to, ← List.map_take]
    have s4 := same_new (o := .lst ((nm.take rk).map V.str)) hi
    have e4 := upd_same (H := H3) (a := i) (o := .lst ((nm.take rk).map V.str))
    have d4 := d3.new (o := .lst ((nm.take rk).map V.str)) hi
    have nid : i ≠ d := fun e => by
      obtain ⟨ys, hy⟩ := d3
      rw [e, hy] at hi
      cases hi
    have hn4 := s4 _ _ hn3
    generalize upd H3 i (.lst ((nm.take rk).map V.str)) = H4 at s4 e4 d4 hn4 ⊢
    refine ⟨_, rfl, _, rfl, _, rfl, d, 4, rfl, d4, by decide, fun r2 ds2 r20 r21 => ?_⟩
    have k5 : Kp d H4 (upd H4 d (.lst (ds2.map V.int))) := Kp.own
    have d5 : Drw (upd H4 d (.lst (ds2.map V.int))) d := Drw.own
    have hn5 := k5 _ _ nd2 hn4
    have e5 := k5 _ _ nid e4
    generalize upd H4 d (.lst (ds2.map V.int)) = H5 at k5 d5 hn5 e5 ⊢
    obtain ⟨rj, rfl⟩ : ∃ rj : Nat, r2 = (rj : Int) := ⟨r2.toNat, by omega⟩
    refine ⟨_, _, rfl, rfl, _, rfl, n, _, rfl, .of hn5, fun o ho => ?_⟩
    rw [show (3 : Int) + (rj : Int) = ((3 + rj : Nat) : Int) by omega, show (3 : Int) = ((3 : Nat) : Int) from rfl, cut_mid, ← List.map_drop, ← List.map_take]
    have s6 := same_new (o := .lst (((nm.drop 3).take rj).map V.str)) ho
    have e6o := upd_same (H := H5) (a := o) (o := .lst (((nm.drop 3).take rj).map V.str))
    have d6 := d5.new (o := .lst (((nm.drop 3).take rj).map V.str)) ho
    have nod : o ≠ d := fun e => by
      obtain ⟨ys, hy⟩ := d5
      rw [e, hy] at ho
      cases ho
    have e6 := s6 _ _ e5
    generalize upd H5 o (.lst (((nm.drop 3).take rj).map V.str)) = H6 at s6 e6 e6o d6 ⊢
    refine ⟨_, rfl, d, 6, rfl, d6, by decide, fun r3 ds3 r30 r31 => ?_⟩
    have k7 : Kp d H6 (upd H6 d (.lst (ds3.map V.int))) := Kp.own
    have d7 : Drw (upd H6 d (.lst (ds3.map V.int))) d := Drw.own
    have e7 := k7 _ _ nid e6
    have e7o := k7 _ _ nod e6o
    generalize upd H6 d (.lst (ds3.map V.int)) = H7 at k7 d7 e7 e7o ⊢
    refine ⟨_, _, rfl, rfl, ?_⟩
    have gd : GoodS (nm.take rk) ((nm.drop 3).take rj) (r3 - 3) := good_take h6 hnd hng (by omega) (by omega) (by omega) (by omega)
    have okn : ∀ s ∈ nm.take rk ++ (nm.drop 3).take rj, s ∈ nm := fun s hs => (List.mem_append.mp hs).elim List.mem_of_mem_take (fun h => List.mem_of_mem_drop (List.mem_of_mem_take h))
    have li := gd.li
    have lo := gd.lo
    generalize nm.take rk = ins at e7 gd okn li ⊢
    generalize (nm.drop 3).take rj = outs at e7o gd okn lo ⊢
    clear k3 d3 hn3 s4 e4 d4 hn4 k5 d5 hn5 e5 s6 e6 e6o d6 k7 hn2 d2
    have okS : ∀ s ∈ ins ++ outs, PyData.strOk s = true ∧ s.length ≤ 10 := fun s hs => ⟨hok s (okn s hs), Nat.le_trans (hng s (okn s hs)).2 (by decide)⟩
    have okL : ∀ s ∈ ins ++ outs, PyData.strOk s = true := fun s hs => (okS s hs).1
    have hlen : (ins ++ outs).length ≤ 6 := by rw [List.length_append]; omega
    -- the assumptions
    refine ⟨_, rfl, d, 3, rfl, d7, by decide, fun m ms m0 m1 => ?_⟩
    have k8 : Kp d H7 (upd H7 d (.lst (ms.map V.int))) := Kp.own
    have d8 : Drw (upd H7 d (.lst (ms.map V.int))) d := Drw.own
    have e8 := k8 _ _ nid e7
    have e8o := k8 _ _ nod e7o
    generalize upd H7 d (.lst (ms.map V.int)) = H8 at k8 d8 e8 e8o ⊢
    clear k8 d7 e7 e7o
    refine ⟨_, rfl, by omega, by omega, fun A hA => ?_⟩
    have nAd : A ≠ d := fun e => by
      obtain ⟨ys, hy⟩ := d8
      rw [e, hy] at hA
      cases hA
    refine lc_range (lo := 0) (n := m.toNat) (fun j H' => ∃ (vs : List V) (ps : List Pr), Kp d H8 H' ∧ Drw H' d ∧ H' A = some (.lst vs) ∧ PvsAt K H' vs ps ∧ vs.length = j ∧ ∀ p ∈ ps, PrL p) ⟨[], [], Kp.new hA, d8.new hA, upd_same, trivial, rfl, fun p hp => by (cases hp)⟩ ?_ ?_
    · rintro j H9 hj ⟨vs, ps, k9, d9, e9, p9, l9, o9⟩
      refine ⟨rfl, _, rfl, _, rfl, _, rfl, i, o, _, _, rfl, rfl, k9 _ _ nid e8, k9 _ _ nod e8o, by rw [List.length_map, List.length_map]; exact Nat.le_trans (show ins.length + outs.length ≤ 6 by omega) (by decide), fun c hc => ?_⟩
      have s10 := same_new (o := .lst (ins.map V.str ++ outs.map V.str)) hc
      have e10 : (upd H9 c (.lst (ins.map V.str ++ outs.map V.str))) c = some (.lst ((ins ++ outs).map V.str)) := by rw [upd_same, List.map_append]
      have k10 : Kp d H9 (upd H9 c (.lst (ins.map V.str ++ outs.map V.str))) := Kp.new hc
      have d10 := d9.new (o := .lst (ins.map V.str ++ outs.map V.str)) hc
      have ncd : c ≠ d := fun e => by
        obtain ⟨ys, hy⟩ := d9
        rw [e, hy] at hc
        cases hc
      have eA10 := s10 _ _ e9
      have p10 := p9.same s10
      generalize upd H9 c (.lst (ins.map V.str ++ outs.map V.str)) = H10 at s10 e10 k10 d10 eA10 p10 ⊢
      obtain ⟨ys10, hy10⟩ := id d10
      refine ⟨d, c, ins ++ outs, 2, rfl, d10, ncd, e10, by omega, by decide, by decide, fun H11 v g k11 d11 F11 W11 Z11 => ?_⟩
      have eA11 := k11 _ _ nAd eA10
      have p11 := p10.kp hy10 k11
      have kD : Kp A H11 (upd H11 A (.lst (vs ++ [v]))) := Kp.own
      refine ⟨vs, eA11, Nat.lt_of_le_of_lt (show vs.length ≤ 3 by omega) (by decide), vs ++ [v], ps ++ [.f g], fun b u nb hb => ?_, ?_, upd_same, PvsAt.snoc (p := .f g) (PvAt.kp (p := .f g) eA11 kD F11) (p11.kp eA11 kD), by simp [l9], fun p hp => ?_⟩
      · have nbA : b ≠ A := fun e => by rw [e, hA] at hb; cases hb
        rw [upd_ne nbA]
        exact k11 _ _ nb (k10 _ _ nb (k9 _ _ nb hb))
      · obtain ⟨ys, hy⟩ := d11
        exact ⟨ys, by rw [upd_ne nAd.symm]; exact hy⟩
      · rcases List.mem_append.mp hp with h | h
        · exact o9 p h
        · rw [List.mem_singleton.mp h]; exact prL_f okL W11 (Nat.le_trans Z11.2 (by decide))
    rintro H9 ⟨as, ps, k9, d9, e9, p9, l9, o9⟩
    have e9i := k9 _ _ nid e8
    have e9o := k9 _ _ nod e8o
    have l9' : as.length ≤ 3 := by omega
    clear k9 e8 e8o d8 l9
    -- the guarantees
    refine ⟨_, rfl, d, 3, rfl, d9, by decide, fun m2 ms2 m20 m21 => ?_⟩
    obtain ⟨ys9, hy9⟩ := id d9
    have k10 : Kp d H9 (upd H9 d (.lst (ms2.map V.int))) := Kp.own
    have d10 : Drw (upd H9 d (.lst (ms2.map V.int))) d := Drw.own
    have e10i := k10 _ _ nid e9i
    have e10o := k10 _ _ nod e9o
    have e10A := k10 _ _ nAd e9
    have p10 := p9.kp hy9 k10
    generalize upd H9 d (.lst (ms2.map V.int)) = H10 at k10 d10 e10i e10o e10A p10 ⊢
    clear k10 e9i e9o e9 p9 hy9 d9
    refine ⟨_, rfl, by omega, by omega, fun G hG => ?_⟩
    have nGd : G ≠ d := fun e => by
      obtain ⟨ys, hy⟩ := d10
      rw [e, hy] at hG
      cases hG
    have nGA : G ≠ A := fun e => by rw [e, e10A] at hG; cases hG
    refine lc_range (lo := 0) (n := m2.toNat) (fun j H' => ∃ (vs : List V) (qs : List Pr), Kp d H10 H' ∧ Drw H' d ∧ H' G = some (.lst vs) ∧ PvsAt K H' vs qs ∧ PvsAt K H' as ps ∧ vs.length = j ∧ ∀ p ∈ qs, PrL p) ⟨[], [], Kp.new hG, d10.new hG, upd_same, trivial, p10.same (same_new hG), rfl, fun p hp => by (cases hp)⟩ ?_ ?_
    · rintro j H11 hj ⟨vs, qs, k11, d11, e11, q11, p11, l11, o11⟩
      refine ⟨rfl, _, rfl, _, rfl, _, rfl, i, o, _, _, rfl, rfl, k11 _ _ nid e10i, k11 _ _ nod e10o, by rw [List.length_map, List.length_map]; exact Nat.le_trans (show ins.length + outs.length ≤ 6 by omega) (by decide), fun c hc => ?_⟩
      have s12 := same_new (o := .lst (ins.map V.str ++ outs.map V.str)) hc
      have e12 : (upd H11 c (.lst (ins.map V.str ++ outs.map V.str))) c = some (.lst ((ins ++ outs).map V.str)) := by rw [upd_same, List.map_append]
      have k12 : Kp d H11 (upd H11 c (.lst (ins.map V.str ++ outs.map V.str))) := Kp.new hc
      have d12 := d11.new (o := .lst (ins.map V.str ++ outs.map V.str)) hc
      have ncd : c ≠ d := fun e => by
        obtain ⟨ys, hy⟩ := d11
        rw [e, hy] at hc
        cases hc
      have eG12 := s12 _ _ e11
      have q12 := q11.same s12
      have p12 := p11.same s12
      generalize upd H11 c (.lst (ins.map V.str ++ outs.map V.str)) = H12 at s12 e12 k12 d12 eG12 q12 p12 ⊢
      obtain ⟨ys12, hy12⟩ := id d12
      refine ⟨d, c, ins ++ outs, rfl, d12, ncd, e12, by omega, okL, fun H13 v p k13 d13 P13 L13 => ?_⟩
      have eG13 := k13 _ _ nGd eG12
      have q13 := q12.kp hy12 k13
      have p13 := p12.kp hy12 k13
      have kD : Kp G H13 (upd H13 G (.lst (vs ++ [v]))) := Kp.own
      refine ⟨vs, eG13, Nat.lt_of_le_of_lt (show vs.length ≤ 3 by omega) (by decide), vs ++ [v], qs ++ [p], fun b u nb hb => ?_, ?_, upd_same, PvsAt.snoc (P13.kp eG13 kD) (q13.kp eG13 kD), p13.kp eG13 kD, by simp [l11], fun p' hp => ?_⟩
      · have nbG : b ≠ G := fun e => by rw [e, hG] at hb; cases hb
        rw [upd_ne nbG]
        exact k13 _ _ nb (k12 _ _ nb (k11 _ _ nb hb))
      · obtain ⟨ys, hy⟩ := d13
        exact ⟨ys, by rw [upd_ne nGd.symm]; exact hy⟩
      · rcases List.mem_append.mp hp with h | h
        · exact o11 p' h
        · rw [List.mem_singleton.mp h]; exact L13
    rintro H11 ⟨gs, qs, k11, d11, e11, q11, p11, l11, o11⟩
    have X11 : Pt46 K H11 d i o A G ins outs as gs ps qs := ⟨d11, k11 _ _ nid e10i, k11 _ _ nod e10o, k11 _ _ nAd e10A, e11, ⟨nid, nod, nAd, nGd⟩, p11, q11, o9, o11, l9', by omega, by omega, by omega, okS⟩
    clear k11 e10i e10o e10A e11 q11 p11 d11 d10 p10
    -- negated, spoilt
    refine ⟨_, rfl, d, 2, rfl, X11.dr, by decide, fun r6 ds6 r60 r61 => ?_⟩
    have X12 : Pt46 K (upd H11 d (.lst (ds6.map V.int))) d i o A G ins outs as gs ps qs := X11.kp Kp.own Drw.own
    generalize upd H11 d (.lst (ds6.map V.int)) = H12 at X12 ⊢
    refine ⟨rfl, ?_⟩
    refine ⟨_, rfl, d, 15, rfl, X12.dr, by decide, fun sp ds7 sp0 sp1 => ?_⟩
    have X13 : Pt46 K (upd H12 d (.lst (ds7.map V.int))) d i o A G ins outs as gs ps qs := X12.kp Kp.own Drw.own
    generalize upd H12 d (.lst (ds7.map V.int)) = H13 at X13 ⊢
    clear X11 X12
    generalize decide (V.int r6 = V.int 0) = ng
    have gd0 := gd
    generalize r3 - ((3 : Nat) : Int) = L0 at gd0 ⊢
    refine ⟨fun σ H' => ∃ (i o : Addr) (ins outs : List Str) (L : Int) (w10 : Option V), σ = [some (.ref a), some (.ref d), some (.ref n), some (.ref i), some (.ref o), some (.int L), some (.ref A), some (.ref G), some (.bl ng), some (.int sp), w10, none, none, none, none] ∧ Pt46 K H' d i o A G ins outs as gs ps qs ∧ (sp < 1 → ¬ GoodS ins outs L) ∧ (1 ≤ sp → GoodS ins outs L), ?_, ?_⟩
    · refine ⟨_, rfl, rfl, _, rfl, ite_eq (fun c => ?_) (fun c => ?_)⟩
      · refine ⟨by show 4 ≤ sizeLine; decide, fun p hp => ⟨p, o, L4a, outs, _, none, rfl, X13.withi (same_new hp) upd_same (dr_ne X13.dr hp) (by decide) (fun z hz => bad_ok z (List.mem_append_right _ hz)), fun _ g => absurd g.li (by decide), fun h => by omega⟩⟩
      · exact ⟨i, o, ins, outs, _, none, rfl, X13, fun h => by omega, fun _ => gd⟩
    clear gd gd0 X13 li lo okn okS okL hlen
    rintro σ H14 ⟨i, o, ins, outs, L, w10, rfl, X, g1, g2⟩
    refine ⟨fun σ H' => ∃ (i o : Addr) (ins outs : List Str) (L : Int) (w10 : Option V), σ = [some (.ref a), some (.ref d), some (.ref n), some (.ref i), some (.ref o), some (.int L), some (.ref A), some (.ref G), some (.bl ng), some (.int sp), w10, none, none, none, none] ∧ Pt46 K H' d i o A G ins outs as gs ps qs ∧ (sp < 2 → ¬ GoodS ins outs L) ∧ (2 ≤ sp → GoodS ins outs L), ?_, ?_⟩
    · refine ⟨_, rfl, rfl, _, rfl, ite_eq (fun c => ?_) (fun c => ?_)⟩
      · refine ⟨by show 4 ≤ sizeLine; decide, fun p hp => ⟨i, p, ins, L4a, _, w10, rfl, X.witho (same_new hp) upd_same (dr_ne X.dr hp) (by decide) (fun z hz => bad_ok z (List.mem_append_right _ hz)), fun _ g => absurd g.lo (by decide), fun h => by omega⟩⟩
      · exact ⟨i, o, ins, outs, L, w10, rfl, X, fun h => g1 (by omega), fun h => g2 (by omega)⟩
    clear g1 g2 X
    rintro σ H15 ⟨i, o, ins, outs, L, w10, rfl, X, g1, g2⟩
    refine ⟨fun σ H' => ∃ (i o : Addr) (ins outs : List Str) (L : Int) (w10 : Option V), σ = [some (.ref a), some (.ref d), some (.ref n), some (.ref i), some (.ref o), some (.int L), some (.ref A), some (.ref G), some (.bl ng), some (.int sp), w10, none, none, none, none] ∧ Pt46 K H' d i o A G ins outs as gs ps qs ∧ (sp < 3 → ¬ GoodS ins outs L) ∧ (3 ≤ sp → GoodS ins outs L), ?_, ?_⟩
    · refine ⟨_, rfl, rfl, _, rfl, ite_eq (fun c => ?_) (fun c => ?_)⟩
      · refine ⟨by show 12 ≤ sizeLine; decide, fun b hb => ?_⟩
        have s16 := same_new (o := .lst [.str "", .str "A", .str "1a", .str "a b", .str "true", .str "exists", .str "a_b", .str "aB", .str "false", .str "forall", .str " a", .str "a-"]) hb
        have e16 := upd_same (H := H15) (a := b) (o := .lst [.str "", .str "A", .str "1a", .str "a b", .str "true", .str "exists", .str "a_b", .str "aB", .str "false", .str "forall", .str " a", .str "a-"])
        have nbd := dr_ne X.dr hb
        have X16 := X.same s16
        generalize upd H15 b (.lst [.str "", .str "A", .str "1a", .str "a b", .str "true", .str "exists", .str "a_b", .str "aB", .str "false", .str "forall", .str " a", .str "a-"]) = H16 at s16 e16 X16 ⊢
        refine ⟨_, rfl, _, rfl, i, _, rfl, .of X16.hi, fun p1 hp1 => ?_⟩
        rw [show (2 : Int) = ((2 : Nat) : Int) from rfl, cut_to, ← List.map_take]
        have s17 := same_new (o := .lst ((ins.take 2).map V.str)) hp1
        have e17 := upd_same (H := H16) (a := p1) (o := .lst ((ins.take 2).map V.str))
        have nd1 := dr_ne X16.dr hp1
        have X17 := X16.same s17
        have e17b := s17 _ _ e16
        generalize upd H16 p1 (.lst ((ins.take 2).map V.str)) = H17 at s17 e17 X17 e17b ⊢
        refine ⟨_, rfl, _, rfl, d, 12, rfl, X17.dr, by decide, fun u us u0 u1 => ?_⟩
        have k18 : Kp d H17 (upd H17 d (.lst (us.map V.int))) := Kp.own
        have X18 := X17.kp k18 Drw.own
        have e18 := k18 _ _ nd1 e17
        have e18b := k18 _ _ nbd e17b
        generalize upd H17 d (.lst (us.map V.int)) = H18 at k18 X18 e18 e18b ⊢
        obtain ⟨z, hz, hat⟩ := pick_at (ss := BAD) (i := u) u0 (by show u < 12; exact u1)
        refine ⟨b, _, _, .str z, rfl, rfl, .of e18b, hat, sz1, fun p2 hp2 => ?_⟩
        have s19 := same_new (o := .lst [.str z]) hp2
        have e19 := s19 _ _ e18
        have e19b := upd_same (H := H18) (a := p2) (o := .lst [.str z])
        have X19 := X18.same s19
        generalize upd H18 p2 (.lst [.str z]) = H19 at s19 e19 e19b X19 ⊢
        refine ⟨p1, p2, _, _, rfl, rfl, e19, e19b, by rw [List.length_map, List.length_take]; exact Nat.le_trans (show min 2 ins.length + 1 ≤ 3 by omega) (by decide), fun p3 hp3 => ?_⟩
        refine ⟨p3, o, ins.take 2 ++ [z], outs, _, _, rfl, X19.withi (same_new hp3) (by rw [upd_same, List.map_append]; rfl) (dr_ne X19.dr hp3) (by rw [List.length_append, List.length_take]; show min 2 ins.length + 1 ≤ 10; omega) (fun y hy => ?_), fun _ => bad_nm (x := z) (by simp) (bad_no z hz), fun h => by omega⟩
        rcases List.mem_append.mp hy with hy | hy
        · exact X19.ok y (List.mem_append_left _ (List.mem_of_mem_take hy))
        · rw [List.mem_singleton.mp hy]; exact bad_ok z (List.mem_append_left _ hz)
      · exact ⟨i, o, ins, outs, L, w10, rfl, X, fun h => g1 (by omega), fun h => g2 (by omega)⟩
    clear g1 g2 X
    rintro σ H16 ⟨i, o, ins, outs, L, w10, rfl, X, g1, g2⟩
    refine ⟨fun σ H' => ∃ (i o : Addr) (ins outs : List Str) (L : Int) (w10 : Option V), σ = [some (.ref a), some (.ref d), some (.ref n), some (.ref i), some (.ref o), some (.int L), some (.ref A), some (.ref G), some (.bl ng), some (.int sp), w10, none, none, none, none] ∧ Pt46 K H' d i o A G ins outs as gs ps qs ∧ (sp < 4 → ¬ GoodS ins outs L) ∧ (4 ≤ sp → GoodS ins outs L), ?_, ?_⟩
    · refine ⟨_, rfl, rfl, _, rfl, ite_eq (fun c => ?_) (fun c => ?_)⟩
      · have a1ok := bad_ok "a1" (by decide)
        refine ⟨_, rfl, _, rfl, o, _, rfl, .of X.ho, fun p1 hp1 => ?_⟩
        rw [show (2 : Int) = ((2 : Nat) : Int) from rfl, cut_to, ← List.map_take]
        have s17 := same_new (o := .lst ((outs.take 2).map V.str)) hp1
        have e17 := upd_same (H := H16) (a := p1) (o := .lst ((outs.take 2).map V.str))
        have X17 := X.same s17
        generalize upd H16 p1 (.lst ((outs.take 2).map V.str)) = H17 at s17 e17 X17 ⊢
        have li := X.ni
        have lo := X.no
        refine ⟨_, rfl, _, rfl, i, o, _, _, rfl, rfl, X17.hi, X17.ho, by rw [List.length_map, List.length_map]; exact Nat.le_trans (show ins.length + outs.length ≤ 20 by omega) (by decide), fun p2 hp2 => ⟨sz1, fun p3 hp3 => ?_⟩⟩
        have s19 := (same_new (o := .lst (ins.map V.str ++ outs.map V.str)) hp2).trans (same_new (o := .lst [.str "a1"]) hp3)
        have e19a := s19 _ _ e17
        have e19b : (upd (upd H17 p2 (.lst (ins.map V.str ++ outs.map V.str))) p3 (.lst [.str "a1"])) p2 = some (.lst (ins.map V.str ++ outs.map V.str)) := (same_new hp3) _ _ upd_same
        have e19c := upd_same (H := upd H17 p2 (.lst (ins.map V.str ++ outs.map V.str))) (a := p3) (o := .lst [.str "a1"])
        have X19 := X17.same s19
        generalize upd (upd H17 p2 (.lst (ins.map V.str ++ outs.map V.str))) p3 (.lst [.str "a1"]) = H19 at s19 e19a e19b e19c X19 ⊢
        refine ⟨p2, p3, _, _, rfl, rfl, e19b, e19c, by rw [List.length_append, List.length_map, List.length_map]; exact Nat.le_trans (show ins.length + outs.length + 1 ≤ 21 by omega) (by decide), fun p4 hp4 => ?_⟩
        have s20 := same_new (o := .lst (ins.map V.str ++ outs.map V.str ++ [.str "a1"])) hp4
        have e20 : (upd H19 p4 (.lst (ins.map V.str ++ outs.map V.str ++ [.str "a1"]))) p4 = some (.lst ((ins ++ outs ++ A1).map V.str)) := by rw [upd_same, List.map_append, List.map_append]; rfl
        have e20a := s20 _ _ e19a
        have X20 := X19.same s20
        generalize upd H19 p4 (.lst (ins.map V.str ++ outs.map V.str ++ [.str "a1"])) = H20 at s20 e20 e20a X20 ⊢
        refine ⟨_, rfl, p4, _, rfl, .of e20, fun p5 hp5 => ?_⟩
        rw [show (1 : Int) = ((1 : Nat) : Int) from rfl, cut_to, ← List.map_take]
        have s21 := same_new (o := .lst (((ins ++ outs ++ A1).take 1).map V.str)) hp5
        have e21 := upd_same (H := H20) (a := p5) (o := .lst (((ins ++ outs ++ A1).take 1).map V.str))
        have e21a := s21 _ _ e20a
        have X21 := X20.same s21
        generalize upd H20 p5 (.lst (((ins ++ outs ++ A1).take 1).map V.str)) = H21 at s21 e21 e21a X21 ⊢
        refine ⟨p1, p5, _, _, rfl, rfl, e21a, e21, by rw [List.length_map, List.length_map, List.length_take, List.length_take]; exact Nat.le_trans (Nat.add_le_add (Nat.min_le_left 2 _) (Nat.min_le_left 1 _)) (by decide), fun p6 hp6 => ?_⟩
        have ok6 : ∀ y ∈ outs.take 2 ++ (ins ++ outs ++ A1).take 1, PyData.strOk y = true ∧ y.length ≤ 10 := fun y hy => by
          rcases List.mem_append.mp hy with hy | hy
          · exact X.ok y (List.mem_append_right _ (List.mem_of_mem_take hy))
          · rcases List.mem_append.mp (List.mem_of_mem_take hy) with hy | hy
            · exact X.ok y hy
            · rw [List.mem_singleton.mp hy]; exact a1ok
        have X22 := X21.witho (outs' := outs.take 2 ++ (ins ++ outs ++ A1).take 1) (same_new hp6) (by rw [upd_same, List.map_append]) (dr_ne X21.dr hp6) (by rw [List.length_append, List.length_take, List.length_take]; omega) ok6
        generalize upd H21 p6 (.lst ((outs.take 2).map V.str ++ ((ins ++ outs ++ A1).take 1).map V.str)) = H22 at X22 ⊢
        generalize outs.take 2 ++ (ins ++ outs ++ A1).take 1 = outs2 at X22 ok6 ⊢
        refine ⟨_, rfl, sz1, fun p7 hp7 => ?_⟩
        have s23 := same_new (o := .lst [.str "a1"]) hp7
        have e23 := upd_same (H := H22) (a := p7) (o := .lst [.str "a1"])
        have X23 := X22.same s23
        generalize upd H22 p7 (.lst [.str "a1"]) = H23 at s23 e23 X23 ⊢
        refine ⟨i, p7, _, _, rfl, rfl, X23.hi, e23, by rw [List.length_map]; exact Nat.le_trans (show ins.length + 1 ≤ 20 by omega) (by decide), fun p8 hp8 => ?_⟩
        have s24 := same_new (o := .lst (ins.map V.str ++ [.str "a1"])) hp8
        have e24 : (upd H23 p8 (.lst (ins.map V.str ++ [.str "a1"]))) p8 = some (.lst ((ins ++ A1).map V.str)) := by rw [upd_same, List.map_append]; rfl
        have X24 := X23.same s24
        generalize upd H23 p8 (.lst (ins.map V.str ++ [.str "a1"])) = H24 at s24 e24 X24 ⊢
        refine ⟨_, rfl, p8, _, rfl, .of e24, fun p9 hp9 => ?_⟩
        rw [cut_to, ← List.map_take]
        obtain ⟨x, hx⟩ : ∃ x, (ins ++ A1).take 1 = [x] := by
          cases ins with
          | nil => exact ⟨"a1", rfl⟩
          | cons y r => exact ⟨y, rfl⟩
        have okx : PyData.strOk x = true ∧ x.length ≤ 10 := by
          have hm : x ∈ ins ++ A1 := List.mem_of_mem_take (i := 1) (by rw [hx]; exact List.mem_singleton.mpr rfl)
          rcases List.mem_append.mp hm with hm | hm
          · exact X.ok x (List.mem_append_left _ hm)
          · rw [List.mem_singleton.mp hm]; exact a1ok
        rw [hx]
        have X25 := X24.withi (ins' := [x]) (same_new hp9) upd_same (dr_ne X24.dr hp9) (show 1 ≤ 10 by decide) (fun y hy => by rw [List.mem_singleton.mp hy]; exact okx)
        generalize upd H24 p9 (.lst ([x].map V.str)) = H25 at X25 ⊢
        refine ⟨_, rfl, _, rfl, p6, _, rfl, .of X25.ho, fun q1 hq1 => ?_⟩
        rw [cut_to, ← List.map_take]
        have s26 := same_new (o := .lst ((outs2.take 2).map V.str)) hq1
        have e26 := upd_same (H := H25) (a := q1) (o := .lst ((outs2.take 2).map V.str))
        have X26 := X25.same s26
        generalize upd H25 q1 (.lst ((outs2.take 2).map V.str)) = H26 at s26 e26 X26 ⊢
        refine ⟨_, rfl, q1, p9, _, _, rfl, rfl, e26, X26.hi, by rw [List.length_map, List.length_map, List.length_take]; exact Nat.le_trans (show min 2 outs2.length + 1 ≤ 3 by omega) (by decide), fun q2 hq2 => ?_⟩
        refine ⟨p9, q2, [x], outs2.take 2 ++ [x], _, _, rfl, X26.witho (same_new hq2) (by rw [upd_same, List.map_append]) (dr_ne X26.dr hq2) (by rw [List.length_append, List.length_take]; show min 2 outs2.length + 1 ≤ 10; omega) (fun y hy => ?_), fun _ => bad_dup (x := x) (by simp) (by simp), fun h => by omega⟩
        rcases List.mem_append.mp hy with hy | hy
        · exact ok6 y (List.mem_of_mem_take hy)
        · rw [List.mem_singleton.mp hy]; exact okx
      · exact ⟨i, o, ins, outs, L, w10, rfl, X, fun h => g1 (by omega), fun h => g2 (by omega)⟩
    clear g1 g2 X
    rintro σ H17 ⟨i, o, ins, outs, L, w10, rfl, X, g1, g2⟩
    refine ⟨fun σ H' => ∃ (i o : Addr) (ins outs : List Str) (L : Int) (w10 : Option V), σ = [some (.ref a), some (.ref d), some (.ref n), some (.ref i), some (.ref o), some (.int L), some (.ref A), some (.ref G), some (.bl ng), some (.int sp), w10, none, none, none, none] ∧ Pt46 K H' d i o A G ins outs as gs ps qs ∧ (sp < 5 → ¬ GoodS ins outs L) ∧ (5 ≤ sp → GoodS ins outs L), ?_, ?_⟩
    · refine ⟨_, rfl, rfl, _, rfl, ite_eq (fun c => ?_) (fun c => ?_)⟩
      · refine ⟨_, rfl, by show 3 ≤ sizeLine; decide, fun b hb => ?_⟩
        have s19 := same_new (o := .lst [.int (-4), .int 3, .int 10]) hb
        have e19 := upd_same (H := H17) (a := b) (o := .lst [.int (-4), .int 3, .int 10])
        have nbd := dr_ne X.dr hb
        have X19 := X.same s19
        generalize upd H17 b (.lst [.int (-4), .int 3, .int 10]) = H19 at s19 e19 X19 ⊢
        refine ⟨_, rfl, d, 3, rfl, X19.dr, by decide, fun u us u0 u1 => ?_⟩
        have k20 : Kp d H19 (upd H19 d (.lst (us.map V.int))) := Kp.own
        have X20 := X19.kp k20 Drw.own
        have e20 := k20 _ _ nbd e19
        generalize upd H19 d (.lst (us.map V.int)) = H20 at k20 X20 e20 ⊢
        obtain ⟨z, hz, hat⟩ := at3 u0 u1
        exact ⟨b, _, _, .int z, rfl, rfl, .of e20, hat, i, o, ins, outs, z, w10, rfl, X20, fun _ g => by have := g.l0; have := g.l1; omega, fun h => by omega⟩
      · exact ⟨i, o, ins, outs, L, w10, rfl, X, fun h => g1 (by omega), fun h => g2 (by omega)⟩
    clear g1 g2 X
    rintro σ H18 ⟨i, o, ins, outs, L, w10, rfl, X, g1, g2⟩
    -- the parts, copied
    have gq : sp < 5 ∨ 5 ≤ sp := by omega
    refine ⟨_, rfl, i, _, rfl, .inl (.of X.hi), fun b1 hb1 => ?_⟩
    have s19 := same_new (o := .lst (ins.map V.str)) hb1
    have e19 := upd_same (H := H18) (a := b1) (o := .lst (ins.map V.str))
    generalize upd H18 b1 (.lst (ins.map V.str)) = H19 at s19 e19 ⊢
    refine ⟨_, rfl, o, _, rfl, .inl (.of (s19 _ _ X.ho)), fun b2 hb2 => ?_⟩
    have s20 := same_new (o := .lst (outs.map V.str)) hb2
    have e20 := upd_same (H := H19) (a := b2) (o := .lst (outs.map V.str))
    have e20a := s20 _ _ e19
    have s18b := s19.trans s20
    generalize upd H19 b2 (.lst (outs.map V.str)) = H20 at s20 e20 e20a s18b ⊢
    refine ⟨_, rfl, A, _, rfl, .inl (.of (s18b _ _ X.hA)), fun b3 hb3 => ?_⟩
    have s21 := same_new (o := .lst as) hb3
    have e21 := upd_same (H := H20) (a := b3) (o := .lst as)
    have e21a := s21 _ _ e20a
    have e21b := s21 _ _ e20
    have s18c := s18b.trans s21
    generalize upd H20 b3 (.lst as) = H21 at s21 e21 e21a e21b s18c ⊢
    refine ⟨_, rfl, G, _, rfl, .inl (.of (s18c _ _ X.hG)), fun b4 hb4 => ?_⟩
    have s22 := same_new (o := .lst gs) hb4
    have e22 := upd_same (H := H21) (a := b4) (o := .lst gs)
    have e22a := s22 _ _ e21a
    have e22b := s22 _ _ e21b
    have e22c := s22 _ _ e21
    have s18d := s18c.trans s22
    generalize upd H21 b4 (.lst gs) = H22 at s22 e22 e22a e22b e22c s18d ⊢
    refine ⟨by show 4 ≤ sizeLine; decide, fun pa hpa => ?_⟩
    have s23 := same_new (o := .lst [.ref b1, .ref b2, .ref b3, .ref b4]) hpa
    have epa := upd_same (H := H22) (a := pa) (o := .lst [.ref b1, .ref b2, .ref b3, .ref b4])
    have e1 := s23 _ _ e22a
    have e2 := s23 _ _ e22b
    have e3 := s23 _ _ e22c
    have e4 := s23 _ _ e22
    have s18 := s18d.trans s23
    generalize upd H22 pa (.lst [.ref b1, .ref b2, .ref b3, .ref b4]) = H23 at s23 epa e1 e2 e3 e4 s18 ⊢
    -- what is new is none of the old
    have nw : ∀ {z u : _}, H18 z = some u → z ≠ b1 ∧ z ≠ b2 ∧ z ≠ b3 ∧ z ≠ b4 ∧ z ≠ pa := fun {z u} hz => ⟨ne_of_none hz hb1, ne_of_none (s19 _ _ hz) hb2, ne_of_none (s18b _ _ hz) hb3, ne_of_none (s18c _ _ hz) hb4, ne_of_none (s18d _ _ hz) hpa⟩
    have n13 : b1 ≠ b3 := ne_of_none (s20 _ _ e19) hb3
    have n14 : b1 ≠ b4 := ne_of_none e21a hb4
    have n34 : b3 ≠ b4 := ne_of_none e21 hb4
    have n1p : b1 ≠ pa := ne_of_none e22a hpa
    have n3p : b3 ≠ pa := ne_of_none e22c hpa
    have n4p : b4 ≠ pa := ne_of_none e22 hpa
    have X23 := X.same s18
    clear hb1 hb2 hb3 hb4 hpa e19 e20 e20a e21 e21a e21b e22 e22a e22b e22c s19 s20 s21 s22 s23 s18b s18c s18d
    -- the outcome
    refine ⟨_, rfl, pa, _, _, _, rfl, rfl, .of epa, rfl, ?_⟩
    refine ⟨_, rfl, pa, _, _, _, rfl, rfl, .of epa, rfl, ?_⟩
    refine ⟨_, rfl, _, rfl, pa, _, _, _, rfl, rfl, .of epa, rfl, ?_⟩
    refine ⟨_, rfl, pa, _, _, _, rfl, rfl, .of epa, rfl, ?_⟩
    refine ⟨_, rfl, _, rfl, d, 2, rfl, X23.dr, by decide, fun u us u0 u1 => ?_⟩
    have nd1 : b1 ≠ d := fun e => (nw X.dr.choose_spec).1 e.symm
    have nd2' : b2 ≠ d := fun e => (nw X.dr.choose_spec).2.1 e.symm
    have nd3 : b3 ≠ d := fun e => (nw X.dr.choose_spec).2.2.1 e.symm
    have nd4 : b4 ≠ d := fun e => (nw X.dr.choose_spec).2.2.2.1 e.symm
    have ndp : pa ≠ d := fun e => (nw X.dr.choose_spec).2.2.2.2 e.symm
    have k24 : Kp d H23 (upd H23 d (.lst (us.map V.int))) := Kp.own
    have X24 := X23.kp k24 Drw.own
    have f1 := k24 _ _ nd1 e1
    have f2 := k24 _ _ nd2' e2
    have f3 := k24 _ _ nd3 e3
    have f4 := k24 _ _ nd4 e4
    have fp := k24 _ _ ndp epa
    generalize upd H23 d (.lst (us.map V.int)) = H24 at k24 X24 f1 f2 f3 f4 fp ⊢
    refine ⟨rfl, ?_⟩
    dsimp only [tNil]
    have li := X.ni
    have lo := X.no
    have lA := X.nA
    have lG := X.nG
    refine out_q (.inl f1) (.inl f2) (.inl f3) (.inl f4) (by omega) (by omega) (by omega) (by omega) (fun s hs => Nat.le_trans (X.ok s hs).2 (by decide)) fun sv H25 s25 hsv => ?_
    have X25 := X24.same s25
    have h1 := s25 _ _ f1
    have h2 := s25 _ _ f2
    have h3 := s25 _ _ f3
    have h4 := s25 _ _ f4
    have hp := s25 _ _ fp
    clear X23 X24 e1 e2 e3 e4 epa f1 f2 f3 f4 fp
    -- what was passed stays
    refine ⟨_, rfl, _, rfl, _, rfl, _, rfl, _, rfl, by show 4 ≤ sizeLine; decide, fun c hc => ?_⟩
    have s26 := same_new (o := .lst [.ref i, .ref o, .ref A, .ref G]) hc
    have ec := upd_same (H := H25) (a := c) (o := .lst [.ref i, .ref o, .ref A, .ref G])
    have X26 := X25.same s26
    have h1 := s26 _ _ h1
    have h2 := s26 _ _ h2
    have h3 := s26 _ _ h3
    have h4 := s26 _ _ h4
    have hp := s26 _ _ hp
    have hsv : (¬ GoodS ins outs L ∧ sv = .non) ∨ (GoodS ins outs L ∧ ∃ x, sv = .ref x ∧ SpcAt C (upd H25 c (.lst [.ref i, .ref o, .ref A, .ref G])) x ins outs L as gs ng) := hsv.imp id fun ⟨g, x, e, S⟩ => ⟨g, x, e, S.same s26⟩
    generalize upd H25 c (.lst [.ref i, .ref o, .ref A, .ref G]) = H26 at s26 ec X26 h1 h2 h3 h4 hp hsv ⊢
    have okS : ∀ s ∈ ins ++ outs, PyData.strOk s = true := fun s hs => (X.ok s hs).1
    obtain ⟨c1, d1⟩ := lay_L (lay_strs (ss := ins) fun s hs => okS s (List.mem_append_left _ hs))
    obtain ⟨c2, d2⟩ := lay_L (lay_strs (ss := outs) fun s hs => okS s (List.mem_append_right _ hs))
    obtain ⟨c3, d3⟩ := lay_L (lay_prs X.lA)
    obtain ⟨c4, d4⟩ := lay_L (lay_prs X.lG)
    obtain ⟨cl, sh⟩ := shaped4 c1 c2 c3 c4 (by omega) (by omega) (by omega) (by omega)
    refine ⟨_, _, .lst (.of hp) (.cons (.lst (.of h1) (dp_strs ins)) (.cons (.lst (.of h2) (dp_strs outs)) (.cons (.lst (.of h3) (dp_prs X26.pA)) (.cons (.lst (.of h4) (dp_prs X26.pG)) .nil)))),
      .lst (.of ec) (.cons (.lst (.of X26.hi) (dp_strs ins)) (.cons (.lst (.of X26.ho) (dp_strs outs)) (.cons (.lst (.of X26.hA) (dp_prs X26.pA)) (.cons (.lst (.of X26.hG) (dp_prs X26.pG)) .nil)))), sh, sh, _, rfl, ?_⟩
    rw [SeqAt.eqv_refl _ cl]
    refine iteF ?_
    refine ⟨_, rfl, _, _, rfl, rfl, _, rfl, ite_lt (fun c5 => ?_) (fun c5 => ?_)⟩
    · have e : sv = .non := hsv.elim (fun z => z.2) (fun z => absurd z.1 (g1 c5))
      subst e
      refine ⟨_, rfl, rfl, ?_⟩
      rw [show decide (V.non = V.non) = true by simp]
      exact q _
    obtain ⟨gd, x, rfl, S26⟩ : GoodS ins outs L ∧ ∃ x, sv = .ref x ∧ SpcAt C H26 x ins outs L as gs ng := hsv.elim (fun z => absurd (g2 c5) z.1) id
    -- the lists change
    have off : ∀ {b : Addr}, (∀ {z u : _}, H18 z = some u → z ≠ b) → i ≠ b ∧ o ≠ b ∧ A ≠ b ∧ G ≠ b ∧ d ≠ b := fun {b} nb => ⟨nb X.hi, nb X.ho, nb X.hA, nb X.hG, nb X.dr.choose_spec⟩
    refine ⟨_, rfl, pa, _, _, _, rfl, rfl, .of hp, rfl, .inl ⟨rfl, _, .of h1⟩, b1, _, .str "late", rfl, rfl, h1, by rw [List.length_map]; exact Nat.lt_of_le_of_lt li (by decide), ?_⟩
    have kb1 : Kp b1 H26 (upd H26 b1 (.lst (ins.map V.str ++ [.str "late"]))) := Kp.own
    have X27 := X26.off h1 kb1 (off fun h => (nw h).1)
    have S27 := S26.kp h1 kb1
    have h3 := kb1 _ _ n13.symm h3
    have h4 := kb1 _ _ n14.symm h4
    have hp := kb1 _ _ n1p.symm hp
    generalize upd H26 b1 (.lst (ins.map V.str ++ [.str "late"])) = H27 at kb1 X27 S27 h3 h4 hp ⊢
    refine ⟨_, rfl, pa, _, _, _, rfl, rfl, .of hp, rfl, .inl ⟨rfl, _, .of h3⟩, sz1, fun t ht => ?_⟩
    have s28 := same_new (o := .tup [.str "true"]) ht
    have X28 := X27.same s28
    have S28 := S27.same s28
    have h3 := s28 _ _ h3
    have h4 := s28 _ _ h4
    have hp := s28 _ _ hp
    generalize upd H27 t (.tup [.str "true"]) = H28 at s28 X28 S28 h3 h4 hp ⊢
    refine ⟨b3, _, .ref t, rfl, rfl, h3, Nat.lt_of_le_of_lt lA (by decide), ?_⟩
    have kb3 : Kp b3 H28 (upd H28 b3 (.lst (as ++ [.ref t]))) := Kp.own
    have X29 := X28.off h3 kb3 (off fun h => (nw h).2.2.1)
    have S29 := S28.kp h3 kb3
    have h4 := kb3 _ _ n34.symm h4
    have hp := kb3 _ _ n3p.symm hp
    generalize upd H28 b3 (.lst (as ++ [.ref t])) = H29 at kb3 X29 S29 h4 hp ⊢
    refine ⟨_, rfl, pa, _, _, _, rfl, rfl, .of hp, rfl, .inl ⟨rfl, _, .of h4⟩, sz1, fun t2 ht2 => ?_⟩
    have s30 := same_new (o := .tup [.str "false"]) ht2
    have X30 := X29.same s30
    have S30 := S29.same s30
    have h4 := s30 _ _ h4
    generalize upd H29 t2 (.tup [.str "false"]) = H30 at s30 X30 S30 h4 ⊢
    refine ⟨b4, _, .ref t2, rfl, rfl, h4, Nat.lt_of_le_of_lt lG (by decide), ?_⟩
    have kb4 : Kp b4 H30 (upd H30 b4 (.lst (gs ++ [.ref t2]))) := Kp.own
    have X31 := X30.off h4 kb4 (off fun h => (nw h).2.2.2.1)
    have S31 := S30.kp h4 kb4
    generalize upd H30 b4 (.lst (gs ++ [.ref t2])) = H31 at kb4 X31 S31 ⊢
    clear X26 X27 X28 X29 X30 S26 S27 S28 S29 S30 h1 h2 h3 h4 hp
    -- the specification, its dual, and the dual of that
    have okR : ∀ s ∈ outs ++ ins, PyData.strOk s = true := fun s hs => okS s (by rw [List.mem_append] at hs ⊢; exact hs.symm)
    have lS : ∀ s ∈ ins ++ outs, s.length ≤ 100 := fun s hs => Nat.le_trans (X.ok s hs).2 (by decide)
    have lR : ∀ s ∈ outs ++ ins, s.length ≤ 100 := fun s hs => lS s (by rw [List.mem_append] at hs ⊢; exact hs.symm)
    refine ⟨_, rfl, _, rfl, _, rfl, _, rfl, _, rfl, _, rfl, _, rfl, x, i, o, A, G, ins, outs, L, as, gs, ps, qs, ng, rfl, S31, X31.hi, X31.ho, X31.hA, X31.hG, X31.pA, X31.pG, X31.lA, X31.lG, gd.li, gd.lo, okS, fun H32 s32 => ⟨_, rfl, iteF ?_⟩⟩
    have X32 := X31.same s32
    refine ⟨_, rfl, x, ins, outs, L, as, gs, ng, rfl, S31.same s32, gd, by omega, by omega, lS, fun H33 y s33 Y33 => ?_⟩
    have X33 := X32.same s33
    have gd2 := good_dual gd
    refine ⟨_, rfl, _, rfl, _, rfl, _, rfl, _, rfl, _, _, rfl, rfl, _, rfl, _, rfl, _, rfl, _, rfl, y, o, i, A, G, outs, ins, -1 - L, as, gs, ps, qs, !ng, rfl, Y33, X33.ho, X33.hi, X33.hA, X33.hG, X33.pA, X33.pG, X33.lA, X33.lG, gd.lo, gd.li, okR, fun H34 s34 => ⟨_, rfl, iteF ?_⟩⟩
    have X34 := X33.same s34
    refine ⟨_, rfl, y, outs, ins, -1 - L, as, gs, !ng, rfl, Y33.same s34, gd2, by omega, by omega, lR, fun H35 z s35 Z35 => ?_⟩
    have X35 := X34.same s35
    rw [show -1 - (-1 - L) = L by omega, Bool.not_not] at Z35
    exact ⟨_, rfl, _, rfl, _, rfl, _, rfl, _, rfl, _, rfl, z, i, o, A, G, ins, outs, L, as, gs, ps, qs, ng, rfl, Z35, X35.hi, X35.ho, X35.hA, X35.hG, X35.pA, X35.pG, X35.lA, X35.lG, gd.li, gd.lo, okS, fun H36 s36 => q _⟩
end

theorem all_mk {l : PySem.W.OpenLaw} {w : World} {K : PySem.W.Frag} {h : Heap} {mg : Str → Option Value} {fa : Addr} {f0 f1 f2 f3 f4 f5 f6 f7 f8 f9 f10 f11 f12 f13 f14 aQ aN cS C fI pS gS kD : Addr} (X : K.In h) (G : h.Ns mainGlobals mg) (hfa : mg "law" = some (.ref fa))
    {od0 an0 od1 an1 od2 an2 od3 an3 od4 an4 od5 an5 od6 an6 od7 an7 od8 an8 od9 an9 od10 an10 od11 an11 od12 an12 od13 an13 od14 an14 : Option Addr} {sl0 sl1 sl2 sl3 sl4 sl5 sl6 sl7 sl8 sl9 sl10 sl11 sl12 sl13 sl14 : Array (Option Value)} {oc0 kV0 dc0 pm0 cd0 ct0 oc1 kV1 dc1 pm1 cd1 ct1 oc2 kV2 dc2 pm2 cd2 ct2 oc3 kV3 dc3 pm3 cd3 ct3 oc4 kV4 dc4 pm4 cd4 ct4 oc5 kV5 dc5 pm5 cd5 ct5 oc6 kV6 dc6 pm6 cd6 ct6 oc7 kV7 dc7 pm7 cd7 ct7 oc8 kV8 dc8 pm8 cd8 ct8 oc9 kV9 dc9 pm9 cd9 ct9 oc10 kV10 dc10 pm10 cd10 ct10 oc11 kV11 dc11 pm11 cd11 ct11 oc12 kV12 dc12 pm12 cd12 ct12 oc13 kV13 dc13 pm13 cd13 ct13 oc14 kV14 dc14 pm14 cd14 ct14 : Value} {dQ dN : Option Addr} {slQ slN : Array (Option Value)} {nQ nN : Nat} {tQ0 tQ1 tN0 tN1 : Tok} {odI anI : Option Addr} {slI : Array (Option Value)} {ocI dcI pmI cdI ctI : Value} {odS anS : Option Addr} {slS : Array (Option Value)} {ocS kVS dcS pmS cdS ctS : Value} {tk1 tk2 tk3 tk4 tk5 : Tok} {rS : List Value}
    (a0 : PySem.W.nsIn K mainGlobals "word_at" = some (some (.ref f0))) (l0 : K.lookup f0 = some ⟨oc0, od0, .func (PySem.W.fnOf "word_at" "word_at" (defArgs s_word_at) (defBody s_word_at) (defScope s_word_at) .none kV0 dc0 pm0 an0 cd0 ct0), sl0⟩) (c0 : PySem.W.codeIn K cd0 "word_at" = true) (k0 : PySem.W.keepIn K (.ref f0) = true)
    (a1 : PySem.W.nsIn K mainGlobals "is_reserved" = some (some (.ref f1))) (l1 : K.lookup f1 = some ⟨oc1, od1, .func (PySem.W.fnOf "is_reserved" "is_reserved" (defArgs s_is_reserved) (defBody s_is_reserved) (defScope s_is_reserved) .none kV1 dc1 pm1 an1 cd1 ct1), sl1⟩) (c1 : PySem.W.codeIn K cd1 "is_reserved" = true) (k1 : PySem.W.keepIn K (.ref f1) = true)
    (a2 : PySem.W.nsIn K mainGlobals "is_name" = some (some (.ref f2))) (l2 : K.lookup f2 = some ⟨oc2, od2, .func (PySem.W.fnOf "is_name" "is_name" (defArgs s_is_name) (defBody s_is_name) (defScope s_is_name) .none kV2 dc2 pm2 an2 cd2 ct2), sl2⟩) (c2 : PySem.W.codeIn K cd2 "is_name" = true) (k2 : PySem.W.keepIn K (.ref f2) = true)
    (a3 : PySem.W.nsIn K mainGlobals "dual" = some (some (.ref f3))) (l3 : K.lookup f3 = some ⟨oc3, od3, .func (PySem.W.fnOf "dual" "dual" (defArgs s_dual) (defBody s_dual) (defScope s_dual) .none kV3 dc3 pm3 an3 cd3 ct3), sl3⟩) (c3 : PySem.W.codeIn K cd3 "dual" = true) (k3 : PySem.W.keepIn K (.ref f3) = true)
    (a4 : PySem.W.nsIn K mainGlobals "_law_draws" = some (some (.ref f4))) (l4 : K.lookup f4 = some ⟨oc4, od4, .func (PySem.W.fnOf "_law_draws" "_law_draws" (defArgs s_law_draws) (defBody s_law_draws) (defScope s_law_draws) .none kV4 dc4 pm4 an4 cd4 ct4), sl4⟩) (c4 : PySem.W.codeIn K cd4 "_law_draws" = true) (k4 : PySem.W.keepIn K (.ref f4) = true)
    (a5 : PySem.W.nsIn K mainGlobals "_law_take" = some (some (.ref f5))) (l5 : K.lookup f5 = some ⟨oc5, od5, .func (PySem.W.fnOf "_law_take" "_law_take" (defArgs s_law_take) (defBody s_law_take) (defScope s_law_take) .none kV5 dc5 pm5 an5 cd5 ct5), sl5⟩) (c5 : PySem.W.codeIn K cd5 "_law_take" = true) (k5 : PySem.W.keepIn K (.ref f5) = true)
    (a6 : PySem.W.nsIn K mainGlobals "_law_is_integer" = some (some (.ref f6))) (l6 : K.lookup f6 = some ⟨oc6, od6, .func (PySem.W.fnOf "_law_is_integer" "_law_is_integer" (defArgs s_law_is_integer) (defBody s_law_is_integer) (defScope s_law_is_integer) .none kV6 dc6 pm6 an6 cd6 ct6), sl6⟩) (c6 : PySem.W.codeIn K cd6 "_law_is_integer" = true) (k6 : PySem.W.keepIn K (.ref f6) = true)
    (a7 : PySem.W.nsIn K mainGlobals "_law_name" = some (some (.ref f7))) (l7 : K.lookup f7 = some ⟨oc7, od7, .func (PySem.W.fnOf "_law_name" "_law_name" (defArgs s_law_name) (defBody s_law_name) (defScope s_law_name) .none kV7 dc7 pm7 an7 cd7 ct7), sl7⟩) (c7 : PySem.W.codeIn K cd7 "_law_name" = true) (k7 : PySem.W.keepIn K (.ref f7) = true)
    (a8 : PySem.W.nsIn K mainGlobals "_law_names" = some (some (.ref f8))) (l8 : K.lookup f8 = some ⟨oc8, od8, .func (PySem.W.fnOf "_law_names" "_law_names" (defArgs s_law_names) (defBody s_law_names) (defScope s_law_names) .none kV8 dc8 pm8 an8 cd8 ct8), sl8⟩) (c8 : PySem.W.codeIn K cd8 "_law_names" = true) (k8 : PySem.W.keepIn K (.ref f8) = true)
    (a9 : PySem.W.nsIn K mainGlobals "_law_leaf" = some (some (.ref f9))) (l9 : K.lookup f9 = some ⟨oc9, od9, .func (PySem.W.fnOf "_law_leaf" "_law_leaf" (defArgs s_law_leaf) (defBody s_law_leaf) (defScope s_law_leaf) .none kV9 dc9 pm9 an9 cd9 ct9), sl9⟩) (c9 : PySem.W.codeIn K cd9 "_law_leaf" = true) (k9 : PySem.W.keepIn K (.ref f9) = true)
    (a10 : PySem.W.nsIn K mainGlobals "_law_formula" = some (some (.ref f10))) (l10 : K.lookup f10 = some ⟨oc10, od10, .func (PySem.W.fnOf "_law_formula" "_law_formula" (defArgs s_law_formula) (defBody s_law_formula) (defScope s_law_formula) .none kV10 dc10 pm10 an10 cd10 ct10), sl10⟩) (c10 : PySem.W.codeIn K cd10 "_law_formula" = true) (k10 : PySem.W.keepIn K (.ref f10) = true)
    (a11 : PySem.W.nsIn K mainGlobals "_law_property" = some (some (.ref f11))) (l11 : K.lookup f11 = some ⟨oc11, od11, .func (PySem.W.fnOf "_law_property" "_law_property" (defArgs s_law_property) (defBody s_law_property) (defScope s_law_property) .none kV11 dc11 pm11 an11 cd11 ct11), sl11⟩) (c11 : PySem.W.codeIn K cd11 "_law_property" = true) (k11 : PySem.W.keepIn K (.ref f11) = true)
    (a12 : PySem.W.nsIn K mainGlobals "_law_outcome" = some (some (.ref f12))) (l12 : K.lookup f12 = some ⟨oc12, od12, .func (PySem.W.fnOf "_law_outcome" "_law_outcome" (defArgs s_law_outcome) (defBody s_law_outcome) (defScope s_law_outcome) .none kV12 dc12 pm12 an12 cd12 ct12), sl12⟩) (c12 : PySem.W.codeIn K cd12 "_law_outcome" = true) (k12 : PySem.W.keepIn K (.ref f12) = true)
    (a13 : PySem.W.nsIn K mainGlobals "_law_is_spec" = some (some (.ref f13))) (l13 : K.lookup f13 = some ⟨oc13, od13, .func (PySem.W.fnOf "_law_is_spec" "_law_is_spec" (defArgs s_law_is_spec) (defBody s_law_is_spec) (defScope s_law_is_spec) .none kV13 dc13 pm13 an13 cd13 ct13), sl13⟩) (c13 : PySem.W.codeIn K cd13 "_law_is_spec" = true) (k13 : PySem.W.keepIn K (.ref f13) = true)
    (a14 : PySem.W.nsIn K mainGlobals "law" = some (some (.ref f14))) (l14 : K.lookup f14 = some ⟨oc14, od14, .func (PySem.W.fnOf "law" "law" (defArgs s_law) (defBody s_law) (defScope s_law) .none kV14 dc14 pm14 an14 cd14 ct14), sl14⟩) (c14 : PySem.W.codeIn K cd14 "law" = true) (k14 : PySem.W.keepIn K (.ref f14) = true)
    (z0 : PySem.W.nsIn K mainGlobals "all" = some none) (z1 : PySem.W.nsIn K mainGlobals "bool" = some none) (z2 : PySem.W.nsIn K mainGlobals "int" = some none) (z3 : PySem.W.nsIn K mainGlobals "isinstance" = some none) (z4 : PySem.W.nsIn K mainGlobals "len" = some none) (z5 : PySem.W.nsIn K mainGlobals "list" = some none) (z6 : PySem.W.nsIn K mainGlobals "min" = some none) (z7 : PySem.W.nsIn K mainGlobals "range" = some none) (z8 : PySem.W.nsIn K mainGlobals "set" = some none) (z9 : PySem.W.nsIn K mainGlobals "tuple" = some none) (gQa : PySem.W.nsIn K mainGlobals "QUANTIFIERS" = some (some (.ref aQ))) (gQb : K.lookup aQ = some ⟨.type "tuple", dQ, .seq #[.str "exists" tQ0, .str "forall" tQ1] nQ, slQ⟩) (gNa : PySem.W.nsIn K mainGlobals "CONSTANTS" = some (some (.ref aN))) (gNb : K.lookup aN = some ⟨.type "tuple", dN, .seq #[.str "true" tN0, .str "false" tN1] nN, slN⟩) (gc : PySem.W.nsIn K mainGlobals "LOWER_CASE" = some (some (.str "abcdefghijklmnopqrstuvwxyz" tk1))) (gd : PySem.W.nsIn K mainGlobals "DIGITS" = some (some (.str "0123456789" tk2))) (xa : PySem.W.nsIn K mainGlobals "InvalidSpec" = some (some (.ref cS))) (xb : PySem.W.excIn K cS [.type "ValueError", .type "Exception", .type "BaseException", .type "object"] "ValueError.__new__" = true) (xc : PySem.W.keepIn K (.ref cS) = true) (xd : PySem.W.typeIn K (.ref cS) = some (.type "type")) (xe : PySem.W.subIn K (.ref cS) (.ref cS) = some true) (xf : PySem.W.findIn K (.ref cS) "__getattribute__" = some (some (.builtin "BaseException.__getattribute__"))) (xg : PySem.W.findIn K (.ref cS) "__getattr__" = some none) (xh : PySem.W.subIn K (.ref cS) (.type "BaseException") = some true) (xi : PySem.W.hasDictIn K cS = true) (xj : PySem.W.findIn K (.ref cS) "__class__" = some (some (.builtin "object.__class__"))) (xk : PySem.W.specialIn K (.builtin "object.__class__") "__get__" = some (some (.builtin "getset_descriptor.__get__"))) (xl : PySem.W.takesIn K (.builtin "object.__class__") = some true) (xm : PySem.W.mroIn K cS (.type "object") = some true) (ya : PySem.W.nsIn K mainGlobals "Spec" = some (some (.ref C))) (yb : PySem.W.plainGet K C Str.empty = true) (yc : PySem.W.hasDictIn K C = true) (yd : PySem.W.plainOver K C = true) (ye : PySem.W.findIn K (.ref C) "__setattr__" = some (some (.builtin "object.__setattr__"))) (yf0 : PySem.W.findIn K (.ref C) "inputs" = some none) (yf1 : PySem.W.findIn K (.ref C) "outputs" = some none) (yf2 : PySem.W.findIn K (.ref C) "lead" = some none) (yf3 : PySem.W.findIn K (.ref C) "assumptions" = some none) (yf4 : PySem.W.findIn K (.ref C) "guarantees" = some none) (yf5 : PySem.W.findIn K (.ref C) "negated" = some none) (yj : PySem.W.makesIn K C = true) (yk : PySem.W.findIn K (.ref C) "__init__" = some (some (.ref fI))) (yl : PySem.W.isFn K (.ref fI) = true) (ym : PySem.W.keepIn K (.ref C) = true) (yn : K.lookup fI = some ⟨ocI, odI, .func (PySem.W.fnOf "__init__" "Spec.__init__" (defArgs s_Spec_init) (defBody s_Spec_init) (defScope s_Spec_init) .none (.ref kD) dcI pmI anI cdI ctI), slI⟩) (yo : PySem.W.codeIn K cdI "Spec.__init__" = true) (yp : PySem.W.keepIn K (.ref fI) = true) (yq : PySem.W.nsIn K kD "negated" = some (some (.bool false))) (sa : PySem.W.findIn K (.ref C) "signals" = some (some (.ref pS))) (sb : PySem.W.specialIn K (.ref pS) "__get__" = some (some (.builtin "property.__get__"))) (sc : PySem.W.takesIn K (.ref pS) = some true) (sd : PySem.W.recIn K pS "property" = some (.ref gS :: rS)) (sn : K.lookup gS = some ⟨ocS, odS, .func (PySem.W.fnOf "signals" "Spec.signals" (defArgs s_Spec_signals) (defBody s_Spec_signals) (defScope s_Spec_signals) .none kVS dcS pmS anS cdS ctS), slS⟩) (so : PySem.W.codeIn K cdS "Spec.signals" = true) (sp : PySem.W.keepIn K (.ref gS) = true) (ga : PySem.W.nsIn K mainGlobals "LEAST_LEAD" = some (some (.int (-3) tk3))) (gb : PySem.W.nsIn K mainGlobals "GREATEST_LEAD" = some (some (.int 2 tk4))) (ge : PySem.W.nsIn K mainGlobals "MOST_NAMES" = some (some (.int 3 tk5))) (qa : PySem.W.findIn K (.ref C) "__class__" = some (some (.builtin "object.__class__"))) (qb : PySem.W.specialIn K (.builtin "object.__class__") "__get__" = some (some (.builtin "getset_descriptor.__get__"))) (qc : PySem.W.takesIn K (.builtin "object.__class__") = some true) (qd : PySem.W.mroIn K C (.type "object") = some true) :
    ∃ fd : FuncData, (∀ (s : Shared) (v : Value), BindsTo s fd ⟨[v], []⟩ [("script", v)]) ∧ ∀ base : Heap, K.In base → base.Ns mainGlobals mg → FnOk l.prog w K mg base CX0 14 fa fd ["script"] (spLaw K) := by
  have e := hfa.symm.trans (PySem.W.mg_of X G a14)
  cases e
  have T : Txt K mg := ⟨⟨f0, _, fun_mk (st := s_word_at) l0 c0 k0, PySem.W.mg_of X G a0, (fun_mk (st := s_word_at) l0 c0 k0).binds fun _ _ _ _ _ _ us hl => match us, hl with | [_, _], _ => rfl⟩, ⟨f1, _, fun_mk (st := s_is_reserved) l1 c1 k1, PySem.W.mg_of X G a1, (fun_mk (st := s_is_reserved) l1 c1 k1).binds fun _ _ _ _ _ _ us hl => match us, hl with | [_], _ => rfl⟩, ⟨f2, _, fun_mk (st := s_is_name) l2 c2 k2, PySem.W.mg_of X G a2, (fun_mk (st := s_is_name) l2 c2 k2).binds fun _ _ _ _ _ _ us hl => match us, hl with | [_], _ => rfl⟩, ⟨f3, _, fun_mk (st := s_dual) l3 c3 k3, PySem.W.mg_of X G a3, (fun_mk (st := s_dual) l3 c3 k3).binds fun _ _ _ _ _ _ us hl => match us, hl with | [_], _ => rfl⟩, ⟨f4, _, fun_mk (st := s_law_draws) l4 c4 k4, PySem.W.mg_of X G a4, (fun_mk (st := s_law_draws) l4 c4 k4).binds fun _ _ _ _ _ _ us hl => match us, hl with | [_, _], _ => rfl⟩, ⟨f5, _, fun_mk (st := s_law_take) l5 c5 k5, PySem.W.mg_of X G a5, (fun_mk (st := s_law_take) l5 c5 k5).binds fun _ _ _ _ _ _ us hl => match us, hl with | [_, _], _ => rfl⟩, ⟨f6, _, fun_mk (st := s_law_is_integer) l6 c6 k6, PySem.W.mg_of X G a6, (fun_mk (st := s_law_is_integer) l6 c6 k6).binds fun _ _ _ _ _ _ us hl => match us, hl with | [_], _ => rfl⟩, ⟨f7, _, fun_mk (st := s_law_name) l7 c7 k7, PySem.W.mg_of X G a7, (fun_mk (st := s_law_name) l7 c7 k7).binds fun _ _ _ _ _ _ us hl => match us, hl with | [_, _], _ => rfl⟩, ⟨f8, _, fun_mk (st := s_law_names) l8 c8 k8, PySem.W.mg_of X G a8, (fun_mk (st := s_law_names) l8 c8 k8).binds fun _ _ _ _ _ _ us hl => match us, hl with | [_, _], _ => rfl⟩, ⟨f9, _, fun_mk (st := s_law_leaf) l9 c9 k9, PySem.W.mg_of X G a9, (fun_mk (st := s_law_leaf) l9 c9 k9).binds fun _ _ _ _ _ _ us hl => match us, hl with | [_, _], _ => rfl⟩, ⟨f10, _, fun_mk (st := s_law_formula) l10 c10 k10, PySem.W.mg_of X G a10, (fun_mk (st := s_law_formula) l10 c10 k10).binds fun _ _ _ _ _ _ us hl => match us, hl with | [_, _, _, _], _ => rfl⟩, ⟨f11, _, fun_mk (st := s_law_property) l11 c11 k11, PySem.W.mg_of X G a11, (fun_mk (st := s_law_property) l11 c11 k11).binds fun _ _ _ _ _ _ us hl => match us, hl with | [_, _, _, _, _], _ => rfl⟩, ⟨f12, _, fun_mk (st := s_law_outcome) l12 c12 k12, PySem.W.mg_of X G a12, (fun_mk (st := s_law_outcome) l12 c12 k12).binds fun _ _ _ _ _ _ us hl => match us, hl with | [_, _, _, _, _, _, _], _ => rfl⟩, ⟨f13, _, fun_mk (st := s_law_is_spec) l13 c13 k13, PySem.W.mg_of X G a13, (fun_mk (st := s_law_is_spec) l13 c13 k13).binds fun _ _ _ _ _ _ us hl => match us, hl with | [_, _, _, _, _, _, _], _ => rfl⟩, PySem.W.mg_none_of X G z0, PySem.W.mg_none_of X G z1, PySem.W.mg_none_of X G z2, PySem.W.mg_none_of X G z3, PySem.W.mg_none_of X G z4, PySem.W.mg_none_of X G z5, PySem.W.mg_none_of X G z6, PySem.W.mg_none_of X G z7, PySem.W.mg_none_of X G z8, PySem.W.mg_none_of X G z9, ⟨aQ, aN, cS, C, fI, pS, gS, _, _, tk1, tk2, tk3, tk4, tk5, ⟨PySem.W.mg_of X G gQa, fun H => .inr ⟨_, _, _, gQb, rfl, rfl, (show 2 ≤ sizeLine by decide), (.cons ⟨_, rfl⟩ (.cons ⟨_, rfl⟩ .nil))⟩⟩, ⟨PySem.W.mg_of X G gNa, fun H => .inr ⟨_, _, _, gNb, rfl, rfl, (show 2 ≤ sizeLine by decide), (.cons ⟨_, rfl⟩ (.cons ⟨_, rfl⟩ .nil))⟩⟩, PySem.W.mg_of X G gc, PySem.W.mg_of X G gd, ⟨PySem.W.mg_of X G xa, xb, xc, xd, xe, ⟨xf, xg, xh, xi, xj, xk, xl, xm⟩⟩, ⟨⟨yb, yc, yd, ye⟩, yf0, yf1, yf2, yf3, yf4, yf5⟩, ⟨yj, yk, yl, ym⟩, PySem.W.mg_of X G ya, ⟨⟨ocI, odI, .none, .ref kD, dcI, pmI, anI, cdI, ctI, slI, rfl, yn, yo, .inl ⟨rfl, rfl⟩, .inr ⟨kD, rfl, fun q hq => by rw [List.mem_singleton.mp hq]; exact ⟨_, yq, rfl⟩⟩⟩, yp⟩, ⟨sa, sb, sc, _, sd⟩, fun_mk (st := s_Spec_signals) sn so sp, (fun_mk (st := s_Spec_signals) sn so sp).binds fun _ _ _ _ _ _ us hl => match us, hl with | [_], _ => rfl, PySem.W.mg_of X G ga, PySem.W.mg_of X G gb, PySem.W.mg_of X G ge, ⟨⟨yb, yc, yd, ye⟩, qa, qb, qc, qd, (if_pos (beq_self_eq_true _))⟩⟩⟩
  exact ⟨_, fun s v => .of_eq rfl, fun base _ _ => ok_law (fun_mk (st := s_law) l14 c14 k14) T⟩
end My
open PySem PySem.W PyProof.Rows
set_option maxHeartbeats 0 in
theorem PySem.Challenge.cw_reactivesynth_k46_spec_and_dual_holds : PySem.Challenge.rw_reactivesynth_k46_spec_and_dual.Holds := by
  w_on; o_law; k_head; (case hw => w_witness2)
  k_fill
  refine L2.walk_of (l := PySem.Challenge.rw_reactivesynth_k46_spec_and_dual) (n := 63) (k := 14) (x := "script") (CX := fun _ => L2.CX0) (sp := fun w => My.spLaw _) rfl (by decide) rfl ⟨rfl, by decide, by decide⟩ (fun w h Y => PySem.W.kIn_of Y) ?F (fun _ _ a ns hl _ hS => ⟨a, ns, rfl, hS, hl, fun _ => rfl⟩) (fun _ _ _ _ _ h => h)
  case F =>
    intro w mg fa h KX G hmg
    refine' My.all_mk KX G hmg ?a0 ?l0 ?c0 ?k0 ?a1 ?l1 ?c1 ?k1 ?a2 ?l2 ?c2 ?k2 ?a3 ?l3 ?c3 ?k3 ?a4 ?l4 ?c4 ?k4 ?a5 ?l5 ?c5 ?k5 ?a6 ?l6 ?c6 ?k6 ?a7 ?l7 ?c7 ?k7 ?a8 ?l8 ?c8 ?k8 ?a9 ?l9 ?c9 ?k9 ?a10 ?l10 ?c10 ?k10 ?a11 ?l11 ?c11 ?k11 ?a12 ?l12 ?c12 ?k12 ?a13 ?l13 ?c13 ?k13 ?a14 ?l14 ?c14 ?k14 ?z0 ?z1 ?z2 ?z3 ?z4 ?z5 ?z6 ?z7 ?z8 ?z9 ?gQa ?gQb ?gNa ?gNb ?gc ?gd ?xa ?xb ?xc ?xd ?xe ?xf ?xg ?xh ?xi ?xj ?xk ?xl ?xm ?ya ?yb ?yc ?yd ?ye ?yf0 ?yf1 ?yf2 ?yf3 ?yf4 ?yf5 ?yj ?yk ?yl ?ym ?yn ?yo ?yp ?yq ?sa ?sb ?sc ?sd ?sn ?so ?sp ?ga ?gb ?ge ?qa ?qb ?qc ?qd
    (case a0 => k_is); (case l0 => k_is); (case c0 => k_is); (case k0 => k_is); (case a1 => k_is); (case l1 => k_is); (case c1 => k_is); (case k1 => k_is); (case a2 => k_is); (case l2 => k_is); (case c2 => k_is); (case k2 => k_is); (case a3 => k_is); (case l3 => k_is); (case c3 => k_is); (case k3 => k_is); (case a4 => k_is); (case l4 => k_is); (case c4 => k_is); (case k4 => k_is); (case a5 => k_is); (case l5 => k_is); (case c5 => k_is); (case k5 => k_is); (case a6 => k_is); (case l6 => k_is); (case c6 => k_is); (case k6 => k_is); (case a7 => k_is); (case l7 => k_is); (case c7 => k_is); (case k7 => k_is); (case a8 => k_is); (case l8 => k_is); (case c8 => k_is); (case k8 => k_is); (case a9 => k_is); (case l9 => k_is); (case c9 => k_is); (case k9 => k_is); (case a10 => k_is); (case l10 => k_is); (case c10 => k_is); (case k10 => k_is); (case a11 => k_is); (case l11 => k_is); (case c11 => k_is); (case k11 => k_is); (case a12 => k_is); (case l12 => k_is); (case c12 => k_is); (case k12 => k_is); (case a13 => k_is); (case l13 => k_is); (case c13 => k_is); (case k13 => k_is); (case a14 => k_is); (case l14 => k_is); (case c14 => k_is); (case k14 => k_is); (case z0 => k_is); (case z1 => k_is); (case z2 => k_is); (case z3 => k_is); (case z4 => k_is); (case z5 => k_is); (case z6 => k_is); (case z7 => k_is); (case z8 => k_is); (case z9 => k_is); (case gQa => k_is); (case gQb => k_is); (case gNa => k_is); (case gNb => k_is); (case gc => k_is); (case gd => k_is); (case xa => first | rfl | k_is); (case xb => first | k_exc | rfl | k_is); (case xc => first | rfl | k_is); (case xd => first | rfl | k_is); (case xe => first | rfl | k_is); (case xf => first | rfl | k_is); (case xg => first | rfl | k_is); (case xh => first | rfl | k_is); (case xi => first | rfl | k_is); (case xj => first | rfl | k_is); (case xk => first | rfl | k_is); (case xl => first | rfl | k_is); (case xm => first | rfl | k_is); (case ya => k_is); (case yb => k_is); (case yc => k_is); (case yd => k_is); (case ye => k_is); (case yf0 => k_is); (case yf1 => k_is); (case yf2 => k_is); (case yf3 => k_is); (case yf4 => k_is); (case yf5 => k_is); (case yj => k_is); (case yk => k_is); (case yl => k_is); (case ym => k_is); (case yn => k_is); (case yo => k_is); (case yp => k_is); (case yq => k_is); (case sa => k_is); (case sb => k_is); (case sc => k_is); (case sd => k_is); (case sn => k_is); (case so => k_is); (case sp => k_is); (case ga => k_is); (case gb => k_is); (case ge => k_is); (case qa => k_is); (case qb => k_is); (case qc => k_is); (case qd => k_is)
