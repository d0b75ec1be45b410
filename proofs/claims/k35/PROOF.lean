import PyProof.Rows.All
import Wide.All
import OpenK.AllK
import Wide.FinOn
import HandS.ForMost
import HandS.ForExc
import HandS.ExcIs
import HandS.ExcOwn
import HandS.WordsExc
import HandS.TryMany
import HandS.TryOnly
import HandS.Codes
import HandS.IsInst
import HandS.TupAny
import HandS.TupMul
import HandS.SortKw
import KE.KMinKey
import PyProof.WalksMore
import HandS.Dict
import HandS.Style
import HandS.Conv
import HandS.Walk
import HandS.Zip
import PyProof.AutoSeq1
import HandS.Text
import HandS.SetFor
import HandS.Strs
import HandS.Star
import HandS.MakeKwOnly
import HandS.Property
import HandS.Steps
import HandS.Defaults
import HandS.WideBits
import HandS.StrMore
import HandS.Replace
import HandS.Deep
import HandS.DictComp
import KE.GoesMore
import HandS.Iter
import PySem.Challenge.RW_reactivesynth_k35_choices_win
set_option Elab.async false
set_option linter.all false
set_option maxRecDepth 100000
set_option maxHeartbeats 4000000
namespace Wd
/-- m is the length of a proper border of the first k letters -/
def Bd (w : Nat → Int) (k m : Nat) : Prop := m < k ∧ ∀ i, i < m → w i = w (k - m + i)
/-- .. the greatest -/
def Lg (w : Nat → Int) (k m : Nat) : Prop := Bd w k m ∧ ∀ j, Bd w k j → j ≤ m
theorem Bd.zero {w : Nat → Int} {k : Nat} (h : 0 < k) : Bd w k 0 := ⟨h, fun i hi => absurd hi (Nat.not_lt_zero i)⟩
theorem Bd.down {w : Nat → Int} {k m : Nat} (h : Bd w (k + 1) (m + 1)) : Bd w k m ∧ w m = w k := by
  obtain ⟨h1, h2⟩ := h
  refine ⟨⟨by omega, fun i hi => ?_⟩, ?_⟩
  · have := h2 i (by omega)
    rw [this]
    congr 1
    omega
  · have := h2 m (by omega)
    rw [this]
    congr 1
    omega
theorem Bd.up {w : Nat → Int} {k m : Nat} (h : Bd w k m) (e : w m = w k) : Bd w (k + 1) (m + 1) := by
  obtain ⟨h1, h2⟩ := h
  refine ⟨by omega, fun i hi => ?_⟩
  rcases Nat.lt_or_ge i m with c | c
  · rw [h2 i c]
    congr 1
    omega
  · have : i = m := by omega
    subst this
    rw [e]
    congr 1
    omega
theorem Bd.inner {w : Nat → Int} {k b j : Nat} (h : Bd w k b) (g : Bd w k j) (l : j < b) : Bd w b j := by
  obtain ⟨h1, h2⟩ := h
  obtain ⟨g1, g2⟩ := g
  refine ⟨l, fun i hi => ?_⟩
  rw [g2 i hi, h2 (b - j + i) (by omega)]
  congr 1
  omega
theorem Bd.trans {w : Nat → Int} {k b j : Nat} (h : Bd w k b) (g : Bd w b j) : Bd w k j := by
  obtain ⟨h1, h2⟩ := h
  obtain ⟨g1, g2⟩ := g
  refine ⟨by omega, fun i hi => ?_⟩
  rw [g2 i hi, h2 (b - j + i) (by omega)]
  congr 1
  omega
/-- what the inner loop keeps: b is a border of the first k letters, and no border of the first k + 1 is longer than b + 1 -/
def In (w : Nat → Int) (k b : Nat) : Prop := Bd w k b ∧ ∀ j, Bd w (k + 1) (j + 1) → j ≤ b
theorem In.start {w : Nat → Int} {k b : Nat} (h : Lg w k b) : In w k b := ⟨h.1, fun j hj => h.2 j hj.down.1⟩
theorem In.step {w : Nat → Int} {k b c : Nat} (h : In w k b) (hb : 0 < b) (ne : w k ≠ w b) (g : Lg w b c) : In w k c ∧ c < b := by
  refine ⟨⟨h.1.trans g.1, fun j hj => ?_⟩, g.1.1⟩
  have h1 := h.2 j hj
  obtain ⟨h2, h3⟩ := hj.down
  have : j ≠ b := fun z => ne (by rw [← h3, z])
  exact g.2 j (h.1.inner h2 (by omega))
theorem In.found {w : Nat → Int} {k b : Nat} (h : In w k b) (e : w k = w b) : Lg w (k + 1) (b + 1) := by
  refine ⟨h.1.up e.symm, fun j hj => ?_⟩
  cases j with
  | zero => omega
  | succ j => exact Nat.succ_le_succ (h.2 j hj)
theorem In.none {w : Nat → Int} {k : Nat} (h : In w k 0) (ne : w k ≠ w 0) : Lg w (k + 1) 0 := by
  refine ⟨Bd.zero (by omega), fun j hj => ?_⟩
  cases j with
  | zero => omega
  | succ j =>
    have h1 := h.2 j hj
    have : j = 0 := by omega
    subst this
    exact absurd hj.down.2.symm ne
/-! periods -/
/-- the letters of the word without end that repeats the first n letters -/
def cyc (w : Nat → Int) (n i : Nat) : Int := w (i % n)
def Rp (w : Nat → Int) (n p : Nat) : Prop := ∀ i, cyc w n (i + p) = cyc w n i
theorem Rp.mul {w : Nat → Int} {n p : Nat} (h : Rp w n p) : ∀ k i, cyc w n (i + k * p) = cyc w n i
  | 0, i => by rw [Nat.zero_mul, Nat.add_zero]
  | k + 1, i => by
    rw [Nat.succ_mul, ← Nat.add_assoc, h, h.mul k i]
theorem Rp.mod {w : Nat → Int} {n p i : Nat} (h : Rp w n p) : cyc w n i = cyc w n (i % p) := by
  have := h.mul (i / p) (i % p)
  rw [Nat.mul_comm, Nat.mod_add_div] at this
  exact this
theorem cyc_lt {w : Nat → Int} {n i : Nat} (h : i < n) : cyc w n i = w i := by
  unfold cyc
  rw [Nat.mod_eq_of_lt h]
theorem rp_self (w : Nat → Int) (n : Nat) : Rp w n n := fun i => by
  unfold cyc
  rw [Nat.add_mod_right]
/-- a period of the finite word that divides its length is one of the word without end -/
theorem rp_of {w : Nat → Int} {n p : Nat} (hp : 0 < p) (hd : p ∣ n) (hn : 0 < n) (h : ∀ i, i + p < n → w i = w (i + p)) : Rp w n p := by
  have red : ∀ k i, i + k * p < n → w (i + k * p) = w i := by
    intro k
    induction k with
    | zero => intro i _; rw [Nat.zero_mul, Nat.add_zero]
    | succ k ih =>
      intro i hi
      rw [Nat.succ_mul] at hi ⊢
      rw [← Nat.add_assoc, ← h (i + k * p) (by omega)]
      exact ih i (by omega)
  have toMod : ∀ i, cyc w n i = w (i % p) := by
    intro i
    unfold cyc
    have h1 : i % n < n := Nat.mod_lt _ hn
    have e : i % n % p + (i % n / p) * p = i % n := by
      rw [Nat.mul_comm]
      exact Nat.mod_add_div _ _
    have h2 := red (i % n / p) (i % n % p) (by rw [e]; exact h1)
    rw [e] at h2
    rw [h2, Nat.mod_mod_of_dvd _ hd]
  intro i
  rw [toMod, toMod, Nat.add_mod_right]
/-- the least repetition: r divides n, the word repeats its first r letters, and no shorter one does -/
structure Least (w : Nat → Int) (n r : Nat) : Prop where
  pos : 0 < r
  dvd : r ∣ n
  rp : Rp w n r
  min : ∀ p, 0 < p → p ∣ n → Rp w n p → r ≤ p
theorem least_of {w : Nat → Int} {n b : Nat} (hn : 0 < n) (h : Lg w n b) : Least w n (if n % (n - b) = 0 then n - b else n) := by
  obtain ⟨⟨hb, h1⟩, h2⟩ := h
  have hs : 0 < n - b := by omega
  -- n - b is the least period of the finite word
  have per : ∀ i, i + (n - b) < n → w i = w (i + (n - b)) := fun i hi => by
    have := h1 i (by omega)
    rw [this]
    congr 1
    omega
  have low : ∀ p, 0 < p → p ≤ n → (∀ i, i + p < n → w i = w (i + p)) → n - b ≤ p := fun p hp hpn hq => by
    have := h2 (n - p) ⟨by omega, fun i hi => by
      have := hq i (by omega)
      rw [this]
      congr 1
      omega⟩
    omega
  have fin : ∀ p, Rp w n p → ∀ i, i + p < n → w i = w (i + p) := fun p hp i hi => by
    have := hp i
    rw [cyc_lt hi, cyc_lt (by omega)] at this
    exact this.symm
  -- a shorter repetition makes n - b a repetition
  have key : ∀ p, 0 < p → p ∣ n → p < n → Rp w n p → n % (n - b) = 0 ∧ n - b ≤ p := by
    intro p hp hd hlt hr
    have le := low p hp (by omega) (fin p hr)
    obtain ⟨q, hq⟩ := hd
    have hq2 : 2 ≤ q := by
      rcases Nat.lt_or_ge q 2 with c | c
      · have : q = 0 ∨ q = 1 := by omega
        rcases this with z | z
        · rw [z] at hq; omega
        · rw [z] at hq; omega
      · exact c
    have h2p : 2 * p ≤ n := by
      rw [hq, Nat.mul_comm 2 p]
      exact Nat.mul_le_mul_left p hq2
    have rs : Rp w n (n - b) := by
      intro i
      have e1 : cyc w n (i + (n - b)) = cyc w n (i % p + (n - b)) := by
        have := hr.mul (i / p) (i % p + (n - b))
        rw [← this]
        congr 1
        have := Nat.mod_add_div i p
        rw [Nat.mul_comm (i / p) p]
        omega
      have hm : i % p < p := Nat.mod_lt _ hp
      rw [e1, hr.mod (i := i), cyc_lt (show i % p + (n - b) < n by omega), cyc_lt (show i % p < n by omega)]
      exact (per _ (by omega)).symm
    -- p is a multiple of n - b
    have hmod : p % (n - b) = 0 := by
      rcases Nat.eq_zero_or_pos (p % (n - b)) with z | z
      · exact z
      · have lt : p % (n - b) < n - b := Nat.mod_lt _ hs
        have rm : Rp w n (p % (n - b)) := by
          intro i
          have a := rs.mul (p / (n - b)) (i + p % (n - b))
          have e : i + p % (n - b) + p / (n - b) * (n - b) = i + p := by
            rw [Nat.mul_comm, Nat.add_assoc, Nat.mod_add_div]
          rw [e] at a
          rw [← a]
          exact hr i
        have := low _ z (by omega) (fin _ rm)
        omega
    refine ⟨?_, le⟩
    exact Nat.mod_eq_zero_of_dvd (Nat.dvd_trans (Nat.dvd_of_mod_eq_zero hmod) ⟨q, hq⟩)
  by_cases c : n % (n - b) = 0
  · rw [if_pos c]
    refine ⟨hs, Nat.dvd_of_mod_eq_zero c, rp_of hs (Nat.dvd_of_mod_eq_zero c) hn per, fun p hp hd hr => ?_⟩
    exact low p hp (Nat.le_of_dvd hn hd) (fin p hr)
  · rw [if_neg c]
    refine ⟨hn, Nat.dvd_refl n, rp_self w n, fun p hp hd hr => ?_⟩
    have le := Nat.le_of_dvd hn hd
    rcases Nat.lt_or_ge p n with l | l
    · exact absurd (key p hp hd l hr).1 c
    · exact l
end Wd
/-! ### min(xs, default=d) of a list of ints: own rule -/
namespace MinD
open PySem PySem.W PyProof.Rows
def kwD (d : Value) : List (Str × Value) := [(Str.ofString "default", d)]
theorem nameL : (toString "min" ++ toString ".loop" : String) = "min.loop" := by decide
section
variable {prog : Program} {w : World} {A : Around} {R : Result → Shared → Prop} {I S : Addr} {fp wr : List Addr} {n : Nat} {P : Nat → Value → Prop} {St : Nat → Heap → Prop} {d : Value}
theorem loopD (W : Walks prog w A.in1 I fp wr n P St) (bt : Nat → Nat → Bool) (cm : CmpOf prog w A.in1 .Lt P bt) (nf : S ∉ fp) :
    ∀ (m j : Nat) (u : Shared) (best : Value) (c : Nat), n - (j + 1) = m → j + 1 ≤ n → St (j + 1) u.heap → P (argBest bt j) best →
    u.heap.get? S = some { cls := .type "list", dict := none, data := .seq #[best, best] c, slots := #[] } →
    (∀ v g tk, P (argBest bt (n - 1)) v → (∀ b o, b ∉ wr → b ≠ S → u.heap.get? b = some o → g.get? b = some o) → R (.ok (.ret v)) { u with heap := g, toks := tk }) →
    codeAny (model prog w) A (.builtin "min.loop" ⟨[.ref I, .none, .ref S], kwD d⟩) R u := by
  have nw : S ∉ wr := fun q => nf (W.sub _ q)
  intro m
  induction m with
  | zero =>
    intro j u best c em hj st pb gS out
    have ej : j + 1 = n := by omega
    refine codeAny_builtin PySem.F.entry_min_loop ?_
    rw [Around.under_plainId PySem.F.plain_min_loop _]
    show wpAny _ A.in1 (seqItems? (.ref S) >>= _) _ _ u
    refine wpAny_bind (wpAny_seqItems gS rfl ?_)
    show wpAny _ A.in1 (tryCatch (pyNext (.ref I)) _ >>= _) _ _ u
    refine wpAny_bind (wpAny_tryCatch (W.done u _ _ (ej ▸ st) fun g tk keep => ?_))
    have gS2 := keep S _ nw gS
    show wpAny _ A.in1 (updateSeq S (fun _ => #[]) >>= _) _ _ _
    refine wpAny_bind (wpAny_updateSeq gS2 rfl (wpAny_bind (wpAny_letGo (wpAny_pure ?_))))
    exact out best _ tk (by rw [← ej]; exact pb) fun b o hb hS e => (Heap.get?_update_other _ _ (Ne.symm hS)).trans (keep b o hb e)
  | succ m ih =>
    intro j u best c em hj st pb gS out
    have lt : j + 1 < n := by omega
    refine codeAny_builtin PySem.F.entry_min_loop ?_
    rw [Around.under_plainId PySem.F.plain_min_loop _]
    show wpAny _ A.in1 (seqItems? (.ref S) >>= _) _ _ u
    refine wpAny_bind (wpAny_seqItems gS rfl ?_)
    show wpAny _ A.in1 (tryCatch (pyNext (.ref I)) _ >>= _) _ _ u
    refine wpAny_bind (wpAny_tryCatch (W.item (j + 1) u _ _ lt st fun v g tk pv st2 keep => ?_))
    have gS2 := keep S _ nw gS
    show wpAny _ A.in1 (tryCatch (holding [v, v] (richCompare .Lt v best >>= _)) _ >>= _) _ _ _
    refine wpAny_bind (wpAny_tryCatch (wpAny_holding (wpAny_bind (cm (j + 1) (argBest bt j) v best _ _ _ pv pb ?_))))
    refine wpAny_bind (wpAny_holding (wpAny_truthy_bool (wpAny_bind (wpAny_letGo (wpAny_pure ?_)))))
    cases hb : bt (j + 1) (argBest bt j) with
    | true =>
      simp only [if_true]
      refine wpAny_bind (wpAny_updateSeq gS2 rfl (wpAny_bind (wpAny_letGo ?_)))
      rw [nameL]
      refine wpAny_pure ⟨plainId_quiet PySem.F.plain_min_loop _, ih (j + 1) _ v _ (by omega) lt (W.frame _ _ _ st2 fun b bf o e => ?_) (by simp only [argBest, hb, if_true]; exact pv) (Heap.get?_update_self _ gS2 rfl)
        fun v2 g2 tk2 p2 keep2 => ?_⟩
      · exact (Heap.get?_update_other _ _ (fun q : S = b => nf (by rw [q]; exact bf))).trans e
      · exact out v2 g2 tk2 p2 fun b o hw hS e => keep2 b o hw hS ((Heap.get?_update_other _ _ (Ne.symm hS)).trans (keep b o hw e))
    | false =>
      simp only [Bool.false_eq_true, if_false]
      refine wpAny_bind (wpAny_letGo ?_)
      rw [nameL]
      exact wpAny_pure ⟨plainId_quiet PySem.F.plain_min_loop _, ih (j + 1) _ best c (by omega) lt st2 (by simp only [argBest, hb, Bool.false_eq_true, if_false]; exact pb) gS2 fun v2 g2 tk2 p2 keep2 =>
        out v2 g2 tk2 p2 fun b o hw hS e => keep2 b o hw hS (keep b o hw e)⟩
theorem firstD (W : Walks prog w A.in1 I fp wr n P St) (bt : Nat → Nat → Bool) (cm : CmpOf prog w A.in1 .Lt P bt) (nf : S ∉ fp) {u : Shared} {c : Nat} (st : St 0 u.heap)
    (gS : u.heap.get? S = some { cls := .type "list", dict := none, data := .seq #[] c, slots := #[] })
    (out : ∀ v g tk, (0 < n → P (argBest bt (n - 1)) v) → (n = 0 → v = d) → (∀ b o, b ∉ wr → b ≠ S → u.heap.get? b = some o → g.get? b = some o) → R (.ok (.ret v)) { u with heap := g, toks := tk }) :
    codeAny (model prog w) A (.builtin "min.loop" ⟨[.ref I, .none, .ref S], kwD d⟩) R u := by
  have nw : S ∉ wr := fun q => nf (W.sub _ q)
  refine codeAny_builtin PySem.F.entry_min_loop ?_
  rw [Around.under_plainId PySem.F.plain_min_loop _]
  show wpAny _ A.in1 (seqItems? (.ref S) >>= _) _ _ u
  refine wpAny_bind (wpAny_seqItems gS rfl ?_)
  show wpAny _ A.in1 (tryCatch (pyNext (.ref I)) _ >>= _) _ _ u
  by_cases h0 : 0 < n
  · refine wpAny_bind (wpAny_tryCatch (W.item 0 u _ _ h0 st fun v g tk pv st2 keep => ?_))
    have gS2 := keep S _ nw gS
    show wpAny _ A.in1 (updateSeq S (fun _ => #[v, v]) >>= _) _ _ _
    refine wpAny_bind (wpAny_updateSeq gS2 rfl ?_)
    rw [nameL]
    refine wpAny_pure ⟨plainId_quiet PySem.F.plain_min_loop _, loopD W bt cm nf _ 0 _ v _ rfl h0 (W.frame _ _ _ st2 fun b bf o e => ?_) pv (Heap.get?_update_self _ gS2 rfl) fun v2 g2 tk2 p2 keep2 => ?_⟩
    · exact (Heap.get?_update_other _ _ (fun q : S = b => nf (by rw [q]; exact bf))).trans e
    · exact out v2 g2 tk2 (fun _ => p2) (fun z => by omega) fun b o hw hS e => keep2 b o hw hS ((Heap.get?_update_other _ _ (Ne.symm hS)).trans (keep b o hw e))
  · have e0 : n = 0 := by omega
    refine wpAny_bind (wpAny_tryCatch (W.done u _ _ (by rw [e0]; exact st) fun g tk keep => ?_))
    show wpAny _ A.in1 (rule _ >>= _) _ _ _
    refine wpAny_bind (wpAny_rule (wpAny_pure ?_))
    exact out d g tk (fun z => absurd z h0) (fun _ => rfl) fun b o hw _ e => keep b o hw e
end
section
variable {prog : Program} {w : World} {A : Around} {E : Value → Shared → Prop} {s : Shared} {d : Value}
theorem args_d (a v : Value) : argsOk "min" ⟨[a], kwD v⟩ := by
  unfold argsOk
  kernel_rfl
theorem callD {l : Addr} {xs : Array (Int × Tok)} {Q : Value → Shared → Prop} (hh : A.handled = none) (hl : s.heap.IsList l (intItems xs))
    (h : ∀ v g tk, (0 < xs.size → (intItems xs)[argBest (fun i j => decide (numAt xs i < numAt xs j)) (xs.size - 1)]? = some v) → (xs.size = 0 → v = d) → (∀ b o, s.heap.get? b = some o → g.get? b = some o) → Q v { s with heap := g, toks := tk }) :
    wpAny (model prog w) A (call (.builtin "min") [.ref l] (kwD d)) Q E s := by
  refine kmk_tree PySem.F.kind_min PySem.F.plain_min PySem.F.entry_min (args_d _ _) ?_
  show wpAny _ A.in1 (Builtin.Builtins.bindParams "min" ["key", "default"] 0 ⟨[], kwD d⟩ >>= _) _ _ s
  refine wpAny_bind (wpAny_of_eq (show Builtin.Builtins.bindParams "min" ["key", "default"] 0 ⟨[], kwD d⟩ = pure [none, some d] from rfl) ?_)
  refine wpAny_bind (wpAny_pure ?_)
  refine wpAny_bind (iter_intList hl fun u eu st hfp hlI => ?_)
  subst eu
  refine wpAny_bind (wpAny_newObj_type ?_)
  rw [nameL]
  refine wpAny_pure ⟨plainId_quiet PySem.F.plain_min_loop _, firstD (Walks.list (A := A.in1) hh _ l hlI (intItems xs)) _ (CmpOf.ints_lt (numAt xs) (fun _ _ => intItems_at)) (fun hm => Nat.lt_irrefl _ (hfp _ hm)) ?_ (Heap.get?_push_size _ rfl) fun v g tk p1 p2 keep => ?_⟩
  · exact (Walks.list (prog := prog) (w := w) (A := A.in1) hh _ l hlI (intItems xs)).frame _ _ _ st fun b _ o e => Heap.get?_push_of_some _ e
  · have hsz : (intItems xs).size = xs.size := by simp [intItems]
    refine h v g tk (fun z => by have := p1 (by rw [hsz]; exact z); rw [hsz] at this; exact this) (fun z => p2 (by rw [hsz]; exact z)) (old_kept (l := l) fun b o hb e => ?_)
    exact keep b o hb (Nat.ne_of_lt (Heap.lt_size e)) (Heap.get?_push_of_some _ e)
end
theorem rawD {prog : Program} {w : World} {A : Around} {E : Value → Shared → Prop} {s : Shared} {l : Addr} {its : List Value} {ns : List Int} {z : Int} {t : Tok} {Q : Value → Shared → Prop} (hh : A.handled = none) (hl : s.heap.IsList l its.toArray) (hi : IntsAre its ns)
    (h : ∀ (g : Heap) (tk : Nat) (m : Int) (t' : Tok), (∀ b o, s.heap.get? b = some o → g.get? b = some o) → (ns = [] → m = z) → (ns ≠ [] → m ∈ ns ∧ ∀ y ∈ ns, m ≤ y) → Q (.int m t') { s with heap := g, toks := tk }) :
    wpAny (model prog w) A (call (.builtin "min") [.ref l] (kwD (.int z t))) Q E s := by
  obtain ⟨xs, e⟩ := hi.allInts.items
  have hn : numsOf (intItems xs).toList = ns := by rw [← e]; exact hi.numsOf
  rw [PySem.nums_intItems] at hn
  subst hn
  rw [e] at hl
  refine callD hh hl fun v g tk p1 p2 keep => ?_
  by_cases c : 0 < xs.size
  · obtain ⟨u, rfl⟩ := intItems_at (p1 c)
    obtain ⟨a1, a2⟩ := argBest_lt (numAt xs) (xs.size - 1)
    refine h g tk _ u keep (fun z => ?_) fun _ => ⟨?_, fun y hy => ?_⟩
    · have q : xs.size = 0 := by simpa using congrArg List.length z
      omega
    · rw [PySem.numAt_eq]
      refine PySem.getD_mem ?_
      rw [List.length_map, Array.length_toList]
      exact Nat.lt_of_le_of_lt a1 (by omega)
    · obtain ⟨j, hj, rfl⟩ := PySem.mem_getD hy
      rw [List.length_map, Array.length_toList] at hj
      rw [← PySem.numAt_eq]
      exact a2 j (by omega)
  · rw [p2 (by omega)]
    refine h g tk z t keep (fun _ => rfl) fun q => absurd ?_ q
    have : xs = #[] := Array.eq_empty_of_size_eq_zero (by omega)
    rw [this]
    rfl
end MinD
namespace Bx
open PySem PySem.Spec PyProof.Rows L2
def rMinD (K : PySem.W.Frag) : List V → List V → Hp → VK → Prop := fun xs zs H Q => ∃ (a : Addr) (ns : List Int) (z : Int), xs = [.ref a] ∧ zs = [.int z] ∧ SqL K H a (ns.map V.int) ∧
  ∀ m, (ns = [] → m = z) → (ns ≠ [] → m ∈ ns ∧ ∀ y ∈ ns, m ≤ y) → Q (.int m) H
theorem call_minD {X : Cx} {K : PySem.W.Frag} (h : X.K = K) (hc : X.calm = true) : CallRK X (.builtin "min") ["default"] (rMinD K) := by
  subst h
  intro pins s σ H xs zs us ws Q I r r2 hw
  obtain ⟨a, ns, z, rfl, rfl, hs, q⟩ := hw
  obtain ⟨its, rv, hl, _⟩ := I.list hs
  rw [Vals.ref1 r]
  obtain ⟨u, rfl, ru⟩ := vals1 r2
  obtain ⟨t, rfl⟩ := ru
  exact MinD.rawD (I.ok.hd hc) hl.isList rv.ints fun g tk m t' hk h1 h2 => ⟨.int m, H, I.kept hk, ⟨_, rfl⟩, q m h1 h2⟩
end Bx
namespace Bx
open PySem PySem.Spec PyProof.Rows L2
/-! ### rules over the written part by its name -/
section
variable {X : Cx} {K : PySem.W.Frag}
theorem ix_tupK (h : X.K = K) : IxR X (rIxT K) := h ▸ ix_tup
theorem ix_listK (h : X.K = K) : IxR X (rIxL K) := h ▸ ix_list
theorem ix_seqK (h : X.K = K) : IxR X (rIx K) := h ▸ ix_seq
def rLen (K : PySem.W.Frag) : List V → Hp → VK → Prop := fun xs H Q => ∃ (p : Addr) (ys : List V), xs = [.ref p] ∧ (SqL K H p ys ∨ SqT K H p ys) ∧ Q (.int ys.length) H
theorem call_lenK (h : X.K = K) : CallR X (.builtin "len") (rLen K) := by
  subst h
  exact call_len_seq
def rTupOf (K : PySem.W.Frag) : List V → Hp → VK → Prop := fun xs H Q => ∃ (p : Addr) (ys : List V), xs = [.ref p] ∧ ((SqL K H p ys ∧ ∀ l, H l = none → Q (.ref l) (upd H l (.tup ys))) ∨ (SqT K H p ys ∧ Q (.ref p) H))
theorem call_tuple_ofK (h : X.K = K) : CallR X (.type "tuple") (rTupOf K) := by
  subst h
  exact call_tuple_of
def rLstOf (K : PySem.W.Frag) : List V → Hp → VK → Prop := fun xs H Q => ∃ (p : Addr) (ys : List V), xs = [.ref p] ∧ (SqL K H p ys ∨ SqT K H p ys) ∧ ∀ l, H l = none → Q (.ref l) (upd H l (.lst ys))
theorem call_list_ofK (h : X.K = K) : CallR X (.type "list") (rLstOf K) := by
  subst h
  exact call_list_of
end
end Bx
/-! ### heaps: what one list at d may lose, all else as it was -/
namespace Bx
open PySem PySem.Spec PyProof.Rows L2
def Kp (d : Addr) (H H' : Hp) : Prop := ∀ b o, b ≠ d → H b = some o → H' b = some o
theorem Kp.refl (d : Addr) (H : Hp) : Kp d H H := fun _ _ _ h => h
theorem Kp.trans {d : Addr} {H H1 H2 : Hp} (a : Kp d H H1) (b : Kp d H1 H2) : Kp d H H2 := fun c o n h => b c o n (a c o n h)
theorem Same.kp {d : Addr} {H H' : Hp} (s : Same H H') : Kp d H H' := fun b o _ h => s b o h
theorem Kp.own {d : Addr} {H : Hp} {o : HO} : Kp d H (upd H d o) := fun b _ n h => by rw [upd_ne n]; exact h
theorem same_new {H : Hp} {p : Addr} {o : HO} (h : H p = none) : Same H (upd H p o) := fun b x e => by
  rw [upd_ne (ne_of_none e h)]
  exact e
theorem Kp.new {d p : Addr} {H : Hp} {o : HO} (h : H p = none) : Kp d H (upd H p o) := Same.kp (same_new h)
theorem upd_self {H : Hp} {d : Addr} {o : HO} (h : H d = some o) : upd H d o = H := by
  funext b
  by_cases e : b = d
  · rw [e, upd_same, h]
  · rw [upd_ne e]
/-- a list of ints at d -/
def Ints (H : Hp) (d : Addr) (xs : List Int) : Prop := H d = some (.lst (xs.map V.int))
/-- the draws: some list of ints -/
def Drw (H : Hp) (d : Addr) : Prop := ∃ ds : List Int, H d = some (.lst (ds.map V.int))
theorem Drw.new {H : Hp} {d p : Addr} {o : HO} (h : Drw H d) (n : H p = none) : Drw (upd H p o) d := by
  obtain ⟨ds, e⟩ := h
  exact ⟨ds, same_new n _ _ e⟩
theorem Drw.own {H : Hp} {d : Addr} {ds : List Int} : Drw (upd H d (.lst (ds.map V.int))) d := ⟨ds, upd_same⟩
theorem Drw.same {H H' : Hp} {d : Addr} (h : Drw H d) (s : Same H H') : Drw H' d := by
  obtain ⟨ds, e⟩ := h
  exact ⟨ds, s _ _ e⟩
/-- a tuple of ints -/
def TupI (H : Hp) (a : Addr) (xs : List Int) : Prop := H a = some (.tup (xs.map V.int))
theorem Drw.ne_tup {H : Hp} {d a : Addr} {xs : List V} (h : Drw H d) (e : H a = some (.tup xs)) : a ≠ d := by
  obtain ⟨ds, e2⟩ := h
  exact ne_of e e2 (by intro z; cases z)
/-- a lasso: a pair of tuples of ints -/
def Las (H : Hp) (p : Addr) (h l : List Int) : Prop := ∃ a b, H p = some (.tup [.ref a, .ref b]) ∧ H a = some (.tup (h.map V.int)) ∧ H b = some (.tup (l.map V.int))
theorem Las.keep {H H' : Hp} {d p : Addr} {h l : List Int} (k : Kp d H H') (w : Drw H d) (x : Las H p h l) : Las H' p h l := by
  obtain ⟨a, b, e1, e2, e3⟩ := x
  exact ⟨a, b, k _ _ (w.ne_tup e1) e1, k _ _ (w.ne_tup e2) e2, k _ _ (w.ne_tup e3) e3⟩
theorem Las.same {H H' : Hp} {p : Addr} {h l : List Int} (k : Same H H') (x : Las H p h l) : Las H' p h l := by
  obtain ⟨a, b, e1, e2, e3⟩ := x
  exact ⟨a, b, k _ _ e1, k _ _ e2, k _ _ e3⟩
theorem lenI {xs : List Int} (h : xs.length ≤ 1000000) : (xs.map V.int).length < sizeLine := by
  rw [List.length_map]
  exact Nat.lt_of_le_of_lt h (by decide)
theorem ixN_at {n j : Nat} (h : j < n) : ixN n (j : Int) = some j := by
  unfold ixN
  rw [if_pos (by omega), if_pos (by omega)]
  rfl
theorem set_mapI {xs : List Int} {j : Nat} {v : Int} : (xs.map V.int).set j (.int v) = (xs.set j v).map V.int := by rw [List.map_set]
/-- a list or a tuple of ints -/
def SeqI (H : Hp) (a : Addr) (xs : List Int) : Prop := H a = some (.lst (xs.map V.int)) ∨ H a = some (.tup (xs.map V.int))
theorem SeqI.sq {K : PySem.W.Frag} {H : Hp} {a : Addr} {xs : List Int} (h : SeqI H a xs) : SqL K H a (xs.map V.int) ∨ SqT K H a (xs.map V.int) := by
  rcases h with h | h
  · exact .inl (.of h)
  · exact .inr (.of h)
theorem SeqI.same {H H' : Hp} {a : Addr} {xs : List Int} (k : Same H H') (h : SeqI H a xs) : SeqI H' a xs := by
  rcases h with h | h
  · exact .inl (k _ _ h)
  · exact .inr (k _ _ h)
/-- a pair of lists or tuples of ints -/
def Pr (H : Hp) (p : Addr) (h l : List Int) : Prop := ∃ a b, H p = some (.tup [.ref a, .ref b]) ∧ SeqI H a h ∧ SeqI H b l
theorem Las.pr {H : Hp} {p : Addr} {h l : List Int} (x : Las H p h l) : Pr H p h l := by
  obtain ⟨a, b, e1, e2, e3⟩ := x
  exact ⟨a, b, e1, .inr e2, .inr e3⟩
theorem Pr.same {H H' : Hp} {p : Addr} {h l : List Int} (k : Same H H') (x : Pr H p h l) : Pr H' p h l := by
  obtain ⟨a, b, e1, e2, e3⟩ := x
  exact ⟨a, b, k _ _ e1, e2.same k, e3.same k⟩
/-- an item -/
theorem ixq {K : PySem.W.Frag} {H : Hp} {a : Addr} {xs : List Int} {i : Int} {j : Nat} {v : V} {Q : VK} (h : SeqI H a xs) (ei : i = (j : Int)) (e : (xs.map V.int)[j]? = some v) (q : Q v H) : rIx K (.ref a) (.int i) H Q := by
  subst ei
  rcases h with h | h
  · exact .inl ⟨_, _, _, _, rfl, rfl, .of h, atI_nat e, q⟩
  · exact .inr (.inl ⟨_, _, _, _, rfl, rfl, .of h, atI_nat e, q⟩)
theorem ixq_last {K : PySem.W.Frag} {H : Hp} {a : Addr} {xs : List Int} {z : Int} {Q : VK} (h : SeqI H a xs) (e : xs.getLast? = some z) (q : Q (.int z) H) : rIx K (.ref a) (.int (-1)) H Q := by
  obtain ⟨ys, rfl⟩ := List.getLast?_eq_some_iff.mp e
  have g : atI ((ys ++ [z]).map V.int) (-1) = some (.int z) := by
    rw [List.map_append]
    exact atI_last _ _
  rcases h with h | h
  · exact .inl ⟨_, _, _, _, rfl, rfl, .of h, g, q⟩
  · exact .inr (.inl ⟨_, _, _, _, rfl, rfl, .of h, g, q⟩)
theorem at_map {xs : List Int} {j : Nat} (h : j < xs.length) : (xs.map V.int)[j]? = some (.int (xs.getD j 0)) := by
  rw [List.getElem?_map, List.getElem?_eq_getElem h, List.getD_eq_getElem?_getD, List.getElem?_eq_getElem h]
  rfl
/-! slices -/
section
variable {X : Cx} {K : PySem.W.Frag}
def rSlQ (K : PySem.W.Frag) : V → Option Int → Option Int → Hp → VK → Prop := fun x lo hi H Q => rSlL K x lo hi H Q ∨ rSlA K x lo hi H Q
theorem sl_seqK (h : X.K = K) : SlR X (rSlQ K) := by
  subst h
  exact sl_list.or sl_tupA
theorem sl_tupK (h : X.K = K) : SlR X (rSlA K) := by
  subst h
  exact sl_tupA
theorem sl_listK (h : X.K = K) : SlR X (rSlL K) := by
  subst h
  exact sl_list
theorem op_catK (h : X.K = K) : OpR X (binaryOp .Add) (rCatA K) := by
  subst h
  exact op_catA
theorem op_repTK (h : X.K = K) : OpR X (binaryOp .Mult) (rRepT K) := by
  subst h
  exact op_repT
theorem op_eqDK (h : X.K = K) (hu : X.A.units + 64 < cLine) : OpR X (compareOp .Eq) (rEqD K) := by
  subst h
  exact op_eqD hu
theorem op_neDK (h : X.K = K) (hu : X.A.units + 64 < cLine) : OpR X (compareOp .NotEq) (rNeD K) := by
  subst h
  exact op_neD hu
theorem call_minK (h : X.K = K) (hc : X.calm = true) : CallR X (.builtin "min") (rMin K) := by
  subst h
  exact cr_min hc
theorem call_isiK' (h : X.K = K) : CallR X (.builtin "isinstance") (rIsi K) := by
  subst h
  exact call_isi
end
theorem cut_map {xs : List Int} {lo hi : Option Int} : cutV (xs.map V.int) lo hi = ((xs.drop (HT.sIx xs.length 0 lo)).take (HT.sIx xs.length xs.length hi - HT.sIx xs.length 0 lo)).map V.int := by
  unfold cutV
  rw [List.length_map, List.map_take, List.map_drop]
/-- a slice of a tuple -/
theorem slt {K : PySem.W.Frag} {H : Hp} {a : Addr} {xs ys : List Int} {lo hi : Option Int} {Q : VK} (h : TupI H a xs) (e : (xs.drop (HT.sIx xs.length 0 lo)).take (HT.sIx xs.length xs.length hi - HT.sIx xs.length 0 lo) = ys)
    (q : ∀ (H' : Hp) (p : Addr), Same H H' → TupI H' p ys → Q (.ref p) H') : rSlA K (.ref a) lo hi H Q := by
  subst e
  refine ⟨a, _, rfl, .of h, fun w => ?_, fun _ p hp => q _ p (same_new hp) ?_⟩
  · refine q H a (Same.refl H) ?_
    rw [List.length_map] at w
    rw [w.1, w.2, List.drop_zero, Nat.sub_zero, List.take_length]
    exact h
  · unfold TupI
    rw [upd_same, cut_map]
/-- a slice of a list or tuple -/
theorem slq {K : PySem.W.Frag} {H : Hp} {a : Addr} {xs ys : List Int} {lo hi : Option Int} {Q : VK} (h : SeqI H a xs) (e : (xs.drop (HT.sIx xs.length 0 lo)).take (HT.sIx xs.length xs.length hi - HT.sIx xs.length 0 lo) = ys)
    (q : ∀ (H' : Hp) (p : Addr), Same H H' → SeqI H' p ys → Q (.ref p) H') : rSlQ K (.ref a) lo hi H Q := by
  rcases h with h | h
  · subst e
    refine .inl ⟨a, _, rfl, .of h, fun p hp => q _ p (same_new hp) (.inl ?_)⟩
    rw [upd_same, cut_map]
  · exact .inr (slt h e fun H' p s t => q H' p s (.inr t))
theorem cut_to (xs : List Int) (n : Nat) : (xs.drop (HT.sIx xs.length 0 none)).take (HT.sIx xs.length xs.length (some (n : Int)) - HT.sIx xs.length 0 none) = xs.take n := by
  rw [HT.sIx_none, HT.sIx_nat, List.drop_zero, Nat.sub_zero]
  rcases Nat.le_total n xs.length with c | c
  · rw [Nat.min_eq_left c]
  · rw [Nat.min_eq_right c, List.take_length, List.take_of_length_le c]
theorem cut_from (xs : List Int) {n : Nat} (hn : n ≤ xs.length) : (xs.drop (HT.sIx xs.length 0 (some (n : Int)))).take (HT.sIx xs.length xs.length none - HT.sIx xs.length 0 (some (n : Int))) = xs.drop n := by
  rw [HT.sIx_none, HT.sIx_nat, Nat.min_eq_left hn]
  exact List.take_of_length_le (by rw [List.length_drop]; exact Nat.le_refl _)
theorem slt_to {K : PySem.W.Frag} {H : Hp} {a : Addr} {xs : List Int} {k : Int} {n : Nat} {Q : VK} (h : TupI H a xs) (ek : k = (n : Int))
    (q : ∀ (H' : Hp) (p : Addr), Same H H' → TupI H' p (xs.take n) → Q (.ref p) H') : rSlA K (.ref a) none (some k) H Q := by
  subst ek
  exact slt h (cut_to xs n) q
theorem slt_from {K : PySem.W.Frag} {H : Hp} {a : Addr} {xs : List Int} {k : Int} {n : Nat} {Q : VK} (h : TupI H a xs) (ek : k = (n : Int)) (hn : n ≤ xs.length)
    (q : ∀ (H' : Hp) (p : Addr), Same H H' → TupI H' p (xs.drop n) → Q (.ref p) H') : rSlA K (.ref a) (some k) none H Q := by
  subst ek
  exact slt h (cut_from xs hn) q
theorem slq_to {K : PySem.W.Frag} {H : Hp} {a : Addr} {xs : List Int} {k : Int} {n : Nat} {Q : VK} (h : SeqI H a xs) (ek : k = (n : Int))
    (q : ∀ (H' : Hp) (p : Addr), Same H H' → SeqI H' p (xs.take n) → Q (.ref p) H') : rSlQ K (.ref a) none (some k) H Q := by
  subst ek
  exact slq h (cut_to xs n) q
theorem slq_mid {K : PySem.W.Frag} {H : Hp} {a : Addr} {xs : List Int} {k k2 : Int} {n m : Nat} {Q : VK} (h : SeqI H a xs) (ek : k = (n : Int)) (ek2 : k2 = (m : Int)) (hn : n ≤ xs.length) (hm : m ≤ xs.length)
    (q : ∀ (H' : Hp) (p : Addr), Same H H' → SeqI H' p ((xs.drop n).take (m - n)) → Q (.ref p) H') : rSlQ K (.ref a) (some k) (some k2) H Q := by
  subst ek
  subst ek2
  refine slq h ?_ q
  rw [HT.sIx_nat, HT.sIx_nat, Nat.min_eq_left hn, Nat.min_eq_left hm]
/-- tuple(x) -/
theorem tupq {K : PySem.W.Frag} {H : Hp} {a : Addr} {xs : List Int} {Q : VK} (h : SeqI H a xs) (q : ∀ (H' : Hp) (p : Addr), Same H H' → TupI H' p xs → Q (.ref p) H') : rTupOf K [.ref a] H Q := by
  rcases h with h | h
  · exact ⟨a, _, rfl, .inl ⟨.of h, fun p hp => q _ p (same_new hp) upd_same⟩⟩
  · exact ⟨a, _, rfl, .inr ⟨.of h, q H a (Same.refl H) h⟩⟩
/-- x + y of tuples -/
theorem catq {K : PySem.W.Frag} {H : Hp} {a b : Addr} {xs ys : List Int} {Q : VK} (h : TupI H a xs) (g : TupI H b ys) (hl : xs.length + ys.length ≤ 1000000) (q : ∀ (H' : Hp) (p : Addr), Same H H' → TupI H' p (xs ++ ys) → Q (.ref p) H') : rCatA K (.ref a) (.ref b) H Q := by
  refine ⟨a, b, _, _, rfl, rfl, .of h, .of g, ?_, fun z => ?_, fun _ z => ?_, fun _ _ p hp => ?_⟩
  · rw [List.length_map, List.length_map]
    exact Nat.le_trans hl (by decide)
  · have e : xs = [] := List.map_eq_nil_iff.mp z
    refine q H b (Same.refl H) ?_
    rw [e]
    exact g
  · have e : ys = [] := List.map_eq_nil_iff.mp z
    refine q H a (Same.refl H) ?_
    rw [e, List.append_nil]
    exact h
  · refine q _ p (same_new hp) ?_
    unfold TupI
    rw [upd_same, List.map_append]
/-- a slice of a list -/
theorem sll_from {K : PySem.W.Frag} {H : Hp} {a : Addr} {xs : List Int} {k : Int} {n : Nat} {Q : VK} (h : H a = some (.lst (xs.map V.int))) (ek : k = (n : Int)) (hn : n ≤ xs.length)
    (q : ∀ p, H p = none → Q (.ref p) (upd H p (.lst ((xs.drop n).map V.int)))) : rSlL K (.ref a) (some k) none H Q := by
  subst ek
  refine ⟨a, _, rfl, .of h, fun p hp => ?_⟩
  rw [cut_map, cut_from xs hn]
  exact q p hp
theorem sll_to {K : PySem.W.Frag} {H : Hp} {a : Addr} {xs : List Int} {k : Int} {n : Nat} {Q : VK} (h : H a = some (.lst (xs.map V.int))) (ek : k = (n : Int))
    (q : ∀ p, H p = none → Q (.ref p) (upd H p (.lst ((xs.take n).map V.int)))) : rSlL K (.ref a) none (some k) H Q := by
  subst ek
  refine ⟨a, _, rfl, .of h, fun p hp => ?_⟩
  rw [cut_map, cut_to xs n]
  exact q p hp
/-! == of data -/
theorem eqvAll_int : ∀ xs ys : List Int, PyData.eqvAll (xs.map PyData.int) (ys.map PyData.int) = decide (xs = ys)
  | [], [] => by simp [PyData.eqvAll]
  | [], y :: ys => by simp [PyData.eqvAll]
  | x :: xs, [] => by simp [PyData.eqvAll]
  | x :: xs, y :: ys => by
    rw [List.map_cons, List.map_cons, PyData.eqvAll, eqvAll_int xs ys, PyData.eqv]
    by_cases c : x = y
    · by_cases d : xs = ys
      · simp [c, d]
      · simp [c, d]
    · simp [c]
theorem eqv_tup (xs ys : List Int) : PyData.eqv (.tuple (xs.map PyData.int)) (.tuple (ys.map PyData.int)) = decide (xs = ys) := by
  rw [PyData.eqv]
  exact eqvAll_int xs ys
theorem eqv_lst (xs ys : List Int) : PyData.eqv (.list (xs.map PyData.int)) (.list (ys.map PyData.int)) = decide (xs = ys) := by
  rw [PyData.eqv]
  exact eqvAll_int xs ys
theorem layAll : ∀ xs : List Int, PyData.canLayAll0 (xs.map PyData.int) = true
  | [] => rfl
  | x :: xs => by
    rw [List.map_cons, PyData.canLayAll0, layAll xs]
    rfl
theorem depAll : ∀ xs : List Int, PyData.depthAll (xs.map PyData.int) = 0
  | [] => by simp [PyData.depthAll]
  | x :: xs => by
    rw [List.map_cons, PyData.depthAll, depAll xs]
    simp [PyData.depth]
theorem shaped_tup (xs : List Int) : SeqAt.shaped (.tuple (xs.map PyData.int)) = true := by
  unfold SeqAt.shaped
  rw [PyData.canLay0, layAll, PyData.depth, depAll]
  rfl
theorem shaped_lst (xs : List Int) : SeqAt.shaped (.list (xs.map PyData.int)) = true := by
  unfold SeqAt.shaped
  rw [PyData.canLay0, layAll, PyData.depth, depAll]
  rfl
theorem dpAll_int {K : PySem.W.Frag} {H : Hp} : ∀ xs : List Int, DpAll K H (xs.map V.int) (xs.map PyData.int)
  | [] => .nil
  | x :: xs => .cons (.int x) (dpAll_int xs)
theorem dp_lst {K : PySem.W.Frag} {H : Hp} {a : Addr} {xs : List Int} (h : H a = some (.lst (xs.map V.int))) : Dp K H (.ref a) (.list (xs.map PyData.int)) := .lst (.of h) (dpAll_int xs)
theorem dp_tup {K : PySem.W.Frag} {H : Hp} {a : Addr} {xs : List Int} (h : TupI H a xs) : Dp K H (.ref a) (.tuple (xs.map PyData.int)) := .tup (.of h) (dpAll_int xs)
theorem ite_ne {x y : Int} {A B : Prop} (h1 : x ≠ y → A) (h2 : x = y → B) : if (!decide (V.int x = V.int y)) = true then A else B := by
  by_cases c : x = y
  · rw [c, decide_eq_true rfl]
    exact iteF (h2 c)
  · rw [decide_eq_false (fun z => c (V.int.inj z))]
    exact iteT (h1 c)
theorem ite_eq {x y : Int} {A B : Prop} (h1 : x = y → A) (h2 : x ≠ y → B) : if decide (V.int x = V.int y) = true then A else B := by
  by_cases c : x = y
  · rw [c, decide_eq_true rfl]
    exact iteT (h1 c)
  · rw [decide_eq_false (fun z => c (V.int.inj z))]
    exact iteF (h2 c)
theorem ite_lt {x y : Int} {A B : Prop} (h1 : x < y → A) (h2 : y ≤ x → B) : if decide (x < y) = true then A else B := by
  by_cases c : x < y
  · rw [decide_eq_true c]
    exact iteT (h1 c)
  · rw [decide_eq_false c]
    exact iteF (h2 (by omega))
/-! ### the letters of a word -/
def wat (h l : List Int) (t : Nat) : Int := if t < h.length then h.getD t 0 else l.getD ((t - h.length) % l.length) 0
theorem wat_head {h l : List Int} {t : Nat} (c : t < h.length) : (h.map V.int)[t]? = some (.int (wat h l t)) := by
  unfold wat
  rw [if_pos c, List.getElem?_map, List.getElem?_eq_getElem c, List.getD_eq_getElem?_getD, List.getElem?_eq_getElem c]
  rfl
theorem wat_loop {h l : List Int} {t : Nat} (c : ¬ t < h.length) (n : l ≠ []) : (l.map V.int)[(t - h.length) % l.length]? = some (.int (wat h l t)) := by
  have hl : 0 < l.length := List.length_pos_iff.mpr n
  have c2 : (t - h.length) % l.length < l.length := Nat.mod_lt _ hl
  unfold wat
  rw [if_neg c, List.getElem?_map, List.getElem?_eq_getElem c2, List.getD_eq_getElem?_getD, List.getElem?_eq_getElem c2]
  rfl
theorem ix_mod {t n m : Nat} (h : n ≤ t) : ((t : Int) - (n : Int)) % (m : Int) = (((t - n) % m : Nat) : Int) := by
  have e : ((t : Int) - (n : Int)) = ((t - n : Nat) : Int) := by omega
  rw [e]
  rfl
/-! ### promises of the helpers -/
def spTake : Sp := fun vs H Q _ => ∃ (d : Addr) (n : Int), vs = [.ref d, .int n] ∧ Drw H d ∧ 0 < n ∧
  ∀ (r : Int) (ds : List Int), 0 ≤ r → r < n → Q (.int r) (upd H d (.lst (ds.map V.int)))
def spDraws (K : PySem.W.Frag) : Sp := fun vs H Q _ => ∃ (a : Addr) (ns : List Int) (c : Nat), vs = [.ref a, .int c] ∧ SqL K H a (ns.map V.int) ∧ c ≤ 1000 ∧
  ∀ (H' : Hp) (d : Addr), Same H H' → H d = none → Drw H' d → Q (.ref d) H'
def spAt : Sp := fun vs H Q _ => ∃ (p : Addr) (h l : List Int) (t : Nat), vs = [.ref p, .int t] ∧ Pr H p h l ∧ l ≠ [] ∧ Q (.int (wat h l t)) H
def spLasso : Sp := fun vs H Q _ => ∃ (d : Addr) (n : Int) (m : Nat), vs = [.ref d, .int n, .int m] ∧ Drw H d ∧ 0 < n ∧ 0 < m ∧ m ≤ 1000 ∧
  ∀ (H' : Hp) (p : Addr) (h l : List Int), Kp d H H' → Drw H' d → Las H' p h l → h.length ≤ m → l ≠ [] → l.length ≤ m → (∀ x ∈ h, 0 ≤ x ∧ x < n) → (∀ x ∈ l, 0 ≤ x ∧ x < n) → Q (.ref p) H'
/-- v says where f and g first differ below n -/
def IsDiff (f g : Nat → Int) (n : Nat) (v : V) : Prop := (v = .non ∧ ∀ t < n, f t = g t) ∨ ∃ t, t < n ∧ v = .int (t : Nat) ∧ f t ≠ g t ∧ ∀ s < t, f s = g s
theorem IsDiff.uniq {f g : Nat → Int} {n : Nat} {v u : V} (a : IsDiff f g n v) (b : IsDiff f g n u) : v = u := by
  rcases a with ⟨rfl, a⟩ | ⟨t, ht, rfl, a1, a2⟩
  · rcases b with ⟨rfl, b⟩ | ⟨s, hs, rfl, b1, b2⟩
    · rfl
    · exact absurd (a s hs) b1
  · rcases b with ⟨rfl, b⟩ | ⟨s, hs, rfl, b1, b2⟩
    · exact absurd (b t ht) a1
    · rcases Nat.lt_trichotomy t s with c | c | c
      · exact absurd (b2 t c) a1
      · rw [c]
      · exact absurd (a2 s c) b1
theorem IsDiff.swap {f g : Nat → Int} {n : Nat} {v : V} (a : IsDiff f g n v) : IsDiff g f n v := by
  rcases a with ⟨rfl, a⟩ | ⟨t, ht, rfl, a1, a2⟩
  · exact .inl ⟨rfl, fun t h => (a t h).symm⟩
  · exact .inr ⟨t, ht, rfl, a1.symm, fun s h => (a2 s h).symm⟩
def dfn (h1 l1 h2 l2 : List Int) : Nat := max h1.length h2.length + l1.length + l2.length
def spFd : Sp := fun vs H Q _ => ∃ (p q : Addr) (h1 l1 h2 l2 : List Int), vs = [.ref p, .ref q] ∧ Las H p h1 l1 ∧ Las H q h2 l2 ∧ l1 ≠ [] ∧ l2 ≠ [] ∧ dfn h1 l1 h2 l2 ≤ 1000000 ∧
  ∀ v, IsDiff (wat h1 l1) (wat h2 l2) (dfn h1 l1 h2 l2) v → Q v H
theorem max_if (a b : Nat) : (if ((b : Nat) : Int) > (a : Int) then (b : Int) else (a : Int)) = ((max a b : Nat) : Int) := by
  by_cases h : ((b : Nat) : Int) > (a : Int)
  · rw [if_pos h]
    omega
  · rw [if_neg h]
    omega
/-- the letters of a list, by places -/
def lw (l : List Int) : Nat → Int := fun i => l.getD i 0
def spPeriod : Sp := fun vs H Q _ => ∃ (a : Addr) (l : List Int), vs = [.ref a] ∧ SeqI H a l ∧ l ≠ [] ∧ l.length ≤ 1000000 ∧
  ∀ (H' : Hp) (r : Nat), Same H H' → Wd.Least (lw l) l.length r → Q (.int r) H'
/-- the normal form (h', l') of (h, l) -/
structure Short (h l h' l' : List Int) : Prop where
  ne : l' ≠ []
  same : ∀ t, wat h' l' t = wat h l t
  hl : h'.length ≤ h.length
  ll : l'.length ≤ l.length
  last : h' ≠ [] → h'.getLast? ≠ l'.getLast?
  prim : ∀ p, 0 < p → p < l'.length → p ∣ l'.length → ∃ i, i + p < l'.length ∧ lw l' i ≠ lw l' (i + p)
  memH : ∀ x ∈ h', x ∈ h
  memL : ∀ x ∈ l', x ∈ l
/-- the letter of the repeated word at any whole number of turns from where it begins -/
def bk (l : List Int) (r : Nat) (z : Int) : Int := lw l ((z % (r : Int)).toNat)
def rot (l : List Int) (r c : Nat) : List Int := (l.drop c).take (r - c) ++ l.take c
theorem rot_len {l : List Int} {r c : Nat} (hc : c < r) (hr : r ≤ l.length) : (rot l r c).length = r := by
  unfold rot
  rw [List.length_append, List.length_take, List.length_drop, List.length_take]
  omega
theorem lw_get {l : List Int} {i : Nat} (h : i < l.length) : l[i]? = some (lw l i) := by
  unfold lw
  rw [List.getD_eq_getElem?_getD, List.getElem?_eq_getElem h]
  rfl
theorem lw_of {l : List Int} {i : Nat} {x : Int} (h : l[i]? = some x) : lw l i = x := by
  unfold lw
  rw [List.getD_eq_getElem?_getD, h]
  rfl
theorem rot_at {l : List Int} {r c j : Nat} (hc : c < r) (hr : r ≤ l.length) (hj : j < r) : lw (rot l r c) j = lw l ((j + c) % r) := by
  apply lw_of
  unfold rot
  have e1 : ((l.drop c).take (r - c)).length = r - c := by
    rw [List.length_take, List.length_drop]
    omega
  rcases Nat.lt_or_ge j (r - c) with h | h
  · rw [List.getElem?_append_left (by rw [e1]; exact h), List.getElem?_take, if_pos h, List.getElem?_drop, Nat.mod_eq_of_lt (by omega), Nat.add_comm c j]
    exact lw_get (by omega)
  · rw [List.getElem?_append_right (by rw [e1]; exact h), e1, List.getElem?_take, if_pos (by omega)]
    have e2 : (j + c) % r = j - (r - c) := by
      rw [Nat.mod_eq_sub_mod (by omega), Nat.mod_eq_of_lt (by omega)]
      omega
    rw [e2]
    exact lw_get (by omega)
theorem bk_shift {l : List Int} {r : Nat} {a b z : Int} (h : a = b + r * z) : bk l r a = bk l r b := by
  unfold bk
  rw [h, Int.add_mul_emod_self_left]
theorem bk_nat {l : List Int} {r t : Nat} : bk l r (t : Int) = lw l (t % r) := rfl
theorem least_le {w : Nat → Int} {n r : Nat} (hn : 0 < n) (L : Wd.Least w n r) : r ≤ n := Nat.le_of_dvd hn L.dvd
/-- the letters of l repeated, by the least repetition -/
theorem cyc_least {l : List Int} {r : Nat} (hn : 0 < l.length) (L : Wd.Least (lw l) l.length r) (i : Nat) : lw l (i % l.length) = bk l r (i : Int) := by
  have h1 : Wd.cyc (lw l) l.length i = Wd.cyc (lw l) l.length (i % r) := L.rp.mod
  have h2 : Wd.cyc (lw l) l.length (i % r) = lw l (i % r) := Wd.cyc_lt (Nat.lt_of_lt_of_le (Nat.mod_lt _ L.pos) (least_le hn L))
  rw [bk_nat, ← h2, ← h1]
  rfl
theorem cut_lt {r : Nat} (hr : 0 < r) (z : Int) : (z % (r : Int)).toNat < r := by
  have h1 := Int.emod_nonneg z (show (r : Int) ≠ 0 by omega)
  have h2 := Int.emod_lt_of_pos z (show (0 : Int) < (r : Int) by omega)
  omega
theorem cut_int {r : Nat} (hr : 0 < r) (z : Int) : (((z % (r : Int)).toNat : Nat) : Int) = z - r * (z / r) := by
  have h1 := Int.emod_nonneg z (show (r : Int) ≠ 0 by omega)
  rw [Int.toNat_of_nonneg h1, Int.emod_def]
theorem rot_bk {l : List Int} {r : Nat} (hr0 : 0 < r) (hr : r ≤ l.length) (z : Int) (j : Nat) : lw (rot l r (z % (r : Int)).toNat) (j % r) = bk l r ((j : Int) + z) := by
  rw [rot_at (cut_lt hr0 z) hr (Nat.mod_lt _ hr0), Nat.mod_add_mod]
  have h : bk l r (((j + (z % (r : Int)).toNat : Nat)) : Int) = bk l r ((j : Int) + z) := bk_shift (z := -(z / r)) (by
    rw [Int.natCast_add, cut_int hr0, Int.mul_neg]
    omega)
  rw [← h]
  rfl
theorem short_of {h l : List Int} {r k : Nat} (hne : l ≠ []) (L : Wd.Least (lw l) l.length r) (hk : k ≤ h.length)
    (hB : ∀ t, k ≤ t → t < h.length → lw h t = bk l r ((t : Int) - (h.length : Int))) (hX : k = 0 ∨ lw h (k - 1) ≠ bk l r ((k : Int) - 1 - (h.length : Int))) :
    Short h l (h.take k) (rot l r (((k : Int) - (h.length : Int)) % (r : Int)).toNat) := by
  have hn : 0 < l.length := List.length_pos_iff.mpr hne
  have hr0 := L.pos
  have hr := least_le hn L
  have hlen := rot_len (cut_lt hr0 ((k : Int) - (h.length : Int))) hr
  have htk : (h.take k).length = k := by
    rw [List.length_take]
    omega
  refine ⟨fun z => ?_, fun t => ?_, by rw [htk]; exact hk, by rw [hlen]; exact hr, fun hh => ?_, fun p hp hpl hpd => ?_, fun x hx => List.mem_of_mem_take hx, fun x hx => ?_⟩
  · rw [z] at hlen
    have : (0 : Nat) = r := hlen
    omega
  · unfold wat
    rw [htk, hlen]
    by_cases c : t < k
    · rw [if_pos c, if_pos (by omega), List.getD_eq_getElem?_getD, List.getD_eq_getElem?_getD, List.getElem?_take, if_pos c]
    · rw [if_neg c]
      have e1 := rot_bk (l := l) hr0 hr ((k : Int) - (h.length : Int)) (t - k)
      have e2 : ((t - k : Nat) : Int) + ((k : Int) - (h.length : Int)) = (t : Int) - (h.length : Int) := by omega
      rw [e2] at e1
      show lw _ _ = _
      rw [e1]
      by_cases d : t < h.length
      · rw [if_pos d]
        exact (hB t (by omega) d).symm
      · rw [if_neg d]
        have e3 : (t : Int) - (h.length : Int) = ((t - h.length : Nat) : Int) := by omega
        rw [e3]
        exact (cyc_least hn L _).symm
  · have hk0 : k ≠ 0 := fun z => hh (by rw [z]; rfl)
    rcases hX with z | z
    · exact absurd z hk0
    · rw [List.getLast?_eq_getElem?, List.getLast?_eq_getElem?, htk, hlen]
      rw [List.getElem?_take, if_pos (by omega), lw_get (show k - 1 < h.length by omega), lw_get (show r - 1 < (rot l r _).length by rw [hlen]; omega)]
      intro q
      refine z ?_
      rw [Option.some.inj q]
      have e1 := rot_bk (l := l) hr0 hr ((k : Int) - (h.length : Int)) (r - 1)
      rw [Nat.mod_eq_of_lt (show r - 1 < r by omega)] at e1
      rw [e1]
      exact bk_shift (z := 1) (by omega)
  · rw [hlen] at hpl hpd ⊢
    apply Classical.byContradiction
    intro hno
    have hall : ∀ i, i + p < r → lw (rot l r (((k : Int) - (h.length : Int)) % (r : Int)).toNat) i = lw (rot l r (((k : Int) - (h.length : Int)) % (r : Int)).toNat) (i + p) := fun i hi =>
      Classical.byContradiction fun q => hno ⟨i, hi, q⟩
    have hrp := Wd.rp_of hp hpd hr0 hall
    have key : ∀ i, Wd.cyc (lw l) l.length i = Wd.cyc (lw (rot l r (((k : Int) - (h.length : Int)) % (r : Int)).toNat)) r (i + (r - (((k : Int) - (h.length : Int)) % (r : Int)).toNat)) := by
      intro i
      have hc := cut_lt hr0 ((k : Int) - (h.length : Int))
      have a1 : Wd.cyc (lw l) l.length i = bk l r (i : Int) := cyc_least hn L i
      have a2 := rot_at hc hr (Nat.mod_lt (i + (r - (((k : Int) - (h.length : Int)) % (r : Int)).toNat)) hr0)
      rw [a1]
      show _ = lw _ (_ % r)
      rw [a2, Nat.mod_add_mod, show i + (r - (((k : Int) - (h.length : Int)) % (r : Int)).toNat) + (((k : Int) - (h.length : Int)) % (r : Int)).toNat = i + r by omega, Nat.add_mod_right]
      rfl
    have hR : Wd.Rp (lw l) l.length p := fun i => by
      rw [key, key, Nat.add_right_comm]
      exact hrp _
    have := L.min p hp (Nat.dvd_trans hpd L.dvd) hR
    omega
  · unfold rot at hx
    rcases List.mem_append.mp hx with z | z
    · exact List.mem_of_mem_drop (List.mem_of_mem_take z)
    · exact List.mem_of_mem_take z
theorem rp_mod {w : Nat → Int} {n p q : Nat} (hp : Wd.Rp w n p) (hq : Wd.Rp w n q) : Wd.Rp w n (q % p) := fun i => by
  have a := hp.mul (q / p) (i + q % p)
  rw [Nat.mul_comm, Nat.add_assoc, Nat.mod_add_div] at a
  rw [← a]
  exact hq i
theorem rp_gcd {w : Nat → Int} {n : Nat} (p q : Nat) : Wd.Rp w n p → Wd.Rp w n q → Wd.Rp w n (Nat.gcd p q) := by
  induction p, q using Nat.gcd.induction with
  | H0 q => intro _ hq; rw [Nat.gcd_zero_left]; exact hq
  | H1 p q hp ih => intro h1 h2; rw [Nat.gcd_rec]; exact ih (rp_mod h1 h2) h1
/-- the normal form -/
structure Nrm (h l : List Int) : Prop where
  ne : l ≠ []
  last : h ≠ [] → h.getLast? ≠ l.getLast?
  prim : ∀ p, 0 < p → p < l.length → p ∣ l.length → ∃ i, i + p < l.length ∧ lw l i ≠ lw l (i + p)
theorem Short.nrm {h l h' l' : List Int} (s : Short h l h' l') : Nrm h' l' := ⟨s.ne, s.last, s.prim⟩
theorem Nrm.pos {h l : List Int} (N : Nrm h l) : 0 < l.length := List.length_pos_iff.mpr N.ne
theorem wat_cyc {h l : List Int} {t : Nat} (c : h.length ≤ t) : wat h l t = Wd.cyc (lw l) l.length (t - h.length) := by
  unfold wat
  rw [if_neg (by omega)]
  rfl
/-- every period that the word has from some turn on is a multiple of the loop's length -/
theorem Nrm.dvd {h l : List Int} (N : Nrm h l) {p M : Nat} (hP : ∀ t, M ≤ t → wat h l (t + p) = wat h l t) : l.length ∣ p := by
  have hr := N.pos
  have hRp : Wd.Rp (lw l) l.length p := fun i => by
    have self := Wd.rp_self (lw l) l.length
    have e1 := self.mul M i
    have e2 := self.mul M (i + p)
    have hM : M ≤ M * l.length := Nat.le_mul_of_pos_right M hr
    have q := hP (h.length + (i + M * l.length)) (by omega)
    rw [wat_cyc (by omega), wat_cyc (by omega)] at q
    rw [show h.length + (i + M * l.length) + p - h.length = i + p + M * l.length by omega, show h.length + (i + M * l.length) - h.length = i + M * l.length by omega, e1, e2] at q
    exact q
  have hg := rp_gcd p l.length hRp (Wd.rp_self (lw l) l.length)
  have gd : Nat.gcd p l.length ∣ l.length := Nat.gcd_dvd_right p l.length
  have gp : 0 < Nat.gcd p l.length := Nat.gcd_pos_of_pos_right p hr
  have gl := Nat.le_of_dvd hr gd
  rcases Nat.lt_or_ge (Nat.gcd p l.length) l.length with c | c
  · obtain ⟨i, hi, hne⟩ := N.prim _ gp c gd
    refine absurd ?_ hne
    have := hg i
    rw [Wd.cyc_lt hi, Wd.cyc_lt (by omega)] at this
    exact this.symm
  · have e : Nat.gcd p l.length = l.length := by omega
    rw [← e]
    exact Nat.gcd_dvd_left p l.length
theorem wat_per {h l : List Int} {t : Nat} (c : h.length ≤ t) : wat h l (t + l.length) = wat h l t := by
  rw [wat_cyc c, wat_cyc (by omega), show t + l.length - h.length = (t - h.length) + l.length by omega]
  exact Wd.rp_self (lw l) l.length _
theorem last_at {l : List Int} (n : l ≠ []) : l.getLast? = some (lw l (l.length - 1)) := by
  have := List.length_pos_iff.mpr n
  rw [List.getLast?_eq_getElem?]
  exact lw_get (by omega)
theorem Nrm.head_le {h l g m : List Int} (N : Nrm h l) (hs : ∀ t, wat h l t = wat g m t) (e : l.length = m.length) : h.length ≤ g.length := by
  rcases Nat.lt_or_ge g.length h.length with c | c
  · exfalso
    have hne : h ≠ [] := List.length_pos_iff.mp (by omega)
    refine N.last hne ?_
    rw [last_at hne, last_at N.ne]
    congr 1
    have hp := N.pos
    have a1 : wat h l (h.length - 1) = lw h (h.length - 1) := by
      unfold wat
      rw [if_pos (by omega)]
      rfl
    have a2 : wat h l (h.length - 1 + l.length) = lw l (l.length - 1) := by
      rw [wat_cyc (by omega), show h.length - 1 + l.length - h.length = l.length - 1 by omega, Wd.cyc_lt (by omega)]
    rw [← a1, ← a2, hs, hs, e]
    exact (wat_per (by omega)).symm
  · exact c
theorem Nrm.uniq {h l g m : List Int} (N : Nrm h l) (M : Nrm g m) (hs : ∀ t, wat h l t = wat g m t) : h = g ∧ l = m := by
  have d1 : l.length ∣ m.length := N.dvd (M := g.length) fun t ht => by
    rw [hs, hs]
    exact wat_per ht
  have d2 : m.length ∣ l.length := M.dvd (M := h.length) fun t ht => by
    rw [← hs, ← hs]
    exact wat_per ht
  have e : l.length = m.length := Nat.dvd_antisymm d1 d2
  have e2 : h.length = g.length := Nat.le_antisymm (N.head_le hs e) (M.head_le (fun t => (hs t).symm) e.symm)
  refine ⟨List.ext_getElem e2 fun i h1 h2 => ?_, List.ext_getElem e fun i h1 h2 => ?_⟩
  · have := hs i
    unfold wat at this
    rw [if_pos h1, if_pos h2, List.getD_eq_getElem?_getD, List.getD_eq_getElem?_getD, List.getElem?_eq_getElem h1, List.getElem?_eq_getElem h2] at this
    exact this
  · have := hs (h.length + i)
    rw [wat_cyc (by omega), wat_cyc (by omega), show h.length + i - h.length = i by omega, show h.length + i - g.length = i by omega, Wd.cyc_lt h1, Wd.cyc_lt h2] at this
    have a1 := lw_get h1
    have a2 := lw_get h2
    rw [List.getElem?_eq_getElem h1] at a1
    rw [List.getElem?_eq_getElem h2] at a2
    rw [Option.some.inj a1, Option.some.inj a2, this]
theorem at_last {l : List Int} (n : l ≠ []) : atI (l.map V.int) (-1) = some (.int (lw l (l.length - 1))) := by
  have hp := List.length_pos_iff.mpr n
  have e : l.map V.int = (l.dropLast.map V.int) ++ [.int (l.getLast n)] := by
    rw [← List.map_singleton, ← List.map_append, List.dropLast_concat_getLast]
  rw [e, atI_last]
  have q := last_at n
  rw [List.getLast?_eq_getLast n] at q
  rw [Option.some.inj q]
/-! repetition of a text -/
theorem flat_at {w : List Int} : ∀ (k i : Nat), i < k * w.length → (List.replicate k w).flatten[i]? = w[i % w.length]?
  | 0, i, h => by
    rw [Nat.zero_mul] at h
    exact absurd h (Nat.not_lt_zero i)
  | k + 1, i, h => by
    rw [List.replicate_succ, List.flatten_cons]
    rcases Nat.lt_or_ge i w.length with c | c
    · rw [List.getElem?_append_left c, Nat.mod_eq_of_lt c]
    · rw [List.getElem?_append_right c, flat_at k (i - w.length) (by rw [Nat.succ_mul] at h; omega), ← Nat.mod_eq_sub_mod c]
theorem flat_per {l : List Int} {p k : Nat} (hp : 0 < p) (hpl : p ≤ l.length) (e : l = (List.replicate k (l.take p)).flatten) (hk : k * p = l.length) : ∀ i, i + p < l.length → lw l i = lw l (i + p) := by
  intro i hi
  have el : (l.take p).length = p := by
    rw [List.length_take]
    omega
  have at_ : ∀ j, j < l.length → l[j]? = (l.take p)[j % p]? := fun j hj => by
    have h0 := flat_at (w := l.take p) k j (by rw [el, hk]; exact hj)
    rw [← e, el] at h0
    exact h0
  have h1 := at_ i (by omega)
  have h2 := at_ (i + p) hi
  rw [Nat.add_mod_right, ← h1, lw_get hi, lw_get (show i < l.length by omega)] at h2
  exact (Option.some.inj h2).symm
def spShort : Sp := fun vs H Q _ => ∃ (a b : Addr) (h l : List Int), vs = [.ref a, .ref b] ∧ SeqI H a h ∧ SeqI H b l ∧ l ≠ [] ∧ h.length ≤ 100000 ∧ l.length ≤ 100000 ∧
  ∀ (H' : Hp) (p : Addr) (h' l' : List Int), Same H H' → Las H' p h' l' → Short h l h' l' → Q (.ref p) H'
/-- what suffix hands back -/
def Suf (h l : List Int) (t : Nat) (h' l' : List Int) : Prop := Nrm h' l' ∧ (∀ i, wat h' l' i = wat h l (t + i)) ∧ h'.length ≤ h.length ∧ l'.length ≤ l.length ∧ (∀ x ∈ h', x ∈ h ∨ x ∈ l) ∧ ∀ x ∈ l', x ∈ l
def spSuffix : Sp := fun vs H Q _ => ∃ (p : Addr) (h l : List Int) (t : Nat), vs = [.ref p, .int t] ∧ Las H p h l ∧ l ≠ [] ∧ h.length ≤ 50000 ∧ l.length ≤ 50000 ∧
  ∀ (H' : Hp) (p' : Addr) (h' l' : List Int), Same H H' → Las H' p' h' l' → Suf h l t h' l' → Q (.ref p') H'
def spMake : Sp := fun vs H Q _ => ∃ (a b : Addr) (h l : List Int), vs = [.ref a, .ref b] ∧ H a = some (.lst (h.map V.int)) ∧ H b = some (.lst (l.map V.int)) ∧ l ≠ [] ∧ h.length ≤ 100000 ∧ l.length ≤ 100000 ∧ (∀ x ∈ h, 0 ≤ x) ∧ (∀ x ∈ l, 0 ≤ x) ∧
  ∀ (H' : Hp) (p : Addr) (h' l' : List Int), Same H H' → Las H' p h' l' → Short h l h' l' → Q (.ref p) H'
theorem suf_drop {h l : List Int} {t : Nat} (c : t < h.length) (i : Nat) : wat (h.drop t) l i = wat h l (t + i) := by
  unfold wat
  rw [List.length_drop]
  by_cases d : t + i < h.length
  · rw [if_pos d, if_pos (by omega), List.getD_eq_getElem?_getD, List.getD_eq_getElem?_getD, List.getElem?_drop]
  · rw [if_neg d, if_neg (by omega), show t + i - h.length = i - (h.length - t) by omega]
theorem suf_turn {h l : List Int} {t : Nat} (hn : l ≠ []) (c : h.length ≤ t) (i : Nat) : wat [] (l.drop ((t - h.length) % l.length) ++ l.take ((t - h.length) % l.length)) i = wat h l (t + i) := by
  have hp : 0 < l.length := List.length_pos_iff.mpr hn
  have hc := Nat.mod_lt (t - h.length) hp
  have e : l.drop ((t - h.length) % l.length) ++ l.take ((t - h.length) % l.length) = rot l l.length ((t - h.length) % l.length) := by
    have e3 : (l.drop ((t - h.length) % l.length)).take (l.length - (t - h.length) % l.length) = l.drop ((t - h.length) % l.length) := List.take_of_length_le (by rw [List.length_drop]; exact Nat.le_refl _)
    unfold rot
    rw [e3]
  rw [e, wat_cyc (Nat.zero_le _), wat_cyc (show h.length ≤ t + i by omega), rot_len hc (Nat.le_refl _)]
  show lw _ (_ % _) = lw _ (_ % _)
  rw [rot_at hc (Nat.le_refl _) (Nat.mod_lt _ hp), Nat.mod_add_mod, Nat.add_mod_mod]
  congr 2
  show i - 0 + _ = _
  omega
def spInts : Sp := fun vs H Q _ => ∃ (a : Addr) (xs : List Int) (lo hi : Int), vs = [.ref a, .int lo, .int hi] ∧ TupI H a xs ∧ (∀ x ∈ xs, lo ≤ x ∧ x < hi) ∧ Q (.bl true) H
def spNormal : Sp := fun vs H Q _ => ∃ (p : Addr) (h l : List Int), vs = [.ref p] ∧ Las H p h l ∧ Nrm h l ∧ l.length ≤ 1000 ∧ ∀ H', Same H H' → Q (.bl true) H'
def spIsLasso : Sp := fun vs H Q _ => ∃ (p : Addr) (h l : List Int) (n : Int), vs = [.ref p, .int n] ∧ Las H p h l ∧ Nrm h l ∧ l.length ≤ 1000 ∧ (∀ x ∈ h, 0 ≤ x ∧ x < n) ∧ (∀ x ∈ l, 0 ≤ x ∧ x < n) ∧ ∀ H', Same H H' → Q (.bl true) H'
/-! the same word in other forms -/
theorem wat_mem {h l : List Int} (n : l ≠ []) (t : Nat) : wat h l t ∈ h ∨ wat h l t ∈ l := by
  have hl : 0 < l.length := List.length_pos_iff.mpr n
  unfold wat
  by_cases c : t < h.length
  · rw [if_pos c, List.getD_eq_getElem?_getD, List.getElem?_eq_getElem c]
    exact .inl (List.getElem_mem c)
  · have c2 := Nat.mod_lt (t - h.length) hl
    rw [if_neg c, List.getD_eq_getElem?_getD, List.getElem?_eq_getElem c2]
    exact .inr (List.getElem_mem c2)
theorem range_getD {f : Nat → Int} {n t : Nat} (c : t < n) : ((List.range n).map f).getD t 0 = f t := by
  rw [List.getD_eq_getElem?_getD, List.getElem?_map, List.getElem?_range c]
  rfl
theorem wat_form {h l : List Int} {m k : Nat} (n : l ≠ []) (hk : 0 < k) (t : Nat) :
    wat ((List.range (h.length + m)).map (wat h l)) ((List.range (k * l.length)).map fun t => wat h l (h.length + m + t)) t = wat h l t := by
  have hl : 0 < l.length := List.length_pos_iff.mpr n
  have hkl : 0 < k * l.length := Nat.mul_pos hk hl
  rw [show wat ((List.range (h.length + m)).map (wat h l)) ((List.range (k * l.length)).map fun t => wat h l (h.length + m + t)) t
      = if t < ((List.range (h.length + m)).map (wat h l)).length then ((List.range (h.length + m)).map (wat h l)).getD t 0 else ((List.range (k * l.length)).map fun t => wat h l (h.length + m + t)).getD ((t - ((List.range (h.length + m)).map (wat h l)).length) % ((List.range (k * l.length)).map fun t => wat h l (h.length + m + t)).length) 0 from rfl]
  rw [List.length_map, List.length_range, List.length_map, List.length_range]
  by_cases c : t < h.length + m
  · rw [if_pos c, range_getD c]
  · rw [if_neg c, range_getD (Nat.mod_lt _ hkl), wat_cyc (by omega), wat_cyc (by omega)]
    show lw l (_ % _) = lw l (_ % _)
    congr 1
    have e1 : h.length + m + (t - (h.length + m)) % (k * l.length) - h.length = m + (t - (h.length + m)) % (k * l.length) := by omega
    have e2 : t - h.length = m + (t - (h.length + m)) := by omega
    rw [e1, e2, ← Nat.add_mod_mod, Nat.mod_mod_of_dvd _ ⟨k, Nat.mul_comm k l.length⟩, Nat.add_mod_mod]
theorem wat_front (f h l : List Int) (i : Nat) : wat (f ++ h) l (f.length + i) = wat h l i := by
  unfold wat
  rw [List.length_append]
  by_cases c : i < h.length
  · rw [if_pos c, if_pos (by omega), List.getD_eq_getElem?_getD, List.getD_eq_getElem?_getD, List.getElem?_append_right (by omega), Nat.add_sub_cancel_left]
  · rw [if_neg c, if_neg (by omega), show f.length + i - (f.length + h.length) = i - h.length by omega]
def dLas (h l : List Int) : PyData := .tuple [.tuple (h.map PyData.int), .tuple (l.map PyData.int)]
theorem dp_las {K : PySem.W.Frag} {H : Hp} {p : Addr} {h l : List Int} (x : Las H p h l) : Dp K H (.ref p) (dLas h l) := by
  obtain ⟨a, b, e1, e2, e3⟩ := x
  exact .tup (.of e1) (.cons (dp_tup e2) (.cons (dp_tup e3) .nil))
theorem shaped_las (h l : List Int) : SeqAt.shaped (dLas h l) = true := by
  unfold SeqAt.shaped dLas
  rw [PyData.canLay0, PyData.canLayAll0, PyData.canLayAll0, PyData.canLayAll0, PyData.canLay0, layAll, PyData.canLay0, layAll, PyData.depth, PyData.depthAll, PyData.depthAll, PyData.depthAll, PyData.depth, depAll, PyData.depth, depAll]
  rfl
theorem eqv_las (h l : List Int) : PyData.eqv (dLas h l) (dLas h l) = true := by
  unfold dLas
  rw [PyData.eqv, PyData.eqvAll, PyData.eqvAll, PyData.eqvAll, eqv_tup, eqv_tup]
  simp
def spCell (K : PySem.W.Frag) : Sp := fun vs H Q _ => ∃ (a : Addr) (ns : List Int) (k : Nat), vs = [.ref a, .int k] ∧ SqL K H a (ns.map V.int) ∧ ∀ v : Int, Q (.int v) H
def spNegX (C : Addr) : Sp := fun vs H _ E => ∃ (p : Addr) (t : Int), vs = [.ref p, .int t] ∧ t < 0 ∧ E (.ref C) none H
def spRefuses : Sp := fun vs H Q _ => ∃ (p : Addr) (t : Int), vs = [.ref p, .int t] ∧ t < 0 ∧ Q (.bl true) H
def spSame : Sp := fun vs H Q _ => ∃ (p q : Addr) (h l h2 l2 : List Int), vs = [.ref p, .ref q] ∧ Pr H p h l ∧ Pr H q h2 l2 ∧ l ≠ [] ∧ l2 ≠ [] ∧ dfn h l h2 l2 ≤ 1000000 ∧ (∀ t, wat h l t = wat h2 l2 t) ∧ Q (.bl true) H
def spMakeX (cE cL : Addr) : Sp := fun vs H Q E => ∃ (a b : Addr) (h l : List Int), vs = [.ref a, .ref b] ∧ H a = some (.lst (h.map V.int)) ∧ H b = some (.lst (l.map V.int)) ∧ h.length ≤ 100000 ∧ l.length ≤ 100000 ∧
  (l = [] → E (.ref cE) none H) ∧ (l ≠ [] → (∃ x, (x ∈ h ∨ x ∈ l) ∧ x < 0) → E (.ref cL) none H) ∧
  (l ≠ [] → (∀ x, x ∈ h ∨ x ∈ l → 0 ≤ x) → ∀ (H' : Hp) (p : Addr) (h' l' : List Int), Same H H' → Las H' p h' l' → Short h l h' l' → Q (.ref p) H')
def spOut : Sp := fun vs H Q _ => ∃ (a b : Addr) (h l : List Int), vs = [.ref a, .ref b] ∧ H a = some (.lst (h.map V.int)) ∧ H b = some (.lst (l.map V.int)) ∧ h.length ≤ 100000 ∧ l.length ≤ 100000 ∧
  (l = [] → ∀ (H' : Hp) (p : Addr), Same H H' → H' p = some (.tup [.str "empty", .bl true]) → Q (.ref p) H') ∧
  (l ≠ [] → (∃ x, (x ∈ h ∨ x ∈ l) ∧ x < 0) → ∀ (H' : Hp) (p : Addr), Same H H' → H' p = some (.tup [.str "letter", .bl true]) → Q (.ref p) H') ∧
  (l ≠ [] → (∀ x, x ∈ h ∨ x ∈ l → 0 ≤ x) → ∀ (H' : Hp) (p q : Addr) (h' l' : List Int), Same H H' → H' p = some (.tup [.str "lasso", .ref q]) → Las H' q h' l' → Short h l h' l' → Q (.ref p) H')
theorem neg_cases (h l : List Int) : (∃ x, (x ∈ h ∨ x ∈ l) ∧ x < 0) ∨ ∀ x, x ∈ h ∨ x ∈ l → 0 ≤ x := by
  by_cases c : ∃ x, (x ∈ h ∨ x ∈ l) ∧ x < 0
  · exact .inl c
  · exact .inr fun x hx => by
      rcases Int.lt_or_le x 0 with z | z
      · exact absurd ⟨x, hx, z⟩ c
      · exact z
def spIsInt : Sp := fun vs H Q _ => ∃ (i : Int), vs = [.int i] ∧ Q (.bl true) H
end Bx
/-! ### own errors, two levels below ValueError -/
namespace Bx
open PySem PySem.Spec PyProof.Rows L2
abbrev veB : List Value := [.type "ValueError", .type "Exception", .type "BaseException", .type "object"]
structure ErrC (K : PySem.W.Frag) (mg : Str → Option Value) (x : Str) (C : Addr) : Prop where
  g : mg x = some (.ref C)
  ex : PySem.W.excIn K C veB "ValueError.__new__" = true
  kp : PySem.W.keepIn K (.ref C) = true
  ty : PySem.W.typeIn K (.ref C) = some (.type "type")
  sf : PySem.W.subIn K (.ref C) (.ref C) = some true
  ec : ExcC K C
theorem ErrC.exm {K : PySem.W.Frag} {mg : Str → Option Value} {x : Str} {C : Addr} {cls : Value} {b : Bool} (e : ErrC K mg x C) (h : PySem.W.subIn K cls (.ref C) = some b) : PySem.W.exmOne K cls (.ref C) = some b := PySem.W.exm_ref e.ec.hs e.ec.hd e.ty h
theorem ErrC.me {K : PySem.W.Frag} {mg : Str → Option Value} {x : Str} {C : Addr} (e : ErrC K mg x C) : PySem.W.exmOne K (.ref C) (.ref C) = some true := e.exm e.sf
/-- raise X('..') -/
theorem ErrC.made {X : Cx} {C : Addr} {x m : Str} {j : Nat} {p p2 pos : Pos} (e : ErrC X.K X.mg x C) (hg : Gl X x) (hd : (x == ("__debug__" : Str)) = false := by decide) : PMk X (.Call (.Name x p) [.Constant (.str m) j p2] [] pos) (fun _ H Q => Q (.ref C) none H) :=
  pmk_own PySem.F.excBase_ValueError e.ex e.g e.kp (raises_own e.ec.hs e.ty) hg hd
/-- isinstance(e, c), e the exception that the suite holds -/
def rIsEx (K : PySem.W.Frag) (a : Addr) (cls : Value) (d : Option Addr) : List V → Hp → VK → Prop := fun xs H Q => ∃ D : Addr, cls = .ref D ∧ d = none ∧ ExcC K D ∧ rIsE K D a xs H Q
theorem call_isEx {X : Cx} {K : PySem.W.Frag} {a : Addr} {cls : Value} {d : Option Addr} {oe : Obj} {pn : List (Addr × Obj)} (h : X.K = K) (hz : Zc cls d oe) (hf : ∃ vs, oe.data = .fields vs) : CallR (X.suite a ((a, oe) :: pn)) (.builtin "isinstance") (rIsEx K a cls d) := by
  subst h
  intro pins s σ H xs us Q I r hw
  obtain ⟨D, rfl, rfl, C, hw⟩ := hw
  exact call_isE C hz hf pins s σ H xs us Q I r hw
/-- a def that may raise, by its name -/
structure CalX (P : Program) (w : World) (K : PySem.W.Frag) (mg : Str → Option Value) (base : Heap) (k : Nat) (x : Str) (sp : Sp) : Prop where
  ex : ∃ (f : Addr) (fd : FuncData) (ps : List Str), FnOk P w K mg base (L2.CX P w) k f fd ps sp ∧ mg x = some (.ref f) ∧ PySem.W.keepIn K (.ref f) = true ∧ Binds K fd ps []
theorem pe_cx {X : Cx} {k j : Nat} {x : Str} {sp : Sp} {W : WX} {p pos : Pos} {e : Expr} {es : List Expr} {t : TA} (c : CalX X.prog X.w X.K X.mg X.base k x sp) (hr : Room j X.A) (hk : k ≤ j) (tk : Takes X W) (hg : Gl X x) (ha : PA X (e :: es) t)
    (hdb : (x == ("__debug__" : Str)) = false := by decide) (he : starEach (e :: es) X.env = (false, eval e X.env) :: starEach es X.env := by rfl) (hpl : (backTo pos (starEach es X.env)).any (·.1) = false := by rfl) :
    PE X (.Call (.Name x p) (e :: es) [] pos) (tCallS sp (WE W) t) := by
  obtain ⟨f, fd, ps, F, hm, kp, b⟩ := c.ex
  exact pe_callS F (hr.mono hk) hg hm kp b (fun σ => passAt tk σ) ha hdb he hpl
end Bx
/-! ### several clauses, each with its name: own rule -/
namespace Bx
open PySem PySem.Spec PyProof.Rows L2
/-- what the clauses wish, one after the other: (class, the name's slot, the suite's reading) -/
def wAll (K : PySem.W.Frag) (Wo : WX) (D : Ends) : List (Value × Nat × (Addr → Value → Option Addr → TS)) → WX
  | [] => Wo
  | (c, i, ts) :: r => fun cls d σ H => ∃ b, PySem.W.exmOne K cls c = some b ∧
    (b = true → ∀ a, H a = none → ts a cls d { nx := fun σ' H' => D.nx (σ'.set i none) H', rt := D.rt, bk := fun σ' H' => D.bk (σ'.set i none) H', ct := fun σ' H' => D.ct (σ'.set i none) H' } (σ.set i (some (.ref a))) H) ∧
    (b = false → wAll K Wo D r cls d σ H)
inductive Clauses (Y : Cx) : List ExceptHandler → List (Value × Nat × (Addr → Value → Option Addr → TS)) → Prop
  | nil : Clauses Y [] []
  | cons {x n : Str} {c : Value} {i : Nat} {ts : Addr → Value → Option Addr → TS} {b0 : Stmt} {suite : List Stmt} {p p' : Pos} {cs : List ExceptHandler} {l : List (Value × Nat × (Addr → Value → Option Addr → TS))}
      (hc : Names Y x c) (hi : Y.N[i]? = some n) (hl : Y.env.kindOf n = some .local)
      (su : ∀ (a : Addr) (oe : Obj) (cls : Value) (d : Option Addr) (pn : List (Addr × Obj)), Zc cls d oe → (∃ vs, oe.data = .fields vs) → PSs (Y.suite a ((a, oe) :: pn)) (b0 :: suite) (ts a cls d)) (r : Clauses Y cs l) :
      Clauses Y (.ExceptHandler (some (.Name x p)) (some n) (b0 :: suite) p' :: cs) ((c, i, ts) :: l)
theorem ps_try_all {Y : Cx} {body : List Stmt} {c0 : ExceptHandler} {cs : List ExceptHandler} {l : List (Value × Nat × (Addr → Value → Option Addr → TS))} {pos : Pos} {tb : WX → TS} {Wo : WX}
    (ks : Y.stack = Y.env :: Y.outer) (kf : Y.env.frame = some Y.env.locals) (kN : Y.N.Nodup) (tk : Takes Y Wo)
    (kb : ∀ (W : WX) (pn : List (Addr × Obj)) (xe : Value → Shared → Prop), Takes (Y.tr pn xe) W → PassesOwn (model Y.prog Y.w) Y.A Y.env xe → PSs (Y.tr pn xe) body (tb W))
    (kh : Clauses Y (c0 :: cs) l) : PS Y (.Try body (c0 :: cs) [] [] pos) (fun D σ H => tb (wAll Y.K Wo D l) D σ H) := by
  refine ⟨fun pins u σ H D I hw => ?_⟩
  have okY := I.ok
  have fr := okY.frames
  rw [ks] at fr
  refine wpAny_Try_except ?_
  refine wpAny_mono ((kb (wAll Y.K Wo D l) (Y.pn ++ pins) (fun e u1 => wpAny (model Y.prog Y.w) Y.A (noteFrame e Y.env) (fun _ u2 => wpAny (model Y.prog Y.w) Y.A (setFlight e none) (fun _ u3 =>
    wpAny (model Y.prog Y.w) Y.A (handleBy e Y.env (c0 :: cs)) (SP Y pins D) Y.xe u3) Y.xe u2) Y.xe u1) (fun v g xx => ?_) PassesOwn.looking).run [] u σ H D (I.toTry _) hw) (fun f u1 q => ?_) (fun e u1 q => q)
  · obtain ⟨a, B, sI, pins1, σ1, H1, cls, d, rfl, Jt, nb, up, sk, na, os, ag, w⟩ := xx
    have J : Inv Y pins σ1 H1 sI := Jt.ofTry okY
    have sk1 : Sky B (Y.env :: Y.outer) a (Zc cls d) Y.env.locals g.heap := by rw [← ks]; exact sk
    show wpAny (model Y.prog Y.w) Y.A (noteFrame (.ref a) Y.env) _ _ _
    refine Sky.land Zc.steady fr kf sk1 fun g3 f3 u3 => ?_
    have I3 : Inv Y pins σ1 H1 { g with heap := g3 } := J.landed nb f3.1 (up.trans u3) os ag
    obtain ⟨o3, w3, at3, z3, dt3⟩ := f3.there
    have apart : ∀ {t : Heap} {o : Obj} {vs : Array Value}, t.FunFrames B (Y.env :: Y.outer) → t.get? a = some o → o.data = .fields vs → a ∉ frs (Y.env :: Y.outer) := fun {t o vs} ff e dd hm => by
      obtain ⟨_, o2, e2, q2⟩ := ff.mem hm
      rw [e] at e2
      cases e2
      exact q2 _ dd
    have n0 := apart f3.2.2.1 at3 dt3
    have nL : a ≠ Y.env.locals := fun z => n0 (List.mem_filterMap.mpr ⟨Y.env, List.mem_cons_self, by rw [kf, z]⟩)
    have nF : a ∉ Y.fs := fun hm => by
      obtain ⟨e, he, q⟩ := List.mem_filterMap.mp hm
      exact n0 (List.mem_filterMap.mpr ⟨e, List.mem_cons_of_mem _ he, q⟩)
    have T3 := I3.suite at3 dt3 na nL nF
    have all : ∀ {cs2 : List ExceptHandler} {l2 : List (Value × Nat × (Addr → Value → Option Addr → TS))}, Clauses Y cs2 l2 → wAll Y.K Wo D l2 cls d σ1 H1 →
        wpAny (model Y.prog Y.w) Y.A (handleBy (.ref a) Y.env cs2) (SP Y pins D) Y.xe { g with heap := g3 } := by
      intro cs2 l2 hk
      induction hk with
      | nil =>
        intro w
        refine wpAny_handleBy_nil ?_
        obtain ⟨_, _, _, oe, vs, T, oT, t2, he, hz, hd, h1, _⟩ := id f3
        unfold PySem.passOn
        refine wpAny_bind (wpAny_field he hd h1 ?_)
        rw [if_neg (show ¬ ((Value.ref T == Value.none) = true) from by simp)]
        have away : wpAny (model Y.prog Y.w) Y.A (setFlight (.ref a) Y.env.frame) (fun _ u4 => wpAny (model Y.prog Y.w) Y.A (throw (.ref a) : Sem Flow) (SP Y pins D) Y.xe u4) Y.xe { g with heap := g3 } := by
          rw [kf]
          refine HandSPX.setFlight_upZ f3 fun g4 q4 u4 => wpAny_throw (tk _ _ ?_)
          exact ⟨a, B, sI, pins, σ1, H1, cls, d, rfl, J, nb, (up.trans u3).trans u4, .inr (.inr (by rw [ks]; exact q4)), na, os, ag, w⟩
        first
          | exact wpAny_bind (wpAny_pure (wpAny_bind away))
          | exact wpAny_bind away
      | @cons x n c i ts b0 suite p p' cs3 l3 hc hi hl su r ih =>
        intro w
        obtain ⟨b, e1, yes, no⟩ := w
        refine wpAny_handleBy_cons (codeAny_handlers_test ?_) (by intro q; cases q)
        have LT : PySem.W.Looks (model Y.prog Y.w) g3 (typeOf (.ref a)) cls := fun A Q E s k q => wpAny_typeOf_ref (k _ _ at3) (by rw [z3.1]; exact q)
        have LM := PySem.W.exm_one (M := model Y.prog Y.w) (I3.kIn) LT e1
        have test : ∀ {Q : Value → Shared → Prop} {E : Value → Shared → Prop}, Q c { g with heap := g3 } → wpAny (model Y.prog Y.w) (Y.A.mark (some (.ref a))) (eval (.Name x p) Y.env) Q E { g with heap := g3 } := fun {Q E} q => by
          obtain ⟨hg, hdb, hm | ⟨hm, hv, hnn⟩⟩ := hc
          · exact ld_glob (X := Y.suite a ((a, o3) :: (Y.pn ++ pins))) T3 hg hm q hdb
          · exact ld_blt (X := Y.suite a ((a, o3) :: (Y.pn ++ pins))) T3 hg hm hv q hnn hdb
        refine test (LM.here ?_)
        cases b with
        | true =>
          refine codeAny_handlers_suite_as ?_
          refine HandSPX.lands_againZ f3 fun g4 f4 u4 => ?_
          have I4 : Inv Y pins σ1 H1 { g with heap := g4 } := J.landed nb f4.1 ((up.trans u3).trans u4) os ag
          obtain ⟨o4, w4, at4, z4, dt4⟩ := f4.there
          have T4 := I4.suite at4 dt4 na nL nF
          refine store_ok (X := Y.suite a ((a, o4) :: (Y.pn ++ pins))) (v := .ref a) T4 kN hi (.inl hl) rfl (fun u5 T5 => ?_) (.inr hl)
          refine wpAny_mono ((su a o4 cls d (Y.pn ++ pins) z4 ⟨_, dt4⟩).run [] u5 _ H1 _ T5 (yes rfl a na)) (fun f u6 q => ?_) (fun _ _ z => False.elim z)
          have fin : ∀ {σ6 : L2.St} {H6 : Hp} {Q : Shared → Prop}, Inv (Y.suite a ((a, o4) :: (Y.pn ++ pins))) [] σ6 H6 u6 → (∀ u7, Inv Y pins (σ6.set i none) H6 u7 → Q u7) →
              wpAny (model Y.prog Y.w) Y.A (do bindName Y.env n .none; unbindBehindTheSuite Y.env n p') (fun _ u7 => Q u7) Y.xe u6 := fun {σ6 H6 Q} T6 hq => gone_ok (T6.unsuite okY) kN hi hl hq
          cases f with
          | next =>
            obtain ⟨_, _, T6, q6⟩ := q
            exact fin T6 fun _ I7 => ⟨_, _, I7, q6⟩
          | brk =>
            obtain ⟨_, _, T6, q6⟩ := q
            exact fin T6 fun _ I7 => ⟨_, _, I7, q6⟩
          | cont =>
            obtain ⟨_, _, T6, q6⟩ := q
            exact fin T6 fun _ I7 => ⟨_, _, I7, q6⟩
          | ret v =>
            obtain ⟨_, _, _, T6, r6, q6⟩ := q
            exact fin T6 fun _ I7 => ⟨_, _, _, I7, r6, q6⟩
        | false =>
          show wpAny _ Y.A (handleBy (.ref a) Y.env cs3) _ _ _
          exact ih (no rfl)
    exact all kh w
  · cases f with
    | next =>
      obtain ⟨_, _, J1, q1⟩ := q
      exact wpAny_execs_nil ⟨_, _, J1.ofTry okY, q1⟩
    | brk =>
      obtain ⟨_, _, J1, q1⟩ := q
      exact ⟨_, _, J1.ofTry okY, q1⟩
    | cont =>
      obtain ⟨_, _, J1, q1⟩ := q
      exact ⟨_, _, J1.ofTry okY, q1⟩
    | ret v =>
      obtain ⟨_, _, _, J1, r1, q1⟩ := q
      exact ⟨_, _, _, J1.ofTry okY, r1, q1⟩
end Bx
/-! ### max of a tuple of ints, lcm: own rules -/
namespace MaxT
open PySem PySem.W PyProof.Rows
section
variable {prog : Program} {w : World} {A : Around} {E : Value → Shared → Prop} {s : Shared}
theorem walkT {l : Addr} {xs : Array (Int × Tok)} {Q : Value → Shared → Prop} (hh : A.handled = none) (ht : s.heap.IsTuple l (intItems xs)) (hne : 0 < xs.size)
    (h : ∀ v g tk, (intItems xs)[argBest (fun i j => decide (numAt xs i > numAt xs j)) (xs.size - 1)]? = some v → (∀ b o, s.heap.get? b = some o → g.get? b = some o) → Q v { s with heap := g, toks := tk }) :
    wpAny (model prog w) A (call (.builtin "max") [.ref l]) Q E s := by
  have ll : l < s.heap.objs.size := by
    obtain ⟨_, e, _⟩ := ht
    exact Heap.lt_size e
  refine call_max_walk (wpAny_pyIter_tuple ht ?_)
  refine ⟨_, _, _, _, _, _, _, rfl, Walks.tuple (A := A.in1) hh _ l (Nat.ne_of_lt ll) (intItems xs), ⟨⟨_, Heap.get?_push_size _ rfl, rfl, rfl⟩, ht.push _⟩, fun c hc => ?_, by simpa [intItems] using hne, CmpOf.ints_gt (numAt xs) (fun _ _ => intItems_at), fun v g tk hP hk => ?_⟩
  · show c < (s.heap.push _).objs.size
    rw [Heap.size_push]
    rcases List.mem_cons.mp hc with rfl | hc
    · exact Nat.lt_succ_self _
    · rcases List.mem_cons.mp hc with rfl | hc
      · exact Nat.lt_succ_of_lt ll
      · cases hc
  · refine h v g tk (by simpa [intItems] using hP) fun b o e => hk b o (fun hm => ?_) (Heap.get?_push_of_some _ e)
    have e1 : b = s.heap.objs.size := List.mem_singleton.mp hm
    rw [e1] at e
    exact absurd (Heap.lt_size e) (Nat.lt_irrefl _)
theorem rawT {l : Addr} {its : List Value} {ns : List Int} {Q : Value → Shared → Prop} (hh : A.handled = none) (hl : IsTup s.heap l its.toArray) (hi : IntsAre its ns) (hne : ns ≠ [])
    (h : ∀ (g : Heap) (tk : Nat) (m : Int) (t' : Tok), (∀ b o, s.heap.get? b = some o → g.get? b = some o) → m ∈ ns → (∀ y ∈ ns, y ≤ m) → Q (.int m t') { s with heap := g, toks := tk }) :
    wpAny (model prog w) A (call (.builtin "max") [.ref l]) Q E s := by
  obtain ⟨xs, e⟩ := hi.allInts.items
  have hn : numsOf (intItems xs).toList = ns := by rw [← e]; exact hi.numsOf
  rw [PySem.nums_intItems] at hn
  subst hn
  rw [e] at hl
  have c : 0 < xs.size := by
    rcases Nat.eq_zero_or_pos xs.size with z | z
    · refine absurd ?_ hne
      have : xs = #[] := Array.eq_empty_of_size_eq_zero z
      rw [this]
      rfl
    · exact z
  refine walkT hh hl c fun v g tk p1 keep => ?_
  obtain ⟨u, rfl⟩ := intItems_at p1
  obtain ⟨a1, a2⟩ := argBest_gt (numAt xs) (xs.size - 1)
  refine h g tk _ u keep ?_ fun y hy => ?_
  · rw [PySem.numAt_eq]
    refine PySem.getD_mem ?_
    rw [List.length_map, Array.length_toList]
    exact Nat.lt_of_le_of_lt a1 (by omega)
  · obtain ⟨j, hj, rfl⟩ := PySem.mem_getD hy
    rw [List.length_map, Array.length_toList] at hj
    rw [← PySem.numAt_eq]
    exact a2 j (by omega)
end
end MaxT
namespace Bx
open PySem PySem.Spec PyProof.Rows L2
def rMaxT (K : PySem.W.Frag) : List V → Hp → VK → Prop := fun xs H Q => ∃ (a : Addr) (ns : List Int), xs = [.ref a] ∧ SqT K H a (ns.map V.int) ∧ ns ≠ [] ∧ ∀ m, m ∈ ns → (∀ y ∈ ns, y ≤ m) → Q (.int m) H
theorem call_maxT {X : Cx} {K : PySem.W.Frag} (h : X.K = K) (hc : X.calm = true) : CallR X (.builtin "max") (rMaxT K) := by
  subst h
  intro pins s σ H xs us Q I r hw
  obtain ⟨a, ns, rfl, hs, hne, q⟩ := hw
  obtain ⟨its, rv, ht, _⟩ := I.tuple hs
  rw [Vals.ref1 r]
  exact MaxT.rawT (I.ok.hd hc) ht rv.ints hne fun g tk m t' hk h1 h2 => ⟨.int m, H, I.kept hk, ⟨_, rfl⟩, q m h1 h2⟩
theorem call_maxK {X : Cx} {K : PySem.W.Frag} (h : X.K = K) (hc : X.calm = true) : CallR X (.builtin "max") (rMax K) := by
  subst h
  exact cr_max hc
def spCheckX (cL : Addr) : Sp := fun vs H Q E => ∃ (p : Addr) (h l : List Int) (n : Int), vs = [.ref p, .int n] ∧ Las H p h l ∧ l ≠ [] ∧ h.length ≤ 1000 ∧ l.length ≤ 1000 ∧
  ((∃ x, (x ∈ h ∨ x ∈ l) ∧ n ≤ x) → ∀ H', Same H H' → E (.ref cL) none H') ∧ ((∀ x, x ∈ h ∨ x ∈ l → x < n) → ∀ H', Same H H' → Q .non H')
end Bx
/-! ### lists of lists, instances made in a try: own rules -/
namespace Bx
open PySem PySem.Spec PyProof.Rows L2
section
variable {X : Cx}
theorem pi_or {tg iter : Expr} {w1 w2 : TI} (h1 : PI X tg iter w1) (h2 : PI X tg iter w2) : PI X tg iter (fun σ H R => w1 σ H R ∨ w2 σ H R) := ⟨fun pins s σ H R I h => by
  rcases h with h | h
  · exact h1.run pins s σ H R I h
  · exact h2.run pins s σ H R I h⟩
theorem passF {P : Program} {w : World} : Passes (L2.CX P w) X (fun _ _ _ => False) := fun _ _ _ _ _ _ _ h => by
  obtain ⟨_, _, _, _, _, _, _, _, _, _, _, _, z⟩ := h
  exact z.elim
/-- a new instance of an own class whose __init__ may raise -/
structure MakX (P : Program) (w : World) (K : PySem.W.Frag) (mg : Str → Option Value) (base : Heap) (k : Nat) (x : Str) (C : Addr) (sp : Sp) : Prop where
  ex : ∃ (f : Addr) (fd : FuncData) (ps : List Str), Mk K C f ∧ FnOk P w K mg base (L2.CX P w) k f fd ps sp ∧ mg x = some (.ref C) ∧ Binds K fd ps []
def tMakX (C : Addr) (sp : Sp) (E : L2.St → XK) (t : TA) : TE := fun σ H Q => t σ H fun vs H1 => ∀ x dx, H1 x = none → H1 dx = none → dx ≠ x → sp (.ref x :: vs) (upd (upd H1 dx (.own x)) x (.ins C dx [])) (fun v H2 => v = .non ∧ Q (.ref x) H2) (E σ)
theorem made_at {k : Nat} {f C : Addr} {fd : FuncData} {ps : List Str} {sp : Sp} {E : XK} {pins : List (Addr × Obj)} {σ : L2.St} {H : Hp} {u : Shared} {Q : VK} {us : List Value} {vs : List V} (M : Mk X.K C f) (F : FnOk X.prog X.w X.K X.mg X.base (L2.CX X.prog X.w) k f fd ps sp) (hr : Room (k + 1) X.A) (hb : Binds X.K fd ps [])
    (hx : PassesAt (L2.CX X.prog X.w) X σ E) (I : Inv X pins σ H u) (r : Vals vs us)
    (h : ∀ x dx, H x = none → H dx = none → dx ≠ x → sp (.ref x :: vs) (upd (upd H dx (.own x)) x (.ins C dx [])) (fun v H2 => v = .non ∧ Q (.ref x) H2) E) :
    wpAny (model X.prog X.w) X.A (call (.ref C) us) (EP X pins σ Q) X.xe u := by
  have q0 := h (u.heap.objs.size + 1) u.heap.objs.size (I.hok.fresh (Nat.le_succ _)) (I.hok.fresh (Nat.le_refl _)) (Nat.ne_of_lt (Nat.lt_succ_self _))
  have J := Inv.made (C := C) I
  have r2 : Vals (V.ref (u.heap.objs.size + 1) :: vs) (Value.ref (u.heap.objs.size + 1) :: us) := .cons rfl r
  have hl : (Value.ref (u.heap.objs.size + 1) :: us ++ []).length = ps.length := by
    have e := r2.length
    rw [F.len _ _ _ _ q0] at e
    rw [List.append_nil]
    exact e.symm
  refine wpAny_call (make_map (f := f) I.kIn M.makes M.init (beq_iff_eq.mp M.fn) (codeAny_mono (F.run _ X.stack _ _ ⟨Value.ref (u.heap.objs.size + 1) :: us, []⟩ (Value.ref (u.heap.objs.size + 1) :: us) _ _ E (hr.make C us [])
    (J.env0.make C us []) (by have q := hb _ (Value.ref (u.heap.objs.size + 1) :: us) J.kIn hl; rw [List.append_nil] at q; exact q) r2 q0) fun r u' hq => ?_))
  cases r with
  | error e => exact hx pins _ _ e u' J hq
  | ok fl =>
    cases fl with
    | ret v =>
      obtain ⟨y, G, J3, ry, ey, qy⟩ := J.after hq
      subst ey
      exact ⟨ry, ⟨V.ref (u.heap.objs.size + 1), G, J3, rfl, qy⟩⟩
    | next => exact False.elim hq
    | brk => exact False.elim hq
    | cont => exact False.elim hq
theorem pe_makeX {k j : Nat} {C : Addr} {x : Str} {sp : Sp} {W : WX} {p pos : Pos} {e : Expr} {es : List Expr} {t : TA} (c : MakX X.prog X.w X.K X.mg X.base k x C sp) (hr : Room j X.A) (hk : k + 1 ≤ j) (tk : Takes X W) (hg : Gl X x) (ha : PA X (e :: es) t)
    (hdb : (x == ("__debug__" : Str)) = false := by decide) (he : starEach (e :: es) X.env = (false, eval e X.env) :: starEach es X.env := by rfl) (hpl : (backTo pos (starEach es X.env)).any (·.1) = false := by rfl) :
    PE X (.Call (.Name x p) (e :: es) [] pos) (tMakX C sp (WE W) t) := by
  obtain ⟨f, fd, ps, M, F, hm, b⟩ := c.ex
  refine ⟨fun pins u σ H Q I hw => ?_⟩
  refine wpAny_Call_Name_kw (ld_glob I hg hm ?_ hdb)
  refine PySem.W.callWith_K (h₀ := X.base) I.ok.mod.kin M.kp (thn (ha.run pos pins u σ H _ I hw) fun us u1 ⟨vs, H1, I1, rv, qv⟩ => ⟨I1.kIn, ?_⟩) he hpl
  exact made_at M F (hr.mono hk) b (passAt tk σ) I1 rv qv
theorem pe_makeN {k j : Nat} {C : Addr} {x : Str} {sp : Sp} {p pos : Pos} {e : Expr} {es : List Expr} {t : TA} (c : MakX X.prog X.w X.K X.mg X.base k x C sp) (hr : Room j X.A) (hk : k + 1 ≤ j) (hg : Gl X x) (ha : PA X (e :: es) t)
    (hdb : (x == ("__debug__" : Str)) = false := by decide) (he : starEach (e :: es) X.env = (false, eval e X.env) :: starEach es X.env := by rfl) (hpl : (backTo pos (starEach es X.env)).any (·.1) = false := by rfl) :
    PE X (.Call (.Name x p) (e :: es) [] pos) (tMakX C sp (fun _ => fun _ _ _ => False) t) := by
  obtain ⟨f, fd, ps, M, F, hm, b⟩ := c.ex
  refine ⟨fun pins u σ H Q I hw => ?_⟩
  refine wpAny_Call_Name_kw (ld_glob I hg hm ?_ hdb)
  refine PySem.W.callWith_K (h₀ := X.base) I.ok.mod.kin M.kp (thn (ha.run pos pins u σ H _ I hw) fun us u1 ⟨vs, H1, I1, rv, qv⟩ => ⟨I1.kIn, ?_⟩) he hpl
  exact made_at M F (hr.mono hk) b (fun pins G v e v' J q => passF pins σ G v e v' J q) I1 rv qv
end
/-! rows of ints -/
def RowsA (mk : List V → HO) (H : Hp) : List Addr → List (List Int) → Prop
  | [], [] => True
  | a :: as, r :: rs => H a = some (mk (r.map V.int)) ∧ RowsA mk H as rs
  | _, _ => False
def RowsQ (H : Hp) : List Addr → List (List Int) → Prop
  | [], [] => True
  | a :: as, r :: rs => SeqI H a r ∧ RowsQ H as rs
  | _, _ => False
theorem RowsA.keep {mk : List V → HO} {H H' : Hp} : ∀ {as : List Addr} {rs : List (List Int)}, (∀ b o, b ∈ as → H b = some o → H' b = some o) → RowsA mk H as rs → RowsA mk H' as rs
  | [], [], _, _ => True.intro
  | a :: as, r :: rs, k, h => ⟨k a _ List.mem_cons_self h.1, RowsA.keep (fun b o hb => k b o (List.mem_cons_of_mem _ hb)) h.2⟩
  | [], _ :: _, _, h => h.elim
  | _ :: _, [], _, h => h.elim
theorem RowsA.same {mk : List V → HO} {H H' : Hp} {as : List Addr} {rs : List (List Int)} (k : Same H H') (h : RowsA mk H as rs) : RowsA mk H' as rs := h.keep fun b o _ e => k b o e
theorem RowsA.len {mk : List V → HO} {H : Hp} : ∀ {as : List Addr} {rs : List (List Int)}, RowsA mk H as rs → as.length = rs.length
  | [], [], _ => rfl
  | a :: as, r :: rs, h => congrArg (· + 1) h.2.len
  | [], _ :: _, h => h.elim
  | _ :: _, [], h => h.elim
theorem RowsA.snoc {mk : List V → HO} {H : Hp} {a : Addr} {r : List Int} (ha : H a = some (mk (r.map V.int))) : ∀ {as : List Addr} {rs : List (List Int)}, RowsA mk H as rs → RowsA mk H (as ++ [a]) (rs ++ [r])
  | [], [], _ => ⟨ha, True.intro⟩
  | b :: as, q :: rs, h => ⟨h.1, h.2.snoc ha⟩
  | [], _ :: _, h => h.elim
  | _ :: _, [], h => h.elim
theorem RowsA.get {mk : List V → HO} {H : Hp} : ∀ {as : List Addr} {rs : List (List Int)} {i : Nat} {a : Addr}, RowsA mk H as rs → as[i]? = some a → ∃ r, rs[i]? = some r ∧ H a = some (mk (r.map V.int))
  | [], _, _, _, _, e => by simp at e
  | b :: as, [], _, _, h, _ => h.elim
  | b :: as, q :: rs, 0, a, h, e => by
    have : b = a := Option.some.inj e
    subst this
    exact ⟨q, rfl, h.1⟩
  | b :: as, q :: rs, i + 1, a, h, e => RowsA.get (i := i) h.2 e
theorem RowsA.q1 {H : Hp} : ∀ {as : List Addr} {rs : List (List Int)}, RowsA .lst H as rs → RowsQ H as rs
  | [], [], _ => True.intro
  | a :: as, r :: rs, h => ⟨.inl h.1, h.2.q1⟩
  | [], _ :: _, h => h.elim
  | _ :: _, [], h => h.elim
theorem RowsA.q2 {H : Hp} : ∀ {as : List Addr} {rs : List (List Int)}, RowsA .tup H as rs → RowsQ H as rs
  | [], [], _ => True.intro
  | a :: as, r :: rs, h => ⟨.inr h.1, h.2.q2⟩
  | [], _ :: _, h => h.elim
  | _ :: _, [], h => h.elim
theorem RowsQ.same {H H' : Hp} (k : Same H H') : ∀ {as : List Addr} {rs : List (List Int)}, RowsQ H as rs → RowsQ H' as rs
  | [], [], _ => True.intro
  | a :: as, r :: rs, h => ⟨h.1.same k, h.2.same k⟩
  | [], _ :: _, h => h.elim
  | _ :: _, [], h => h.elim
theorem RowsQ.len {H : Hp} : ∀ {as : List Addr} {rs : List (List Int)}, RowsQ H as rs → as.length = rs.length
  | [], [], _ => rfl
  | a :: as, r :: rs, h => congrArg (· + 1) h.2.len
  | [], _ :: _, h => h.elim
  | _ :: _, [], h => h.elim
theorem RowsQ.get {H : Hp} : ∀ {as : List Addr} {rs : List (List Int)} {i : Nat} {a : Addr}, RowsQ H as rs → as[i]? = some a → ∃ r, rs[i]? = some r ∧ SeqI H a r
  | [], _, _, _, _, e => by simp at e
  | b :: as, [], _, _, h, _ => h.elim
  | b :: as, q :: rs, 0, a, h, e => by
    have : b = a := Option.some.inj e
    subst this
    exact ⟨q, rfl, h.1⟩
  | b :: as, q :: rs, i + 1, a, h, e => RowsQ.get (i := i) h.2 e
/-- a list or a tuple of any values -/
def SeqV (H : Hp) (a : Addr) (xs : List V) : Prop := H a = some (.lst xs) ∨ H a = some (.tup xs)
theorem SeqV.same {H H' : Hp} {a : Addr} {xs : List V} (k : Same H H') (h : SeqV H a xs) : SeqV H' a xs := by
  rcases h with h | h
  · exact .inl (k _ _ h)
  · exact .inr (k _ _ h)
theorem SeqV.sq {K : PySem.W.Frag} {H : Hp} {a : Addr} {xs : List V} (h : SeqV H a xs) : SqL K H a xs ∨ SqT K H a xs := by
  rcases h with h | h
  · exact .inl (.of h)
  · exact .inr (.of h)
def iSeq (K : PySem.W.Frag) (te : TE) : TI := fun σ H R => iList K te σ H R ∨ iTup K te σ H R
theorem pi_listK {X : Cx} {K : PySem.W.Frag} {tg e : Expr} {te : TE} (h : X.K = K) (he : PE X e te) : PI X tg e (iList K te) := by
  subst h
  exact pi_list he
theorem pi_tupK {X : Cx} {K : PySem.W.Frag} {tg e : Expr} {te : TE} (h : X.K = K) (he : PE X e te) : PI X tg e (iTup K te) := by
  subst h
  exact pi_tup he
theorem pi_seq {X : Cx} {K : PySem.W.Frag} {tg e : Expr} {te : TE} (h : X.K = K) (he : PE X e te) : PI X tg e (iSeq K te) := by
  subst h
  exact pi_or (pi_list he) (pi_tup he)
theorem for_seq {K : PySem.W.Frag} {i : Nat} {a : Addr} {xs : List V} {g : TG} {tb : TS} {D : Ends} {σ : L2.St} {H : Hp} (hv : σ[i]? = some (some (.ref a))) (hq : SeqV H a xs) (Pv : Nat → L2.St → Hp → Prop) (h0 : Pv 0 σ H) (hS : ∀ i σ' H', Pv i σ' H' → Same H H')
    (hs : ∀ i x σ H, xs[i]? = some x → Pv i σ H → g x σ H fun σ2 H2 => tb { D with nx := Pv (i + 1), ct := Pv (i + 1), bk := D.nx } σ2 H2) (hd : ∀ σ H, Pv xs.length σ H → D.nx σ H) : tFor (iSeq K (tVar i)) g tb D σ H := by
  rcases hq with h | h
  · exact .inl ⟨_, hv, a, rfl, ⟨_, .of h⟩, for_list Pv h0 (fun i σ' H' _ p => .of (hS i σ' H' p _ _ h)) hs hd⟩
  · exact .inr ⟨_, hv, a, rfl, ⟨_, .of h⟩, for_tup Pv h0 (fun i σ' H' _ p => .of (hS i σ' H' p _ _ h)) hs hd⟩
/-- a list of lists of ints -/
def LL (H : Hp) (r : Addr) (as : List Addr) (rows : List (List Int)) : Prop := H r = some (.lst (as.map V.ref)) ∧ RowsA .lst H as rows
def Vld (L s : Int) (ps : List Int) (rows : List (List Int)) : Prop := 1 ≤ L ∧ rows ≠ [] ∧ ps.length = rows.length ∧ (0 ≤ s ∧ s < (rows.length : Int)) ∧ (∀ r ∈ rows, (r.length : Int) = L ∧ ∀ x ∈ r, 0 ≤ x ∧ x < (rows.length : Int)) ∧ ∀ p ∈ ps, 0 ≤ p
/-- the fields of a parity automaton, as they are stored -/
def pf (L s : Int) (pt rt : Addr) : List (Str × V) := putF "rows" (.ref rt) (putF "priorities" (.ref pt) (putF "start" (.int s) (putF "letters" (.int L) [])))
theorem putF_len (f : Str) (v : V) : ∀ fs : List (Str × V), (putF f v fs).length ≤ fs.length + 1
  | [] => Nat.le_refl _
  | (g, x) :: r => by
    unfold putF
    by_cases c : g = f
    · rw [if_pos c]
      exact Nat.le_succ _
    · rw [if_neg c]
      exact Nat.succ_le_succ (putF_len f v r)
theorem pf_L (L s : Int) (pt rt : Addr) : (pf L s pt rt).lookup ("letters" : Str) = some (.int L) := by
  unfold pf
  rw [lookup_putF, if_neg (by decide +kernel), lookup_putF, if_neg (by decide +kernel), lookup_putF, if_neg (by decide +kernel), lookup_putF, if_pos rfl]
theorem pf_s (L s : Int) (pt rt : Addr) : (pf L s pt rt).lookup ("start" : Str) = some (.int s) := by
  unfold pf
  rw [lookup_putF, if_neg (by decide +kernel), lookup_putF, if_neg (by decide +kernel), lookup_putF, if_pos rfl]
theorem pf_p (L s : Int) (pt rt : Addr) : (pf L s pt rt).lookup ("priorities" : Str) = some (.ref pt) := by
  unfold pf
  rw [lookup_putF, if_neg (by decide +kernel), lookup_putF, if_pos rfl]
theorem pf_r (L s : Int) (pt rt : Addr) : (pf L s pt rt).lookup ("rows" : Str) = some (.ref rt) := by
  unfold pf
  rw [lookup_putF, if_pos rfl]
/-- a parity automaton at x -/
def ParAt (C : Addr) (H : Hp) (x : Addr) (L s : Int) (ps : List Int) (rows : List (List Int)) : Prop := ∃ (dx pt rt : Addr) (as : List Addr), H x = some (.ins C dx (pf L s pt rt)) ∧ TupI H pt ps ∧ H rt = some (.tup (as.map V.ref)) ∧ RowsA .tup H as rows
theorem ParAt.same {C : Addr} {H H' : Hp} {x : Addr} {L s : Int} {ps : List Int} {rows : List (List Int)} (k : Same H H') (h : ParAt C H x L s ps rows) : ParAt C H' x L s ps rows := by
  obtain ⟨dx, pt, rt, as, e1, e2, e3, e4⟩ := h
  exact ⟨dx, pt, rt, as, k _ _ e1, k _ _ e2, k _ _ e3, e4.same k⟩
/-- what the class has -/
structure ParC (K : PySem.W.Frag) (C : Addr) : Prop where
  cl : Cls K C
  nL : NoAttr K C "letters"
  nS : NoAttr K C "start"
  nP : NoAttr K C "priorities"
  nR : NoAttr K C "rows"
def spCheckS (cI : Addr) : Sp := fun vs H Q E => ∃ (z n : Int), vs = [.int z, .int n] ∧ (¬ (0 ≤ z ∧ z < n) → E (.ref cI) none H) ∧ ((0 ≤ z ∧ z < n) → Q .non H)
def spInitP (C cI : Addr) : Sp := fun vs H Q E => ∃ (x p r dx : Addr) (L s : Int) (ps : List Int) (as : List Addr) (rows : List (List Int)), vs = [.ref x, .int L, .int s, .ref p, .ref r] ∧ H x = some (.ins C dx []) ∧ H p = some (.lst (ps.map V.int)) ∧ SeqV H r (as.map V.ref) ∧ RowsQ H as rows ∧
  rows.length ≤ 1000 ∧ ps.length ≤ 1000 ∧ (∀ q ∈ rows, q.length ≤ 1000) ∧ (¬ Vld L s ps rows → E (.ref cI) none H) ∧ (Vld L s ps rows → ∀ H', Kp x H H' → ParAt C H' x L s ps rows → Q .non H')
end Bx
namespace Bx
open PySem PySem.Spec PyProof.Rows L2
theorem lc_seq {K : PySem.W.Frag} {i : Nat} {a : Addr} {xs : List V} {g : TG} {tt : TT} {te : TE} {vs : List Nat} {σ : L2.St} {H : Hp} {Q : VK} (hv : σ[i]? = some (some (.ref a))) (hq : SeqV H a xs) (Pv : Addr → Nat → Hp → Prop) (h0 : ∀ D, H D = none → Pv D 0 (upd H D (.lst [])))
    (hS : ∀ D j H', H D = none → Pv D j H' → Same H H')
    (hs : ∀ D, H D = none → ∀ i x H', xs[i]? = some x → Pv D i H' → g x (wipe σ vs) H' fun σ2 H2 => wipe σ2 vs = wipe σ vs ∧ tt σ2 H2 fun b H3 => if b = true then te σ2 H3 fun y H4 => ∃ acc, H4 D = some (.lst acc) ∧ acc.length < sizeLine ∧ Pv D (i + 1) (upd H4 D (.lst (acc ++ [y]))) else Pv D (i + 1) H3)
    (hd : ∀ D H', H D = none → Pv D xs.length H' → Q (.ref D) H') : tLc (iSeq K (tVar i)) g tt te vs σ H Q := by
  rcases hq with h | h
  · exact .inl ⟨_, hv, a, rfl, ⟨_, .of h⟩, fun D hD => lc_list (Pv D) (h0 D hD) (fun i H' _ p => .of (hS D i H' hD p _ _ h)) (hs D hD) (fun H' p => hd D H' hD p)⟩
  · exact .inr ⟨_, hv, a, rfl, ⟨_, .of h⟩, fun D hD => lc_tup (Pv D) (h0 D hD) (fun i H' _ p => .of (hS D i H' hD p _ _ h)) (hs D hD) (fun H' p => hd D H' hD p)⟩
theorem rowsUpd {H : Hp} {x : Addr} {o : HO} (hx : ∀ ys, H x ≠ some (.tup ys)) : ∀ {as : List Addr} {rs : List (List Int)}, RowsA .tup H as rs → RowsA .tup (upd H x o) as rs
  | [], [], _ => True.intro
  | a :: as, r :: rs, h => ⟨by
      have h1 := h.1
      rw [upd_ne (fun z => by rw [z] at h1; exact hx _ h1)]
      exact h1, rowsUpd hx h.2⟩
  | [], _ :: _, h => h.elim
  | _ :: _, [], h => h.elim
theorem refs_get {as : List Addr} {i : Nat} {v : V} (h : (as.map V.ref)[i]? = some v) : ∃ a, as[i]? = some a ∧ v = .ref a := by
  rw [List.getElem?_map] at h
  cases e : as[i]? with
  | none => rw [e] at h; cases h
  | some z => rw [e] at h; exact ⟨z, rfl, (Option.some.inj h).symm⟩
theorem ints_get {xs : List Int} {i : Nat} {v : V} (h : (xs.map V.int)[i]? = some v) : ∃ x, xs[i]? = some x ∧ v = .int x := by
  rw [List.getElem?_map] at h
  cases e : xs[i]? with
  | none => rw [e] at h; cases h
  | some z => rw [e] at h; exact ⟨z, rfl, (Option.some.inj h).symm⟩
theorem take_get {α : Type} {xs : List α} {i : Nat} {x : α} (h : xs[i]? = some x) : xs.take (i + 1) = xs.take i ++ [x] := by
  rw [List.take_add_one, h]
  rfl
theorem pl_next {f : Str} {v : V} {fs : List (Str × V)} {n : Nat} (h : fs.length ≤ n) : (putF f v fs).length ≤ n + 1 := Nat.le_trans (putF_len f v fs) (Nat.succ_le_succ h)
theorem pl_lt {fs : List (Str × V)} {n : Nat} (h : fs.length ≤ n) (k : n < 1000) : fs.length < 1000 := Nat.lt_of_le_of_lt h k
theorem pl_0 : ([] : List (Str × V)).length ≤ 0 := Nat.le_refl _
theorem fld_def {Kf : PySem.W.Frag} {ta tv : TE} {f : Str} {D : Ends} {σ : L2.St} {H : Hp} (h : tv σ H fun y H1 => ta σ H1 fun x H2 => ∃ a C dx fs, x = .ref a ∧ H2 a = some (.ins C dx fs) ∧ Cls Kf C ∧ NoAttr Kf C f ∧ fs.length < 1000 ∧ D.nx σ (upd H2 a (.ins C dx (putF f y fs)))) : sFld Kf ta tv f D σ H := h
theorem cb1_def {r : List V → Hp → VK → Prop} {te : TE} {σ : L2.St} {H : Hp} {Q : VK} (h : te σ H fun v H1 => r [v] H1 Q) : tCB r (tCons te tNil) σ H Q := h
theorem rows_some {mk : List V → HO} {H : Hp} : ∀ {as : List Addr} {rs : List (List Int)} {a : Addr}, RowsA mk H as rs → a ∈ as → ∃ o, H a = some o
  | [], _, _, _, h => by simp at h
  | b :: as, [], _, h, _ => h.elim
  | b :: as, r :: rs, a, h, m => by
    rcases List.mem_cons.mp m with z | z
    · rw [z]
      exact ⟨_, h.1⟩
    · exact rows_some h.2 z
theorem LL.same {H H' : Hp} {r : Addr} {as : List Addr} {rows : List (List Int)} (k : Same H H') (h : LL H r as rows) : LL H' r as rows := ⟨k _ _ h.1, h.2.same k⟩
def exS (d : Scope) : Expr → Scope
  | .ListComp _ _ s _ => s
  | .Call _ (.ListComp _ _ s _ :: _) _ _ => s
  | _ => d
def stS (d : Scope) (i : Nat) (b : List Stmt) : Scope := match b[i]? with
  | some (.Return (some e) _) => exS d e
  | some (.Assign _ e _) => exS d e
  | _ => d
/-- ascending numbers below n -/
def Asc (n : Int) (xs : List Int) : Prop := xs.Pairwise (· < ·) ∧ ∀ x ∈ xs, 0 ≤ x ∧ x < n
/-- rows of rows of ints -/
def CubB (mk : List V → HO) (H : Hp) : List Addr → List (List Addr) → List (List (List Int)) → Prop
  | [], [], [] => True
  | a :: as, bs :: bss, r :: rs => (H a = some (mk (bs.map V.ref)) ∧ RowsA mk H bs r) ∧ CubB mk H as bss rs
  | _, _, _ => False
theorem cub_keep {mk : List V → HO} {H H' : Hp} : ∀ {as : List Addr} {bss : List (List Addr)} {c : List (List (List Int))}, (∀ b o, (b ∈ as ∨ ∃ bs ∈ bss, b ∈ bs) → H b = some o → H' b = some o) → CubB mk H as bss c → CubB mk H' as bss c
  | [], [], [], _, _ => True.intro
  | a :: as, bs :: bss, r :: rs, k, h => ⟨⟨k a _ (.inl List.mem_cons_self) h.1.1, h.1.2.keep fun b o hb => k b o (.inr ⟨bs, List.mem_cons_self, hb⟩)⟩, cub_keep (fun b o hb => k b o (by
      rcases hb with z | ⟨q, z, y⟩
      · exact .inl (List.mem_cons_of_mem _ z)
      · exact .inr ⟨q, List.mem_cons_of_mem _ z, y⟩)) h.2⟩
  | [], [], _ :: _, _, h => h.elim
  | [], _ :: _, _, _, h => h.elim
  | _ :: _, [], _, _, h => h.elim
  | _ :: _, _ :: _, [], _, h => h.elim
theorem cub_same {mk : List V → HO} {H H' : Hp} {as : List Addr} {bss : List (List Addr)} {c : List (List (List Int))} (s : Same H H') (h : CubB mk H as bss c) : CubB mk H' as bss c := cub_keep (fun b o _ e => s b o e) h
theorem cub_len {mk : List V → HO} {H : Hp} : ∀ {as : List Addr} {bss : List (List Addr)} {c : List (List (List Int))}, CubB mk H as bss c → as.length = c.length ∧ bss.length = c.length
  | [], [], [], _ => ⟨rfl, rfl⟩
  | a :: as, bs :: bss, r :: rs, h => ⟨congrArg (· + 1) (cub_len h.2).1, congrArg (· + 1) (cub_len h.2).2⟩
  | [], [], _ :: _, h => h.elim
  | [], _ :: _, _, h => h.elim
  | _ :: _, [], _, h => h.elim
  | _ :: _, _ :: _, [], h => h.elim
theorem cub_snoc {mk : List V → HO} {H : Hp} {a : Addr} {bs : List Addr} {r : List (List Int)} (h1 : H a = some (mk (bs.map V.ref))) (h2 : RowsA mk H bs r) : ∀ {as : List Addr} {bss : List (List Addr)} {c : List (List (List Int))}, CubB mk H as bss c → CubB mk H (as ++ [a]) (bss ++ [bs]) (c ++ [r])
  | [], [], [], _ => ⟨⟨h1, h2⟩, True.intro⟩
  | b :: as, cs :: bss, q :: rs, h => ⟨h.1, cub_snoc h1 h2 h.2⟩
  | [], [], _ :: _, h => h.elim
  | [], _ :: _, _, h => h.elim
  | _ :: _, [], _, h => h.elim
  | _ :: _, _ :: _, [], h => h.elim
theorem cub_get {mk : List V → HO} {H : Hp} : ∀ {as : List Addr} {bss : List (List Addr)} {c : List (List (List Int))} {i : Nat} {a : Addr}, CubB mk H as bss c → as[i]? = some a → ∃ bs r, bss[i]? = some bs ∧ c[i]? = some r ∧ H a = some (mk (bs.map V.ref)) ∧ RowsA mk H bs r
  | [], _, _, _, _, _, e => by simp at e
  | a :: as, bs :: bss, r :: rs, 0, b, h, e => by
    have : a = b := Option.some.inj e
    subst this
    exact ⟨bs, r, rfl, rfl, h.1.1, h.1.2⟩
  | a :: as, bs :: bss, r :: rs, i + 1, b, h, e => cub_get (i := i) h.2 e
  | _ :: _, [], _, _, _, h, _ => h.elim
  | _ :: _, _ :: _, [], _, _, h, _ => h.elim
theorem cub_some {mk : List V → HO} {H : Hp} : ∀ {as : List Addr} {bss : List (List Addr)} {c : List (List (List Int))} {b : Addr}, CubB mk H as bss c → (b ∈ as ∨ ∃ bs ∈ bss, b ∈ bs) → ∃ o, H b = some o
  | [], [], _, _, _, h => by
    rcases h with h | ⟨_, h, _⟩
    · simp at h
    · simp at h
  | a :: as, bs :: bss, r :: rs, b, h, m => by
    rcases m with m | ⟨q, m, y⟩
    · rcases List.mem_cons.mp m with z | z
      · rw [z]; exact ⟨_, h.1.1⟩
      · exact cub_some h.2 (.inl z)
    · rcases List.mem_cons.mp m with z | z
      · rw [z] at y; exact rows_some h.1.2 y
      · exact cub_some h.2 (.inr ⟨q, z, y⟩)
  | [], _ :: _, _, _, h, _ => h.elim
  | _ :: _, [], _, _, h, _ => h.elim
  | _ :: _, _ :: _, [], _, h, _ => h.elim
/-- an object that is not one of the rows may change -/
theorem cub_tup {H : Hp} {x : Addr} {o : HO} (hx : ∀ ys, H x ≠ some (.tup ys)) : ∀ {as : List Addr} {bss : List (List Addr)} {c : List (List (List Int))}, CubB .tup H as bss c → CubB .tup (upd H x o) as bss c
  | [], [], [], _ => True.intro
  | a :: as, bs :: bss, r :: rs, h => ⟨⟨by
      have h1 := h.1.1
      rw [upd_ne (fun z => by rw [z] at h1; exact hx _ h1)]
      exact h1, rowsUpd hx h.1.2⟩, cub_tup hx h.2⟩
  | [], [], _ :: _, h => h.elim
  | [], _ :: _, _, h => h.elim
  | _ :: _, [], _, h => h.elim
  | _ :: _, _ :: _, [], h => h.elim
theorem rows_kp {mk : List V → HO} {H H' : Hp} {x : Addr} (hx : ∀ ys, H x ≠ some (mk ys)) (k : Kp x H H') : ∀ {as : List Addr} {rs : List (List Int)}, RowsA mk H as rs → RowsA mk H' as rs
  | [], [], _ => True.intro
  | a :: as, r :: rs, h => ⟨k _ _ (fun z => by have h1 := h.1; rw [z] at h1; exact hx _ h1) h.1, rows_kp hx k h.2⟩
  | [], _ :: _, h => h.elim
  | _ :: _, [], h => h.elim
theorem cub_kp {mk : List V → HO} {H H' : Hp} {x : Addr} (hx : ∀ ys, H x ≠ some (mk ys)) (k : Kp x H H') : ∀ {as : List Addr} {bss : List (List Addr)} {c : List (List (List Int))}, CubB mk H as bss c → CubB mk H' as bss c
  | [], [], [], _ => True.intro
  | a :: as, bs :: bss, r :: rs, h => ⟨⟨k _ _ (fun z => by have h1 := h.1.1; rw [z] at h1; exact hx _ h1) h.1.1, rows_kp hx k h.1.2⟩, cub_kp hx k h.2⟩
  | [], [], _ :: _, h => h.elim
  | [], _ :: _, _, h => h.elim
  | _ :: _, [], _, h => h.elim
  | _ :: _, _ :: _, [], h => h.elim
def bf (L : Int) (it at_ rt : Addr) : List (Str × V) := putF "rows" (.ref rt) (putF "accepting" (.ref at_) (putF "initial" (.ref it) (putF "letters" (.int L) [])))
theorem bf_L (L : Int) (a b c : Addr) : (bf L a b c).lookup ("letters" : Str) = some (.int L) := by
  unfold bf
  rw [lookup_putF, if_neg (by decide +kernel), lookup_putF, if_neg (by decide +kernel), lookup_putF, if_neg (by decide +kernel), lookup_putF, if_pos rfl]
theorem bf_i (L : Int) (a b c : Addr) : (bf L a b c).lookup ("initial" : Str) = some (.ref a) := by
  unfold bf
  rw [lookup_putF, if_neg (by decide +kernel), lookup_putF, if_neg (by decide +kernel), lookup_putF, if_pos rfl]
theorem bf_a (L : Int) (a b c : Addr) : (bf L a b c).lookup ("accepting" : Str) = some (.ref b) := by
  unfold bf
  rw [lookup_putF, if_neg (by decide +kernel), lookup_putF, if_pos rfl]
theorem bf_r (L : Int) (a b c : Addr) : (bf L a b c).lookup ("rows" : Str) = some (.ref c) := by
  unfold bf
  rw [lookup_putF, if_pos rfl]
def AutAt (C : Addr) (H : Hp) (x : Addr) (L : Int) (ini acc : List Int) (c : List (List (List Int))) : Prop := ∃ (dx it at_ rt : Addr) (as : List Addr) (bss : List (List Addr)), H x = some (.ins C dx (bf L it at_ rt)) ∧ TupI H it ini ∧ TupI H at_ acc ∧ H rt = some (.tup (as.map V.ref)) ∧ CubB .tup H as bss c
theorem aut_same {C : Addr} {H H' : Hp} {x : Addr} {L : Int} {ini acc : List Int} {c : List (List (List Int))} (k : Same H H') (h : AutAt C H x L ini acc c) : AutAt C H' x L ini acc c := by
  obtain ⟨dx, it, at_, rt, as, bss, e1, e2, e3, e4, e5⟩ := h
  exact ⟨dx, it, at_, rt, as, bss, k _ _ e1, k _ _ e2, k _ _ e3, k _ _ e4, cub_same k e5⟩
structure AutC (K : PySem.W.Frag) (C : Addr) : Prop where
  cl : Cls K C
  nL : NoAttr K C "letters"
  nI : NoAttr K C "initial"
  nA : NoAttr K C "accepting"
  nR : NoAttr K C "rows"
  c1 : PySem.W.findIn K (.ref C) "__class__" = some (some (.builtin "object.__class__"))
  c2 : PySem.W.specialIn K (.builtin "object.__class__") "__get__" = some (some (.builtin "getset_descriptor.__get__"))
  c3 : PySem.W.takesIn K (.builtin "object.__class__") = some true
  c4 : PySem.W.mroIn K C (.type "object") = some true
  c5 : PySem.W.kitOne K (.ref C) (.ref C) = some true
def VldB (L : Int) (ini acc : List Int) (c : List (List (List Int))) : Prop := 1 ≤ L ∧ c ≠ [] ∧ Asc c.length ini ∧ Asc c.length acc ∧ ∀ r ∈ c, (r.length : Int) = L ∧ ∀ e ∈ r, Asc c.length e
/-- a list of lists of lists -/
def LC (H : Hp) (r : Addr) (as : List Addr) (bss : List (List Addr)) (c : List (List (List Int))) : Prop := H r = some (.lst (as.map V.ref)) ∧ CubB .lst H as bss c
def spChecks (cI : Addr) : Sp := fun vs H Q E => ∃ (a : Addr) (xs : List Int) (n : Int), vs = [.ref a, .int n] ∧ H a = some (.lst (xs.map V.int)) ∧ (¬ Asc n xs → E (.ref cI) none H) ∧ (Asc n xs → Q .non H)
def spInitB (C cI : Addr) : Sp := fun vs H Q E => ∃ (x i a r dx : Addr) (L : Int) (ini acc : List Int) (as : List Addr) (bss : List (List Addr)) (c : List (List (List Int))), vs = [.ref x, .int L, .ref i, .ref a, .ref r] ∧ H x = some (.ins C dx []) ∧ H i = some (.lst (ini.map V.int)) ∧ H a = some (.lst (acc.map V.int)) ∧ LC H r as bss c ∧
  c.length ≤ 1000 ∧ (∀ r ∈ c, r.length ≤ 1000) ∧ (¬ VldB L ini acc c → E (.ref cI) none H) ∧ (VldB L ini acc c → ∀ H', Kp x H H' → AutAt C H' x L ini acc c → Q .non H')
end Bx

/-! ### own rules: a list extended by a tuple; a tuple's slice with a step -/
namespace Tx
open PySem PySem.Spec PyProof.Rows L2
section
variable {prog : Program} {w : World} {A : Around} {E : Value → Shared → Prop} {s : Shared}
set_option maxRecDepth 8000 in
theorem ext_tup (l b : Addr) (xs ys : Array Value) (n m : Nat) (dd : Option Addr) (sl : Array (Option Value)) (h0 : ¬(!xs.isEmpty && Builtin.List.listTooLong (xs.size + ys.size)) = true) (h1 : xs.size ≤ sizeLine) (h2 : xs.size + ys.size ≤ sizeLine + 1) :
    Meets (Builtin.«list.extend» ⟨[.ref l, .ref b], []⟩) (fun _ R s => s.heap.get? l = some { cls := .type "list", data := .seq xs n } ∧ s.heap.get? b = some { cls := .type "tuple", dict := dd, data := .seq ys m, slots := sl } ∧
      R (.ok (.ret Value.none)) { s with heap := s.heap.update l (Obj.mapSeq fun x => x ++ ys), toks := s.toks }) := .of_wp fun prog w A R s h => by
  obtain ⟨hp, g, d, tk, os⟩ := s
  obtain ⟨hl, hb, h⟩ := h
  have q1 := AutoSeq1.idx_int
  have q2 := AutoSeq1.sub_tuple_tuple
  have q3 := AutoSeq1.sub_list_list
  have q4 := AutoSeq1.sub_tuple_list
  have q5 := AutoSeq1.sub_list_tuple
  have hz : (xs ++ ys).size ≤ sizeLine + 1 := by
    rw [Array.size_append]
    exact h2
  wp_walk using (wpAny_updateSeq hl rfl (hz := h1) (_hz' := hz)), AutoSeq1.wpAny_loadPart' hl, AutoSeq1.wpAny_loadPart' hb
  exact ⟨_, rfl, h⟩
end
section
variable {X : Cx} {K : PySem.W.Frag}
def rExtT (K : PySem.W.Frag) : V → List V → Hp → VK → Prop := fun x vs H Q => ∃ l b xs zs, x = .ref l ∧ vs = [.ref b] ∧ H l = some (.lst xs) ∧ SqT K H b zs ∧ xs.length + zs.length ≤ sizeLine ∧ Q .non (upd H l (.lst (xs ++ zs)))
theorem mt_extT (hK : X.K = K) : MtM X "list.extend" (rExtT K) := by
  subst hK
  intro pins s σ H x vs v us Q I rx rv ⟨l, b, xs, zs, ex, ev, hH, hB, hz, q⟩
  subst ex
  subst ev
  cases rx
  obtain ⟨u, rfl, ru⟩ := rv.one
  cases ru
  obtain ⟨z, its, n, r, hl, e⟩ := I.lstM hH
  obtain ⟨its2, r2, ⟨⟨oc, od, ob, os⟩, e2, ec, m, eb⟩, z2⟩ := I.tuple hB
  have hl2 := r2.length
  dsimp only at ec eb
  subst ec
  subst eb
  have hs : its.toArray.size + its2.toArray.size ≤ sizeLine := by
    rw [List.size_toArray, List.size_toArray]
    omega
  refine call_meets F.slot_list_extend ⟨_, e, rfl⟩ F.entry_list_extend (F.args_list_extend_2 _ _) (ext_tup l b its.toArray its2.toArray n m od os (fun c => ?_) (by omega) (by omega)) ⟨e, e2, ?_⟩
  · rw [notLongL hs, Bool.and_false] at c
    cases c
  · refine ⟨.non, _, I.lset (its' := its ++ its2) hH e (by simp) (r.append r2) ?_, rfl, q⟩
    rw [List.length_append]
    omega
/-- the items that a slice with a step picks -/
def pk3 {α : Type} (xs : List α) (lo hi : Option Int) (c : Int) : List α :=
  (List.range (Builtin.Slice.slicePlaces (Builtin.Slice.sliceAdjust lo hi c xs.length).1 (Builtin.Slice.sliceAdjust lo hi c xs.length).2 c)).filterMap fun (k : Nat) => xs[((Builtin.Slice.sliceAdjust lo hi c xs.length).1 + (k : Int) * c).toNat]?
theorem pk3_vals {xs : List V} {us : List Value} (r : Vals xs us) (lo hi : Option Int) (c : Int) : Vals (pk3 xs lo hi c) (pk3 us lo hi c) := by
  unfold pk3
  rw [r.length]
  generalize List.range (Builtin.Slice.slicePlaces (Builtin.Slice.sliceAdjust lo hi c us.length).1 (Builtin.Slice.sliceAdjust lo hi c us.length).2 c) = ks
  generalize (Builtin.Slice.sliceAdjust lo hi c us.length).1 = b
  induction ks with
  | nil => exact .nil
  | cons k ks ih =>
    rw [List.filterMap_cons, List.filterMap_cons]
    cases e : xs[(b + (k : Int) * c).toNat]? with
    | none =>
      have : us[(b + (k : Int) * c).toNat]? = none := by
        rw [List.getElem?_eq_none_iff] at e ⊢
        rw [← r.length]
        exact e
      rw [this]
      exact ih
    | some x =>
      obtain ⟨u, e2, ru⟩ := Vals.get r e
      rw [e2]
      exact .cons ru ih
theorem pk3_len {α : Type} (xs : List α) (lo hi : Option Int) (c : Int) : (pk3 xs lo hi c).length ≤ Builtin.Slice.slicePlaces (Builtin.Slice.sliceAdjust lo hi c xs.length).1 (Builtin.Slice.sliceAdjust lo hi c xs.length).2 c := by
  unfold pk3
  refine Nat.le_trans (List.length_filterMap_le _ _) ?_
  rw [List.length_range]
  exact Nat.le_refl _
end
section
variable {prog : Program} {w : World} {A : Around} {E : Value → Shared → Prop} {s : Shared}
theorem applied3 {sl : Addr} {vl vu vs : Value} {lo hi : Option Int} {c : Int} {n : Nat} {Q : Int × Int × Nat → Shared → Prop} (hs : s.heap.IsSliceOf sl vl vu vs) (pl : IsPart vl lo) (pu : IsPart vu hi) (ps : IsPart vs (some c)) (hc : c ≠ 0)
    (h : Q ((Builtin.Slice.sliceAdjust lo hi c n).1, c, Builtin.Slice.slicePlaces (Builtin.Slice.sliceAdjust lo hi c n).1 (Builtin.Slice.sliceAdjust lo hi c n).2 c) s) :
    wpAny (model prog w) A (Builtin.Slice.sliceApplied (.ref sl) (pure (n : Int))) Q E s := by
  obtain ⟨ob, g1, _, g3⟩ := id hs
  unfold Builtin.Slice.sliceApplied Builtin.Slice.sliceFields
  refine wpAny_bind (wpAny_bind (wpAny_field g1 g3 (x := vl) rfl (wpAny_bind (wpAny_field g1 g3 (x := vu) rfl (wpAny_bind (wpAny_field g1 g3 (x := vs) rfl (wpAny_pure ?_)))))))
  refine wpAny_bind (HT.slicePart_ ps ?_)
  show wpAny _ _ (if (c == 0) = true then _ else _) _ _ s
  rw [if_neg (by simpa using hc)]
  refine wpAny_bind (HT.slicePart_ pl (wpAny_bind (HT.slicePart_ pu (wpAny_bind (wpAny_pure ?_)))))
  show wpAny _ _ (match Builtin.Slice.sliceAdjust lo hi c (n : Int) with | (lo, hi) => pure (lo, c, Builtin.Slice.slicePlaces lo hi c)) _ _ s
  exact wpAny_pure h
theorem item3 {t sl : Addr} {items : List Value} {vl vu vs : Value} {lo hi : Option Int} {c : Int} {Q : Value → Shared → Prop} (ht : IsTup s.heap t items.toArray) (hs : s.heap.IsSliceOf sl vl vu vs) (pl : IsPart vl lo) (pu : IsPart vu hi) (ps : IsPart vs (some c)) (hc : c ≠ 0)
    (h1 : c ≠ 1) (h : Q (.ref s.heap.objs.size) { s with heap := s.heap.push { cls := .type "tuple", data := .seq (pk3 items lo hi c).toArray } }) (hz : (pk3 items lo hi c).length ≤ sizeLine) :
    wpAny (model prog w) A (getItem (.ref t) (.ref sl)) Q E s := by
  have fits : sizeOk (.seq (pk3 items lo hi c).toArray) := by
    show (pk3 items lo hi c).toArray.size ≤ sizeLine
    rw [List.size_toArray]
    exact hz
  have isl : s.TypeIs (.ref sl) "slice" := by
    obtain ⟨ob, g1, g2, _⟩ := id hs
    exact ⟨ob, g1, g2⟩
  unfold getItem
  try with_reducible refine wpAny_holding ?_
  first | refine wpAny_bind (wpAny_pure ?_) | skip
  refine wpAny_bind (wpAny_sequenceKey ht.typeIs (by decide) (wpAny_bind (wpAny_callSpecial?_slot (name := Str.ofString "__getitem__") ht.typeIs slot_tuple_getitem (wpAny_call_entry slot_tuple_getitem ht.typeIs entry_tuple_getitem ?_ (args_tuple_getitem _ _)))))
  show wpAny _ _ (Builtin.Tuple.tupleItemsOf (.ref t) >>= _) _ _ s
  refine wpAny_bind (tupleItemsOf_ ht (wpAny_bind (wpAny_typeOf isl ?_)))
  rw [if_pos (by decide)]
  refine wpAny_bind (applied3 hs pl pu ps hc ?_)
  have no : ¬ (((Builtin.Slice.sliceAdjust lo hi c items.toArray.size).1 == 0 && c == 1 && (Builtin.Slice.slicePlaces (Builtin.Slice.sliceAdjust lo hi c items.toArray.size).1 (Builtin.Slice.sliceAdjust lo hi c items.toArray.size).2 c) == items.toArray.size) = true) := fun q => by
    rw [Bool.and_eq_true, Bool.and_eq_true] at q
    exact h1 (eq_of_beq q.1.2)
  have e : ((List.range (Builtin.Slice.slicePlaces (Builtin.Slice.sliceAdjust lo hi c items.toArray.size).1 (Builtin.Slice.sliceAdjust lo hi c items.toArray.size).2 c)).filterMap fun (k : Nat) => items.toArray[((Builtin.Slice.sliceAdjust lo hi c items.toArray.size).1 + (k : Int) * c).toNat]?) = pk3 items lo hi c := by
    unfold pk3
    rw [List.size_toArray]
    simp only [List.getElem?_toArray]
  show wpAny _ _ (if ((Builtin.Slice.sliceAdjust lo hi c items.toArray.size).1 == 0 && c == 1 && (Builtin.Slice.slicePlaces (Builtin.Slice.sliceAdjust lo hi c items.toArray.size).1 (Builtin.Slice.sliceAdjust lo hi c items.toArray.size).2 c) == items.toArray.size) = true then _ else _) _ _ s
  rw [if_neg no, e]
  first
    | exact wpAny_bind (m := Builtin.Tuple.tupleExact _) (wpAny_newObj_type (wpAny_pure ⟨_, rfl, wpAny_pure h⟩) fits)
    | exact wpAny_bind (m := Builtin.Tuple.tupleExact _) (wpAny_newObj_type (wpAny_bind (wpAny_pure (wpAny_pure ⟨_, rfl, wpAny_pure h⟩))) fits)
    | exact wpAny_bind (wpAny_bind (m := Builtin.Tuple.tupleExact _) (wpAny_newObj_type (wpAny_pure (wpAny_pure ⟨_, rfl, wpAny_pure h⟩)) fits))
    | exact wpAny_bind (wpAny_bind (m := Builtin.Tuple.tupleExact _) (wpAny_newObj_type (wpAny_pure ⟨_, rfl, wpAny_pure h⟩) fits))
end
section
variable {X : Cx} {K : PySem.W.Frag} {e s3 : Expr} {lo hi : Option Expr} {te : TE} {tl th t3 : TO} {p3 pos : Pos}
def tSl3 (K : PySem.W.Frag) (te : TE) (tl th t3 : TO) : TE := fun σ H Q => te σ H fun x H1 => tl σ H1 fun l H2 => th σ H2 fun u H3 => t3 σ H3 fun c H4 => ∃ a xs k, x = .ref a ∧ c = some k ∧ SqT K H4 a xs ∧ k ≠ 0 ∧ k ≠ 1 ∧ (pk3 xs l u k).length ≤ sizeLine ∧
  ∀ p, H4 p = none → Q (.ref p) (upd H4 p (.tup (pk3 xs l u k)))
theorem pe_sl3 (hK : X.K = K) (he : PE X e te) (hl : PO X lo tl) (hu : PO X hi th) (h3 : PO X (some s3) t3) (ho : ∀ a b : Addr, ∃ ops, subscripted (Expr.Slice lo hi (some s3) p3) false (.ref a) (.ref b) = operate ops (getItem (.ref a) (.ref b)) := by exact fun _ _ => ⟨_, rfl⟩) : PE X (.Subscript e (.Slice lo hi (some s3) p3) pos) (tSl3 K te tl th t3) := by
  subst hK
  refine ⟨fun pins s σ H Q I h => Subscript_ (thn (he.run pins s σ H _ I h) fun v s1 ⟨x, H1, I1, r1, q1⟩ => wpAny_Slice (thn (hl.run pins s1 σ H1 _ I1 q1) fun vl s2 ⟨l, H2, I2, pl, q2⟩ => thn (hu.run pins s2 σ H2 _ I2 q2) fun vu s4 ⟨u, H3, I3, pu, q3⟩ =>
    thn (h3.run pins s4 σ H3 _ I3 q3) fun vc s5 ⟨c, H4, I4, pc, q4⟩ => ?_))⟩
  obtain ⟨a, xs, k, ex, ec, hx, k0, k1, hz, q⟩ := q4
  subst ex
  subst ec
  cases r1
  have I5 : Inv X pins σ H4 { s5 with heap := s5.heap.push { cls := .type "slice", data := .fields #[vl, vu, vc] } } := I4.kept (t' := s5.toks) fun b ob q => Heap.get?_push_of_some _ q
  obtain ⟨its, r, ht, _⟩ := I5.tuple hx
  have rv := pk3_vals r l u k
  show wpAny (model X.prog X.w) X.A (subscriptTail e (.Slice lo hi (some s3) p3) (.ref a) (.ref s5.heap.objs.size)) (EP X pins σ Q) X.xe { s5 with heap := s5.heap.push { cls := .type "slice", data := .fields #[vl, vu, vc] } }
  obtain ⟨ops, hops⟩ := ho a s5.heap.objs.size
  refine tail_any (ops := ops) ht.typeIs (slot_tuple_getitem.lookup) ?_ hops
  refine item3 ht (Heap.IsSliceOf.new _ vl vu vc) pl pu pc k0 k1 ?_ (by rw [← rv.length]; exact hz)
  refine ⟨.ref _, _, I5.laid (t' := s5.toks) (o := .tup (pk3 xs l u k)) (fun b ob q => Heap.get?_push_of_some _ q) (Nat.le_refl _) ?_, rfl, q _ (I5.hok.fresh (Nat.le_refl _))⟩
  exact ⟨hz, _, rv, IsTup.new _ _⟩
end
end Tx

/-! ### own rules: set(xs), xs a list of ints; sorted of it -/
namespace Tz
open PySem PySem.Spec PyProof.Rows L2
section
variable {P : Program} {w : World} {A : Around} {E : Value → Shared → Prop} {s : Shared}
/-- the new set, empty -/
abbrev nul (w : World) : Obj := { cls := .type "set", dict := none, data := .set #[] 0 (.fresh 0 0 (!w.params.followText "set-order")) }
/-- what the filling leaves behind -/
def Filled (w : World) (s : Shared) (ns : List Int) (s2 : Shared) : Prop := ∃ h' tk c, s2 = { s with heap := h', toks := tk } ∧ SetR w h' s.heap.objs.size (fun j => decide (j ∈ ns)) c ∧ c ≤ ns.length ∧ ∀ b o, s.heap.get? b = some o → h'.get? b = some o
theorem set_of_list {l : Addr} {items : Array Value} (ns : List Int) {Q : Value → Shared → Prop} (hh : A.handled = none) (hl : s.heap.IsList l items) (hit : IntsAre items.toList ns) (hb : ns.length + 1 < scanBound)
    (h : ∀ s2, Filled w s ns s2 → Q (.ref s.heap.objs.size) s2) : wpAny (model P w) A (call (.type "set") [.ref l]) Q E s := by
  have hisz : items.size = ns.length := by
    have q := IntsAre.length hit
    rwa [Array.length_toList] at q
  have hS : (s.heap.push (nul w)).get? s.heap.objs.size = some (nul w) := Heap.get?_push_size _ rfl
  have hlt : l < s.heap.objs.size := by
    obtain ⟨o, ho, _⟩ := hl
    exact Heap.lt_size ho
  obtain ⟨c, tl, hmro⟩ := F.called_set.mro
  have m1 := F.called_set.made
  have m2 := F.called_set.sub
  refine wpAny_call (codeAny_of_tree ?_)
  show wpAny _ _ (callAny (.type "set") _) _ _ _
  refine wpAny_pure ⟨Code.quiet_builtin _ (by decide +kernel), codeAny_builtin F.entry_type_call ?_⟩
  rw [Around.under_plain (weight_type_call_type "set" [.ref l] []) rfl]
  have m3 := F.called_set.notType
  have m4 := F.called_set.canCreate
  have m5 := F.typeCall_set_1 (.ref l)
  repeat (any_goals (first | assumption | wp_step))
  refine codeAny_mono (code_set_led1 (.ref l) (E := E) (Q₁ := fun obj s1 => obj = .ref s.heap.objs.size ∧ s1 = { s with heap := s.heap.push (nul w) }) ⟨rfl, rfl⟩) fun r s1 hr => ?_
  cases r with
  | error e => exact hr
  | ok fl =>
    cases fl with
    | next => exact hr.elim
    | brk => exact hr.elim
    | cont => exact hr.elim
    | ret obj =>
      obtain ⟨rfl, rfl⟩ := hr
      have hT : Shared.TypeIs { s with heap := s.heap.push (nul w) } (.ref s.heap.objs.size) "set" := ⟨_, hS, rfl⟩
      have m6 := F.called_set.init.lookup
      have m7 := F.called_set.init.bind (.ref s.heap.objs.size)
      repeat (any_goals (first | assumption | wp_step))
      refine codeAny_mono (codeAny_call_builtin (R := wants (fun r s2 => r = .none ∧ Filled w s ns s2) E) F.called_set.init.plain F.entry_set_init (check_set_init_1 hT ?_)) fun r2 s2 hr2 => ?_
      · obtain ⟨ol, hol, hcl, nl, hdl⟩ := hl
        obtain ⟨ocls, odict, odata, oslots⟩ := ol
        simp only at hcl hdl
        subst hcl
        subst hdl
        have hol' := Heap.get?_push_of_some (nul w) hol
        have q1 := F.sub_list_set
        have q2 := F.sub_list_frozenset
        have q3 : (Value.type "list" == Value.type "dict") = false := by decide
        have hl1 : (s.heap.push (nul w)).IsList l items := ⟨_, hol', rfl, nl, rfl⟩
        unfold Builtin.«set.__init__» noKeywords Builtin.Frozenset.updateFrom
        generalize hPI : pyIter = PI
        wp_walk
        subst hPI
        refine wpAny_pyIter_list hl1 ?_
        refine wpAny_bind (wpAny_runValue ?_)
        have hh3 : A.in1.in1.in1.handled = none := by simp [hh]
        have n1 : l ≠ (s.heap.push (nul w)).objs.size := by
          rw [Heap.size_push]
          exact Nat.ne_of_lt (Nat.lt_succ_of_lt hlt)
        have n2 : s.heap.objs.size ∉ [(s.heap.push (nul w)).objs.size, l] := by
          rw [Heap.size_push]
          simp only [List.mem_cons, List.not_mem_nil, or_false, not_or]
          exact ⟨Nat.ne_of_lt (Nat.lt_succ_self _), Nat.ne_of_gt hlt⟩
        have vals : ∀ (i : Nat) (v : Value), items[i]? = some v → ∃ k t, ns[i]? = some k ∧ v = .int k t := fun i v hv => by
          have hi : i < ns.length := by rw [← hisz]; exact (Array.getElem?_eq_some_iff.mp hv).1
          obtain ⟨t, e⟩ := PyProof.Rows.IntsAre.int_at hit i v (by rw [Array.getElem?_toList]; exact hv)
          exact ⟨ns[i], t, List.getElem?_eq_getElem hi, by rw [e, List.getD_eq_getElem?_getD, List.getElem?_eq_getElem hi]; rfl⟩
        refine set_update_ints ((Walks.list hh3 _ l n1 items).toS) s.heap.objs.size n2 ns hisz hb vals (items.size - 0) 0 _ (by omega) (Nat.zero_le _)
          ⟨⟨_, Heap.get?_push_size _ rfl, rfl, rfl⟩, (hl1.push _)⟩ ⟨0, Nat.le_refl 0, setR_new_at (Heap.get?_push_of_some _ hS)⟩ fun s' c' hm hc' hS' => ?_
        obtain ⟨h', g2, d', tk', os'⟩ := s'
        obtain rfl : g2 = s.gens := hm.gens
        obtain rfl : d' = s.drawn := hm.drawn
        obtain rfl : os' = s.os := hm.os
        show wpAny _ _ _ _ _ _
        refine wpAny_pure ?_
        show wpAny _ _ (ret Value.none) _ _ _
        rw [hisz] at hc'
        refine wpAny_pure ⟨rfl, h', tk', c', rfl, hS', hc', fun b o e => ?_⟩
        have b0 : b < s.heap.objs.size := Heap.lt_size e
        refine hm.heap b o ?_ (Heap.get?_push_of_some _ (Heap.get?_push_of_some _ e))
        rw [Heap.size_push]
        simp only [List.mem_cons, List.not_mem_nil, or_false, not_or]
        exact ⟨Nat.ne_of_lt b0, Nat.ne_of_lt (Nat.lt_succ_of_lt b0)⟩
      · cases r2 with
        | error e => exact hr2
        | ok fl2 =>
          cases fl2 with
          | next => exact hr2.elim
          | brk => exact hr2.elim
          | cont => exact hr2.elim
          | ret r =>
            obtain ⟨rfl, hf⟩ := hr2
            have hf2 := hf
            obtain ⟨h', tk, c, rfl, _⟩ := hf2
            repeat (any_goals (first | assumption | wp_step))
            exact h _ hf
end
section
variable {X : Cx} {K : PySem.W.Frag} {w : World}
/-- set(xs), xs a list of ints -/
def rSetLI (K : PySem.W.Frag) (w : World) : List V → Hp → VK → Prop := fun xs H Q => ∃ (l : Addr) (ns : List Int), xs = [V.ref l] ∧ SqL K H l (ns.map V.int) ∧ ns.length + 1 < scanBound ∧
  ∀ p c, H p = none → c ≤ ns.length → Q (.ref p) (upd H p (SetO w p (fun j => decide (j ∈ ns)) c))
theorem cr_setLI (h : X.K = K) (hw : X.w = w) (hc : X.calm = true) : CallR X (.type "set") (rSetLI K w) := by
  subst h
  subst hw
  intro pins s σ H xs us Q I r h
  obtain ⟨l, ns, rfl, hl, hb, q⟩ := h
  rw [Vals.ref1 r]
  obtain ⟨its, rv, pl, hz⟩ := I.list hl
  refine set_of_list (P := X.prog) (w := X.w) ns (I.ok.hd hc) pl.isList rv.ints hb fun s2 hf => ?_
  obtain ⟨h', tk, c, rfl, R, hcl, hk⟩ := hf
  exact ⟨.ref _, upd H s.heap.objs.size (SetO X.w s.heap.objs.size (fun j => decide (j ∈ ns)) c), I.laid (t' := tk) hk (Nat.le_refl _) (setO_new R), rfl, q _ c (I.hok.fresh (Nat.le_refl _)) hcl⟩
theorem cr_sortedSet' (hw : X.w = w) (hc : X.calm = true) : CallR X (.builtin "sorted") (rSortedSet w) := by
  subst hw
  exact cr_sortedSet hc
end
end Tz

namespace Bx
open PySem PySem.Spec PyProof.Rows L2
def mf (I O L : Int) (ot rt : Addr) : List (Str × V) := putF "rows" (.ref rt) (putF "opening" (.ref ot) (putF "lead" (.int L) (putF "outputs" (.int O) (putF "inputs" (.int I) []))))
theorem mf_I (I O L : Int) (a b : Addr) : (mf I O L a b).lookup ("inputs" : Str) = some (.int I) := by
  unfold mf
  rw [lookup_putF, if_neg (by decide +kernel), lookup_putF, if_neg (by decide +kernel), lookup_putF, if_neg (by decide +kernel), lookup_putF, if_neg (by decide +kernel), lookup_putF, if_pos rfl]
theorem mf_O (I O L : Int) (a b : Addr) : (mf I O L a b).lookup ("outputs" : Str) = some (.int O) := by
  unfold mf
  rw [lookup_putF, if_neg (by decide +kernel), lookup_putF, if_neg (by decide +kernel), lookup_putF, if_neg (by decide +kernel), lookup_putF, if_pos rfl]
theorem mf_L (I O L : Int) (a b : Addr) : (mf I O L a b).lookup ("lead" : Str) = some (.int L) := by
  unfold mf
  rw [lookup_putF, if_neg (by decide +kernel), lookup_putF, if_neg (by decide +kernel), lookup_putF, if_pos rfl]
theorem mf_o (I O L : Int) (a b : Addr) : (mf I O L a b).lookup ("opening" : Str) = some (.ref a) := by
  unfold mf
  rw [lookup_putF, if_neg (by decide +kernel), lookup_putF, if_pos rfl]
theorem mf_r (I O L : Int) (a b : Addr) : (mf I O L a b).lookup ("rows" : Str) = some (.ref b) := by
  unfold mf
  rw [lookup_putF, if_pos rfl]
structure MchC (K : PySem.W.Frag) (C : Addr) : Prop where
  cl : Cls K C
  nI : NoAttr K C "inputs"
  nO : NoAttr K C "outputs"
  nL : NoAttr K C "lead"
  no : NoAttr K C "opening"
  nr : NoAttr K C "rows"
/-- rows of pairs -/
structure RP (mk : List V → HO) (H : Hp) (as : List Addr) (c : List (List (Int × Int))) : Prop where
  len : as.length = c.length
  g : ∀ (i : Nat) (a : Addr), as[i]? = some a → ∃ (bs : List Addr) (row : List (Int × Int)), c[i]? = some row ∧ H a = some (mk (bs.map V.ref)) ∧ bs.length = row.length ∧ ∀ (j : Nat) (b : Addr), bs[j]? = some b → ∃ t l, row[j]? = some (t, l) ∧ H b = some (.tup [.int t, .int l])
theorem RP.same {mk : List V → HO} {H H' : Hp} {as : List Addr} {c : List (List (Int × Int))} (s : Same H H') (h : RP mk H as c) : RP mk H' as c := ⟨h.len, fun i a e => by
  obtain ⟨bs, row, h1, h2, h3, h4⟩ := h.g i a e
  exact ⟨bs, row, h1, s _ _ h2, h3, fun j b hb => by obtain ⟨t, l, h5, h6⟩ := h4 j b hb; exact ⟨t, l, h5, s _ _ h6⟩⟩⟩
def LPr (H : Hp) (r : Addr) (as : List Addr) (c : List (List (Int × Int))) : Prop := H r = some (.lst (as.map V.ref)) ∧ RP .lst H as c
theorem LPr.same {H H' : Hp} {r : Addr} {as : List Addr} {c : List (List (Int × Int))} (s : Same H H') (h : LPr H r as c) : LPr H' r as c := ⟨s _ _ h.1, h.2.same s⟩
def MchAt (C : Addr) (H : Hp) (x : Addr) (I O L : Int) (op : List Int) (c : List (List (Int × Int))) : Prop := ∃ (dx ot rt : Addr) (as : List Addr), H x = some (.ins C dx (mf I O L ot rt)) ∧ TupI H ot op ∧ H rt = some (.tup (as.map V.ref)) ∧ RP .tup H as c
theorem mch_same {C : Addr} {H H' : Hp} {x : Addr} {I O L : Int} {op : List Int} {c : List (List (Int × Int))} (s : Same H H') (h : MchAt C H x I O L op c) : MchAt C H' x I O L op c := by
  obtain ⟨dx, ot, rt, as, e1, e2, e3, e4⟩ := h
  exact ⟨dx, ot, rt, as, s _ _ e1, s _ _ e2, s _ _ e3, e4.same s⟩
/-- objects that are no lists stay where only lists change -/
theorem RP.keepT {H H' : Hp} {as : List Addr} {c : List (List (Int × Int))} (k : ∀ b xs, H b = some (.tup xs) → H' b = some (.tup xs)) (h : RP .tup H as c) : RP .tup H' as c := ⟨h.len, fun i a e => by
  obtain ⟨bs, row, h1, h2, h3, h4⟩ := h.g i a e
  exact ⟨bs, row, h1, k _ _ h2, h3, fun j b hb => by obtain ⟨t, l, h5, h6⟩ := h4 j b hb; exact ⟨t, l, h5, k _ _ h6⟩⟩⟩
/-- what holds of a machine -/
structure Vm (I O L : Int) (op : List Int) (c : List (List (Int × Int))) : Prop where
  i1 : 1 ≤ I
  o1 : 1 ≤ O
  l0 : -3 ≤ L
  l1 : L ≤ 2
  op_len : (op.length : Int) = max 0 (-L)
  ne : c ≠ []
  w : ∀ r ∈ c, (r.length : Int) = I
  st : ∀ r ∈ c, ∀ p ∈ r, 0 ≤ p.1 ∧ p.1 < (c.length : Int)
  op_in : ∀ z ∈ op, 0 ≤ z ∧ z < O
  em : ∀ r ∈ c, ∀ p ∈ r, 0 ≤ p.2 ∧ p.2 < O
end Bx
/-! own rule: a tuple times 1 is that tuple -/
namespace Bx
open PySem PySem.Spec PyProof.Rows L2
theorem mul_one (l : Addr) (items : Array Value) (n : Nat) (dd : Option Addr) (sl : Array (Option Value)) (u : Tok) :
    Meets (Builtin.«tuple.__mul__» ⟨[.ref l, .int 1 u], []⟩) (fun _ R s => s.heap.get? l = some { cls := .type "tuple", dict := dd, data := .seq items n, slots := sl } ∧ R (.ok (.ret (.ref l))) s) := .of_wp fun prog w A R s h => by
  obtain ⟨hp, g, d, tk, os⟩ := s
  obtain ⟨hl, h⟩ := h
  have q1 := AutoSeq1.idx_int
  wp_walk using AutoSeq1.wpAny_loadPart' hl
  repeat (first
    | (refine wpAny_ite_true (decide_eq_true (by simp)) ?_; wp_walk using AutoSeq1.wpAny_loadPart' hl)
    | (refine wpAny_ite_false (decide_eq_false (by simp)) ?_; wp_walk using AutoSeq1.wpAny_loadPart' hl))
  exact ⟨_, rfl, h⟩
def rRep1 (K : PySem.W.Frag) : R2 := fun x y H Q => ∃ l k xs, x = .ref l ∧ y = .int k ∧ SqT K H l xs ∧ xs ≠ [] ∧ 1 ≤ k ∧ k ≤ 1000 ∧ xs.length ≤ 1000 ∧ (k = 1 → Q (.ref l) H) ∧ (2 ≤ k → ∀ p, H p = none → Q (.ref p) (upd H p (.tup (List.replicate k.toNat xs).flatten)))
theorem op_rep1K {X : Cx} {K : PySem.W.Frag} (h : X.K = K) : OpR X (binaryOp .Mult) (rRep1 K) := by
  subst h
  intro pins s σ H x y v u Q I rx ry h
  obtain ⟨l, k, xs, ex, ey, hT, hne, h1, h2, hz, q1, q2⟩ := h
  by_cases c : k = 1
  · subst c
    subst ex
    subst ey
    cases rx
    obtain ⟨t, rfl⟩ := ry
    obtain ⟨its, r, ⟨⟨cls, dd, data, sl⟩, ho, hc, n, hd⟩, _⟩ := I.tuple hT
    simp only at hc hd
    subst hc hd
    refine wpAny_binaryOp_repeat_ref (T := "tuple") (U := "int") (by decide) ⟨_, ho, rfl⟩ (fun s' => typeIs_int s' 1 t) noFill_tuple_mul F.fills_int_mul F.slot_int_rmul repeat_tuple F.slot_int_index.lookup
      (call_meets F.slot_int_rmul (typeIs_int s 1 t) F.entry_int_rmul (F.args_int_rmul_2 _ _) (int_rmul_tuple 1 t l its.toArray n dd sl)
        ⟨ho, rfl, ⟨_, ho, rfl⟩, call_meets F.slot_tuple_mul ⟨_, ho, rfl⟩ F.entry_tuple_mul (F.args_tuple_mul_2 _ _) (mul_one l its.toArray n dd sl t) ⟨ho, ?_⟩⟩)
    exact ⟨.ref l, H, I, rfl, q1 rfl⟩
  · exact op_repT pins s σ H x y v u Q I rx ry ⟨l, k, xs, ex, ey, hT, hne, by omega, h2, hz, q2 (by omega)⟩
end Bx
namespace Bx
open PySem PySem.Spec PyProof.Rows L2
section
variable {X : Cx} {K : PySem.W.Frag}
theorem pe_revLK {e : Expr} {te : TE} {k : Nat} {p1 p2 p3 pos : Pos} (h : X.K = K) (he : PE X e te) : PE X (.Subscript e (.Slice none none (some (.UnaryOp .USub (.Constant (.int 1) k p1) p2)) p3) pos) (tRevL K te) := by
  subst h
  exact pe_revL he
end
section
variable {X : Cx} {k : Nat} {C f : Addr} {fd : FuncData} {ps : List Str} {sp : Sp} {W : WX} {m fl : Str} {p pos apos : Pos} {e o : Expr} {es : List Expr} {ta : TE} {t : TA}
/-- o.f as a target -/
def gFld (K : PySem.W.Frag) (to : TE) (f : Str) : TG := fun v σ H Q => to σ H fun x H2 => ∃ a C dx fs, x = .ref a ∧ H2 a = some (.ins C dx fs) ∧ Cls K C ∧ NoAttr K C f ∧ fs.length < 1000 ∧ Q σ (upd H2 a (.ins C dx (putF f v fs)))
theorem pg_fld (ho : PE X o ta) (ha : ∀ v, assign (.Attribute o fl pos) X.env v = (do
      let ov ← holding [v] (eval o X.env)
      standAt pos.atName
      holding [v, ov] (setAttr ov fl v)
      release [v, ov] []) := by intro _; rfl) : PG X (.Attribute o fl pos) (gFld X.K ta fl) := by
  refine ⟨fun pins s σ H v u Q I r h => ?_⟩
  rw [ha]
  refine wpAny_bind (wpAny_holding (thn (ho.run pins s σ H _ I h) fun ov s1 ⟨x, H1, I1, r1, a, C, dx, fs, ex, ea, c, n, l, q⟩ => ?_))
  subst ex
  obtain rfl : ov = Value.ref a := r1
  refine wpAny_bind (wpAny_standAt (wpAny_bind (wpAny_holding (setattr_ok I1 ea c n l r fun s3 I3 => ?_))))
  exact wpAny_release ⟨σ, _, I3, q⟩
/-- o.m(e) where the method may raise, in a try -/
def tMethX (C : Addr) (m : Str) (sp : Sp) (E : L2.St → XK) (ta : TE) (t : TA) : TE := fun σ H Q => ta σ H fun x H1 => ∃ a dx fs, x = .ref a ∧ H1 a = some (.ins C dx fs) ∧ fs.lookup m = none ∧ t σ H1 fun vs H2 => sp (x :: vs) H2 Q (E σ)
theorem pe_methX {pl : Sem Bool} (he : PE X o ta) (c : Cls X.K C) (hm : Meth X.K C m f) (F : FnOk X.prog X.w X.K X.mg X.base (L2.CX X.prog X.w) k f fd ps sp) (hr : Room k X.A) (hb : Binds X.K fd ps []) (tk : Takes X W) (ha : PA X (e :: es) t)
    (hst : starEach (e :: es) X.env = (false, eval e X.env) :: starEach es X.env := by rfl) (hpl : (backTo pos (starEach es X.env)).any (·.1) = false := by rfl)
    (ht : eval (.Call (.Attribute o m apos) (e :: es) [] pos) X.env = (do
      let ov ← eval o X.env
      standAt apos.atName
      let (f, first) ← holding [ov] (getMethod ov m pl)
      callWith pos f first (backTo pos (starEach (e :: es) X.env)) (backToKw pos (keywordEach [] X.env))) := by rfl) :
    PE X (.Call (.Attribute o m apos) (e :: es) [] pos) (tMethX C m sp (WE W) ta t) := by
  refine ⟨fun pins s σ H Q I h => ?_⟩
  refine PySem.W.methodCall_KW (pl := pl) (thn (he.run pins s σ H _ I h) fun u s1 ⟨x, H1, I1, rx, a, dx, fs, ex, ea, l, q⟩ => ?_) ht
  subst ex
  obtain rfl : u = Value.ref a := rx
  refine getmeth_ok I1 ea c hm l ?_
  refine PySem.W.callWith_K (first := [.ref a]) (h₀ := X.base) I.ok.mod.kin hm.kp (thn (ha.run pos pins s1 σ H1 _ I1 q) fun us s2 ⟨vs, H2, I2, r, q2⟩ => ⟨I2.kIn, ?_⟩) hst hpl
  exact run_fnS (us := .ref a :: us) (vs := .ref a :: vs) F hr hb (passAt tk σ) I2 (.cons rfl r) q2
end
/-- a journal's attributes -/
def jf (ma : Addr) (sp : Int) (tx : Str) (st tu : Int) (an : Addr) : List (Str × V) := [("machine", .ref ma), ("spacing", .int sp), ("text", .str tx), ("state", .int st), ("turns", .int tu), ("answers", .ref an)]
theorem jf_text (ma sp tx st tu an t') : putF "text" (.str t') (jf ma sp tx st tu an) = jf ma sp t' st tu an := by rfl
theorem jf_state (ma sp tx st tu an t') : putF "state" (.int t') (jf ma sp tx st tu an) = jf ma sp tx t' tu an := by rfl
theorem jf_turns (ma sp tx st tu an t') : putF "turns" (.int t') (jf ma sp tx st tu an) = jf ma sp tx st t' an := by rfl
theorem jl_m (ma sp tx st tu an) : (jf ma sp tx st tu an).lookup ("machine" : Str) = some (V.ref ma) := by rfl
theorem jl_sp (ma sp tx st tu an) : (jf ma sp tx st tu an).lookup ("spacing" : Str) = some (V.int sp) := by rfl
theorem jl_tx (ma sp tx st tu an) : (jf ma sp tx st tu an).lookup ("text" : Str) = some (V.str tx) := by rfl
theorem jl_st (ma sp tx st tu an) : (jf ma sp tx st tu an).lookup ("state" : Str) = some (V.int st) := by rfl
theorem jl_tu (ma sp tx st tu an) : (jf ma sp tx st tu an).lookup ("turns" : Str) = some (V.int tu) := by rfl
theorem jl_an (ma sp tx st tu an) : (jf ma sp tx st tu an).lookup ("answers" : Str) = some (V.ref an) := by rfl
theorem jl_hear (ma sp tx st tu an) : (jf ma sp tx st tu an).lookup ("hear" : Str) = none := by rfl
theorem jf_new (ma : Addr) (sp : Int) (tx : Str) (an : Addr) : putF "answers" (.ref an) (putF "turns" (.int 0) (putF "state" (.int 0) (putF "text" (.str tx) (putF "spacing" (.int sp) (putF "machine" (.ref ma) []))))) = jf ma sp tx 0 0 an := by rfl
structure JrnC (K : PySem.W.Frag) (C : Addr) : Prop where
  cl : Cls K C
  nm : NoAttr K C "machine"
  nsp : NoAttr K C "spacing"
  ntx : NoAttr K C "text"
  nst : NoAttr K C "state"
  ntu : NoAttr K C "turns"
  nan : NoAttr K C "answers"
/-- all but some objects stay -/
def Kpl (l : List Addr) (H H' : Hp) : Prop := ∀ b o, b ∉ l → H b = some o → H' b = some o
theorem Kpl.refl (l : List Addr) (H : Hp) : Kpl l H H := fun _ _ _ h => h
theorem Kpl.trans {l : List Addr} {H H1 H2 : Hp} (a : Kpl l H H1) (b : Kpl l H1 H2) : Kpl l H H2 := fun x o n h => b _ _ n (a _ _ n h)
theorem Kpl.same {l : List Addr} {H H1 : Hp} (s : Same H H1) : Kpl l H H1 := fun x o _ h => s _ _ h
theorem Kpl.own {l : List Addr} {H : Hp} {a : Addr} {o : HO} (h : a ∈ l) : Kpl l H (upd H a o) := fun x o' n hx => by rw [upd_ne (fun z => n (by rw [z]; exact h))]; exact hx
theorem Kpl.more {l l' : List Addr} {H H1 : Hp} (k : Kpl l H H1) (h : ∀ a ∈ l, a ∈ l') : Kpl l' H H1 := fun x o n hx => k _ _ (fun z => n (h _ z)) hx
theorem sat {H H' : Hp} {a : Addr} {o : HO} (s : Same H H') (h : H a = some o) : H' a = some o := s _ _ h
end Bx
namespace Dm
open PySem PySem.Builtin TL
def pad (k : Nat) (l : List Nat) : List Nat := List.replicate (k - l.length) 48 ++ l
theorem pad_snoc (k : Nat) (l : List Nat) (c : Nat) : pad (k + 1) (l ++ [c]) = pad k l ++ [c] := by
  unfold pad
  rw [List.length_append, show k + 1 - (l.length + [c].length) = k - l.length by simp only [List.length_singleton]; omega, List.append_assoc]
theorem numL_pad : ∀ (k q r : Nat), 1 ≤ q → r < 10 ^ (k + 1) → numL (q * 10 ^ (k + 1) + r) = numL q ++ pad (k + 1) (numL r)
  | 0, q, r, hq, hr => by
    have hr : r < 10 := by simpa using hr
    rw [numL_step (by omega), show (q * 10 ^ (0 + 1) + r) / 10 = q by omega, show (q * 10 ^ (0 + 1) + r) % 10 = r by omega, numL_lt hr]
    rfl
  | k + 1, q, r, hq, hr => by
    have e1 : q * 10 ^ (k + 1 + 1) + r = (q * 10 ^ (k + 1)) * 10 + r := by rw [Nat.pow_succ 10 (k + 1), Nat.mul_assoc]
    have hp : 1 ≤ 10 ^ (k + 1) := Nat.one_le_iff_ne_zero.mpr (Nat.pos_iff_ne_zero.mp (Nat.pow_pos (by decide)))
    have hq1 : 1 ≤ q * 10 ^ (k + 1) := Nat.mul_le_mul hq hp
    have hr2 : r / 10 < 10 ^ (k + 1) := by
      rw [Nat.pow_succ 10 (k + 1)] at hr
      omega
    rw [e1, numL_step (by omega), show ((q * 10 ^ (k + 1)) * 10 + r) / 10 = q * 10 ^ (k + 1) + r / 10 by omega, show ((q * 10 ^ (k + 1)) * 10 + r) % 10 = r % 10 by omega, numL_pad k q (r / 10) hq hr2]
    by_cases h : r < 10
    · rw [numL_lt h, show r / 10 = 0 by omega, show r % 10 = r by omega, numL_lt (by decide : (0 : Nat) < 10)]
      unfold pad
      simp only [List.length_singleton]
      rw [show k + 1 + 1 - 1 = (k + 1 - 1) + 1 by omega, List.replicate_succ', List.append_assoc, List.append_assoc]
    · rw [numL_step (show 10 ≤ r by omega), pad_snoc, List.append_assoc]
theorem zf {r : Nat} (hr : r < 10 ^ 18) : tl (Txt.zfill (Str.ofString (toString ((r : Nat) : Int))) 18) = pad 18 (numL r) := by
  have hl : (Str.ofString (toString ((r : Nat) : Int))).length = (numL r).length := by rw [len_tl, tl_num]
  have hle := numL_len (by decide : 0 < 18) hr
  unfold Txt.zfill
  rw [hl]
  by_cases h : (18 : Int) ≤ ((numL r).length : Nat)
  · rw [if_pos h, tl_num]
    unfold pad
    rw [show 18 - (numL r).length = 0 by omega]
    rfl
  · rw [if_neg h]
    have hz : ∀ (x : Str) (m : Nat), (∀ c, x.cps[0]? = some c → 48 ≤ c) → tl (zfilled x m) = List.replicate m 48 ++ tl x := by
      intro x m hc
      unfold zfilled
      have hp : tl (Builtin.Str.padded x m 0 48) = List.replicate m 48 ++ tl x := by
        unfold Builtin.Str.padded
        show (Array.replicate m 48 ++ x.cps ++ Array.replicate 0 48).toList = _
        simp [tl]
      split
      · rename_i e; have := hc _ e; omega
      · rename_i e; have := hc _ e; omega
      · exact hp
    rw [hz, tl_num]
    · unfold pad
      rw [show (18 : Int).toNat - (numL r).length = 18 - (numL r).length from rfl]
    · intro c hc
      have : c ∈ numL r := by
        rw [← tl_num]
        have := Array.getElem?_eq_some_iff.mp hc
        obtain ⟨h1, h2⟩ := this
        exact Array.mem_toList_iff.mpr (by rw [← h2]; exact Array.getElem_mem h1)
      exact (numL_digits r c this).1
end Dm
namespace Bx
open PySem PySem.Spec PyProof.Rows L2
/-- for c in text -/
theorem for_str {x : Str} {g : TG} {tb : TS} {D : Ends} {σ : L2.St} {H : Hp} (Pv : Nat → L2.St → Hp → Prop) (h0 : Pv 0 σ H)
    (hs : ∀ i c σ H, x.cps[i]? = some c → Pv i σ H → g (.str ⟨#[c]⟩) σ H fun σ2 H2 => tb { D with nx := Pv (i + 1), ct := Pv (i + 1), bk := D.nx } σ2 H2) (hd : ∀ σ H, Pv x.cps.size σ H → D.nx σ H) :
    ∃ W : Nat → Nat → L2.St → Hp → Prop, (∃ m, W 0 m σ H) ∧ ∀ i m σ H, W i m σ H →
      ((Its x).stop i H ∧ D.nx σ H) ∨ ((Its x).go i H ∧ ∃ N : L2.St → Hp → Prop, (∀ σ' H', N σ' H' → ∃ m', m' < m ∧ W (i + 1) m' σ' H') ∧ ∀ v H', (Its x).yld i H v H' → g v σ H' fun σ2 H2 => tb { D with nx := N, ct := N, bk := D.nx } σ2 H2) := by
  refine ⟨fun i m σ H => m = x.cps.size - i ∧ i ≤ x.cps.size ∧ Pv i σ H, ⟨x.cps.size, by simp, Nat.zero_le _, h0⟩, ?_⟩
  rintro i m σ H ⟨rfl, hi, p⟩
  by_cases hlt : i < x.cps.size
  · refine .inr ⟨hlt, Pv (i + 1), fun σ' H' p' => ⟨x.cps.size - (i + 1), by omega, rfl, hlt, p'⟩, fun v H' y => ?_⟩
    obtain ⟨e, c, hc, rfl⟩ := y
    subst e
    exact hs i c σ _ hc p
  · have e : i = x.cps.size := by omega
    subst e
    exact .inl ⟨Nat.le_refl _, hd _ _ p⟩
end Bx
namespace Bx
open PySem PySem.Spec PyProof.Rows L2
/-- {k: v}, k a tuple of numbers and texts -/
def dispQ (p : Addr) (Q : VK) : List (V × V) → Hp → Prop
  | [(y, z)], H2 => ∃ (b : Addr) (ks : List L2.Key), y = .ref b ∧ H2 b = some (.tup (ks.map kV)) ∧ H2 p = some (.dT []) ∧ Q (.ref p) (upd H2 p (.dT [(ks, z)]))
  | _, _ => False
def tDispT (tk tv : TE) : TE := fun σ H Q => ∀ p, H p = none → tk σ (upd H p (.dT [])) fun y H1 => tv σ H1 fun z H2 => dispQ p Q [(y, z)] H2
theorem pe_dispT {X : Cx} {pos : Pos} {k v : Expr} {tk tv : TE} (hu : X.A.units + 1 < cLine) (hk : PE X k tk) (hv : PE X v tv) : PE X (.Dict [some k] [v] pos) (tDispT tk tv) := by
  refine ⟨fun pins s σ H Q I h => ?_⟩
  refine wpAny_Dict_any rfl rfl (by simp) (by show 1 ≤ 15; decide) ?_
  have hf : H s.heap.objs.size = none := I.hok.fresh (Nat.le_refl _)
  have h1 := h s.heap.objs.size hf
  have I1 : Inv X pins σ (upd H s.heap.objs.size (.dT [])) { heap := s.heap.push { cls := .type "dict", data := .dict #[] }, gens := s.gens, drawn := s.drawn, toks := s.toks, os := s.os } := by
    refine I.laid (t' := s.toks) (fun b o hb => ?_) (Nat.le_refl _) (dt_empty s.heap ?_)
    · exact Heap.get?_push_of_some _ hb
    · exact I.big
  refine wpAny_mono ((pps_cons hk hv pps_nil).run pins _ σ _ (dispQ s.heap.objs.size Q) I1 h1) (fun vs s1 hq => ?_) (fun _ _ z => z)
  obtain ⟨ps, H2, I2, rv, hq⟩ := hq
  match ps, rv, hq with
  | [(y, z)], rv, ⟨b, ks, e, eb, ed, q⟩ =>
    subst e
    obtain ⟨_, hsm, xs, kt, D⟩ := dt_of I2.hok ed
    cases kt
    cases rv with
    | cons r0 rt =>
      rename_i u0 us0
      cases rt
      obtain ⟨u, r⟩ := u0
      obtain ⟨ra, rb⟩ := r0
      cases ra
      unfold storeAll
      simp only [List.forIn_cons, List.forIn_nil]
      refine wpAny_bind (wpAny_bind (wpAny_dictSet_heap (knd := tupleKind (mixKind X.prog X.w)) (Nat.lt_of_le_of_lt (Nat.le_succ _) hu) (key_of I2.hok eb) D (fun h' D' sb => ?_) (by show 0 ≤ sizeLine; exact Nat.zero_le _)))
      refine wpAny_pure ?_
      refine wpAny_pure ?_
      refine ⟨.ref s.heap.objs.size, upd H2 s.heap.objs.size (.dT [(ks, z)]), ?_, rfl, q⟩
      refine d_write I2 (by rw [ed]; exact True.intro) sb ?_ ?_
      · obtain ⟨o, es, ep, g, _⟩ := D'
        exact ⟨o, g⟩
      · have nb : b ≠ s.heap.objs.size := fun e => by rw [e, ed] at eb; cases eb
        refine ⟨by show 1 ≤ sizeLine; decide, hsm, [(ks, b, r)], .cons ⟨rfl, by rw [upd_ne nb]; exact eb, rb⟩ .nil, ?_⟩
        obtain ⟨o, es, ep, g1, g2, g3, g4, _, g5⟩ := D'
        exact ⟨o, es, ep, g1, g2, g3, g4, g5⟩
theorem op_notInDK {X : Cx} {K : PySem.W.Frag} (h : X.K = K) (hu : X.A.units + 65 < cLine) : OpR X (compareOp .NotIn) (rNotInD K) := by
  subst h
  exact op_notInD hu
end Bx
namespace Gr
/-! Directed graphs as rows; what a depth-first order and components by it are. -/
abbrev G := List (List Nat)
def row (g : G) (u : Nat) : List Nat := g.getD u []
def E (g : G) (u v : Nat) : Prop := v ∈ row g u
inductive Rc (g : G) : Nat → Nat → Prop
  | refl (u : Nat) : Rc g u u
  | step {u v w : Nat} : E g u v → Rc g v w → Rc g u w
theorem Rc.one {g : G} {u v : Nat} (h : E g u v) : Rc g u v := .step h (.refl v)
theorem Rc.trans {g : G} {u v w : Nat} (h : Rc g u v) (k : Rc g v w) : Rc g u w := by
  induction h with
  | refl _ => exact k
  | step e _ ih => exact .step e (ih k)
theorem Rc.snoc {g : G} {u v w : Nat} (h : Rc g u v) (k : E g v w) : Rc g u w := h.trans (.one k)
/-- a way that leaves a set crosses its border -/
theorem Rc.cross {g : G} {S : Nat → Prop} {u v : Nat} (h : Rc g u v) (hu : S u) (hv : ¬ S v) : ∃ b y, S b ∧ E g b y ∧ ¬ S y ∧ Rc g u b ∧ Rc g y v := by
  induction h with
  | refl _ => exact absurd hu hv
  | @step a b c e r ih =>
    by_cases hb : S b
    · obtain ⟨x, y, h1, h2, h3, h4, h5⟩ := ih hb hv
      exact ⟨x, y, h1, h2, h3, .step e h4, h5⟩
    · exact ⟨a, b, hu, e, hb, .refl _, r⟩
def Ok (g : G) : Prop := ∀ u, ∀ v ∈ row g u, v < g.length
theorem Ok.rc {g : G} (h : Ok g) {u v : Nat} (r : Rc g u v) (hu : u < g.length) : v < g.length := by
  induction r with
  | refl _ => exact hu
  | step e _ ih => exact ih (h _ _ e)
/-- mutual -/
def Mu (g : G) (u v : Nat) : Prop := Rc g u v ∧ Rc g v u
theorem Mu.symm {g : G} {u v : Nat} (h : Mu g u v) : Mu g v u := ⟨h.2, h.1⟩
theorem Mu.refl (g : G) (u : Nat) : Mu g u u := ⟨.refl _, .refl _⟩
theorem Mu.trans {g : G} {u v w : Nat} (h : Mu g u v) (k : Mu g v w) : Mu g u w := ⟨h.1.trans k.1, k.2.trans h.2⟩

/-- the last one in a list -/
theorem last_split {P : Nat → Prop} : ∀ {l : List Nat}, (∃ x ∈ l, P x) → ∃ A w B, l = A ++ w :: B ∧ P w ∧ ∀ b ∈ B, ¬ P b
  | [], h => by obtain ⟨_, h, _⟩ := h; cases h
  | y :: l, h => by
    by_cases k : ∃ x ∈ l, P x
    · obtain ⟨A, w, B, e, h1, h2⟩ := last_split k
      exact ⟨y :: A, w, B, by rw [e]; rfl, h1, h2⟩
    · obtain ⟨x, hx, p⟩ := h
      rcases List.mem_cons.mp hx with rfl | hx
      · exact ⟨[], x, l, rfl, p, fun b hb z => k ⟨b, hb, z⟩⟩
      · exact absurd ⟨x, hx, p⟩ k

/-! ### the order of leaving -/
structure Dfs (g : G) (ord : List Nat) (stk : List (Nat × Nat)) : Prop where
  nd : (ord ++ stk.map (·.1)).Nodup
  lt : ∀ u ∈ ord ++ stk.map (·.1), u < g.length
  ch : stk.Pairwise fun a b => Rc g b.1 a.1
  fo : ∀ x ∈ stk, x.2 ≤ (row g x.1).length ∧ ∀ i y, i < x.2 → (row g x.1)[i]? = some y → y ∈ ord ++ stk.map (·.1)
  bl : ∀ b ∈ ord, ∀ y ∈ row g b, y ∈ ord ++ stk.map (·.1)
  sp : ∀ A u B, ord = A ++ u :: B → ∀ b ∈ A ++ [u], ∀ y ∈ row g b, y ∈ A ++ [u] ∨ Rc g y u
theorem Dfs.nil (g : G) : Dfs g [] [] := ⟨List.nodup_nil, fun u h => (by cases h), List.Pairwise.nil, fun x h => (by cases h), fun b h => (by cases h), fun A u B h => (by cases A <;> cases h)⟩
theorem mem_oc {ord : List Nat} {n f f' : Nat} {stk : List (Nat × Nat)} {y : Nat} : y ∈ ord ++ ((n, f) :: stk).map (·.1) ↔ y ∈ ord ++ ((n, f') :: stk).map (·.1) := Iff.rfl
/-- one edge more, to a node that has been found -/
theorem Dfs.skip {g : G} {ord : List Nat} {n f t : Nat} {stk : List (Nat × Nat)} (h : Dfs g ord ((n, f) :: stk)) (e : (row g n)[f]? = some t) (ht : t ∈ ord ++ ((n, f) :: stk).map (·.1)) : Dfs g ord ((n, f + 1) :: stk) := by
  refine ⟨h.nd, h.lt, ?_, fun x hx => ?_, h.bl, h.sp⟩
  · have := h.ch
    rw [List.pairwise_cons] at this ⊢
    exact this
  · rcases List.mem_cons.mp hx with rfl | hx
    · have hf : f < (row g n).length := by
        rcases Nat.lt_or_ge f (row g n).length with k | k
        · exact k
        · rw [List.getElem?_eq_none k] at e; cases e
      refine ⟨hf, fun i y hi hy => ?_⟩
      rcases Nat.lt_or_ge i f with k | k
      · exact (h.fo _ List.mem_cons_self).2 i y k hy
      · have : i = f := Nat.le_antisymm (Nat.le_of_lt_succ hi) k
        subst this
        have hy : (row g n)[i]? = some y := hy
        rw [e] at hy
        cases hy
        exact ht
    · exact h.fo x (List.mem_cons_of_mem _ hx)
theorem Dfs.skip2 {g : G} {ord : List Nat} {n f t : Nat} {s : Nat × Nat} {stk : List (Nat × Nat)} (h : Dfs g ord (s :: (n, f) :: stk)) (e : (row g n)[f]? = some t) (ht : t ∈ ord ++ (s :: (n, f) :: stk).map (·.1)) : Dfs g ord (s :: (n, f + 1) :: stk) := by
  refine ⟨h.nd, h.lt, ?_, fun x hx => ?_, h.bl, h.sp⟩
  · have := h.ch
    rw [List.pairwise_cons, List.pairwise_cons] at this ⊢
    refine ⟨fun a ha => ?_, this.2⟩
    rcases List.mem_cons.mp ha with rfl | ha
    · exact this.1 (n, f) List.mem_cons_self
    · exact this.1 a (List.mem_cons_of_mem _ ha)
  · rcases List.mem_cons.mp hx with rfl | hx
    · exact h.fo x List.mem_cons_self
    rcases List.mem_cons.mp hx with rfl | hx
    · have hf : f < (row g n).length := by
        rcases Nat.lt_or_ge f (row g n).length with k | k
        · exact k
        · rw [List.getElem?_eq_none k] at e; cases e
      refine ⟨hf, fun i y hi hy => ?_⟩
      rcases Nat.lt_or_ge i f with k | k
      · exact (h.fo (n, f) (by simp)).2 i y k hy
      · have : i = f := Nat.le_antisymm (Nat.le_of_lt_succ hi) k
        subst this
        have hy : (row g n)[i]? = some y := hy
        rw [e] at hy
        cases hy
        exact ht
    · exact h.fo x (by simp [hx])
/-- a new node -/
theorem Dfs.push {g : G} {ord : List Nat} {t : Nat} {stk : List (Nat × Nat)} (h : Dfs g ord stk) (hl : t < g.length) (ht : t ∉ ord ++ stk.map (·.1)) (hr : ∀ x ∈ stk, Rc g x.1 t) : Dfs g ord ((t, 0) :: stk) := by
  have up : ∀ y, y ∈ ord ++ stk.map (·.1) → y ∈ ord ++ ((t, 0) :: stk).map (·.1) := fun y hy => by
    rcases List.mem_append.mp hy with k | k
    · exact List.mem_append.mpr (.inl k)
    · exact List.mem_append.mpr (.inr (List.mem_cons_of_mem _ k))
  refine ⟨?_, fun u hu => ?_, ?_, fun x hx => ?_, fun b hb y hy => up y (h.bl b hb y hy), h.sp⟩
  · show (ord ++ t :: stk.map (·.1)).Nodup
    have hn := h.nd
    rw [List.nodup_append] at hn ⊢
    refine ⟨hn.1, ?_, fun a ha b hb => ?_⟩
    · rw [List.nodup_cons]
      exact ⟨fun z => ht (List.mem_append.mpr (.inr z)), hn.2.1⟩
    · rcases List.mem_cons.mp hb with rfl | hb
      · exact fun z => ht (List.mem_append.mpr (.inl (z ▸ ha)))
      · exact hn.2.2 a ha b hb
  · rcases List.mem_append.mp hu with k | k
    · exact h.lt u (List.mem_append.mpr (.inl k))
    · rcases List.mem_cons.mp k with rfl | k
      · exact hl
      · exact h.lt u (List.mem_append.mpr (.inr k))
  · rw [List.pairwise_cons]
    exact ⟨fun x hx => hr x hx, h.ch⟩
  · rcases List.mem_cons.mp hx with rfl | hx
    · exact ⟨Nat.zero_le _, fun i y hi => absurd hi (Nat.not_lt_zero _)⟩
    · exact ⟨(h.fo x hx).1, fun i y hi hy => up y ((h.fo x hx).2 i y hi hy)⟩
/-- the top is left -/
theorem Dfs.pop {g : G} {ord : List Nat} {n : Nat} {stk : List (Nat × Nat)} (h : Dfs g ord ((n, (row g n).length) :: stk)) : Dfs g (ord ++ [n]) stk := by
  have perm : ∀ y, y ∈ ord ++ ((n, (row g n).length) :: stk).map (·.1) ↔ y ∈ (ord ++ [n]) ++ stk.map (·.1) := fun y => by
    rw [List.append_assoc]; rfl
  have succ : ∀ y ∈ row g n, y ∈ ord ++ ((n, (row g n).length) :: stk).map (·.1) := fun y hy => by
    obtain ⟨i, hi⟩ := List.mem_iff_getElem?.mp hy
    have hl : i < (row g n).length := by
      rcases Nat.lt_or_ge i (row g n).length with k | k
      · exact k
      · rw [List.getElem?_eq_none k] at hi; cases hi
    exact (h.fo _ List.mem_cons_self).2 i y hl hi
  have ch := h.ch
  rw [List.pairwise_cons] at ch
  refine ⟨?_, fun u hu => h.lt u ((perm u).mpr hu), ch.2, fun x hx => ?_, fun b hb y hy => ?_, fun A u B e b hb y hy => ?_⟩
  · have := h.nd
    rw [List.append_assoc]
    exact this
  · have := h.fo x (List.mem_cons_of_mem _ hx)
    exact ⟨this.1, fun i y hi hy => (perm y).mp (this.2 i y hi hy)⟩
  · rcases List.mem_append.mp hb with k | k
    · exact (perm y).mp (h.bl b k y hy)
    · rw [List.mem_singleton] at k
      subst k
      exact (perm y).mp (succ y hy)
  · rcases List.eq_nil_or_concat B with rfl | ⟨B', z, rfl⟩
    · have e2 := List.append_inj' e rfl
      have eA := e2.1
      have eu : n = u := (List.cons.inj e2.2).1
      subst eA; subst eu
      have hy' : y ∈ ord ++ ((n, (row g n).length) :: stk).map (·.1) := by
        rcases List.mem_append.mp hb with k | k
        · exact h.bl b k y hy
        · rw [List.mem_singleton] at k
          subst k
          exact succ y hy
      rcases List.mem_append.mp hy' with k | k
      · exact .inl (List.mem_append.mpr (.inl k))
      · rcases List.mem_cons.mp k with k | k
        · exact .inl (List.mem_append.mpr (.inr (by rw [k]; exact List.mem_singleton.mpr rfl)))
        · obtain ⟨x, hx, rfl⟩ := List.mem_map.mp k
          exact .inr (ch.1 x hx)
    · have e2 : ord ++ [n] = (A ++ u :: B') ++ [z] := by rw [e, List.concat_eq_append, List.append_assoc]; rfl
      exact h.sp A u B' (List.append_inj' e2 rfl).1 b hb y hy

/-- what a finished search has -/
structure Fin (g : G) (ord : List Nat) : Prop where
  nd : ord.Nodup
  all : ∀ u, u ∈ ord ↔ u < g.length
  sp : ∀ A u B, ord = A ++ u :: B → ∀ b ∈ A ++ [u], ∀ y ∈ row g b, y ∈ A ++ [u] ∨ Rc g y u
theorem Dfs.fin {g : G} {ord : List Nat} (h : Dfs g ord []) (k : ∀ u, u < g.length → u ∈ ord) : Fin g ord := by
  have hn := h.nd
  simp only [List.map_nil, List.append_nil] at hn
  exact ⟨hn, fun u => ⟨fun z => h.lt u (List.mem_append.mpr (.inl z)), k u⟩, h.sp⟩
theorem nodup_split {A B : List Nat} {w : Nat} (h : (A ++ w :: B).Nodup) : w ∉ A ∧ w ∉ B ∧ ∀ a ∈ A, a ∉ B := by
  rw [List.nodup_append, List.nodup_cons] at h
  exact ⟨fun z => h.2.2 w z w List.mem_cons_self rfl, h.2.1.1, fun a ha hb => h.2.2 a ha a (List.mem_cons_of_mem _ hb) rfl⟩
/-- from a node that may not stand behind s (nor its companions) no way leads to s, but in a circle -/
theorem Fin.back {g : G} {A B : List Nat} {s u : Nat} (ok : Ok g) (h : Fin g (A ++ s :: B)) (hu : u < g.length) (r : Rc g u s) (no : ∀ b ∈ B, ¬ Mu g u b) : Rc g s u := by
  obtain ⟨A1, w, B1, e, hw, hB⟩ := last_split (P := fun x => Mu g u x) (l := A ++ s :: B) ⟨u, (h.all u).mpr hu, Mu.refl g u⟩
  have nd := h.nd
  have hwm : w ∈ A ++ s :: B := by rw [e]; simp
  by_cases ews : w = s
  · subst ews; exact hw.2
  have hwA : w ∈ A := by
    rcases List.mem_append.mp hwm with k | k
    · exact k
    · rcases List.mem_cons.mp k with k | k
      · exact absurd k ews
      · exact absurd hw (no w k)
  -- s stands behind w
  have hsB : s ∉ A1 ++ [w] := by
    intro hs
    have hs1 : s ∈ A1 := by
      rcases List.mem_append.mp hs with k | k
      · exact k
      · exact absurd (List.mem_singleton.mp k).symm ews
    -- then A is shorter than A1: w ∈ A stands ahead of s, so w ∈ A1
    obtain ⟨C, D, eC⟩ := List.append_of_mem hs1
    have e2 : A ++ s :: B = C ++ s :: (D ++ w :: B1) := by rw [e, eC, List.append_assoc]; rfl
    have nd2 := nd
    rw [e2] at nd2
    have n1 := nodup_split nd
    have n2 := nodup_split nd2
    have : w ∈ B := by
      rcases List.append_eq_append_iff.mp e2 with ⟨F, h1, h2⟩ | ⟨F, h1, h2⟩
      · cases F with
        | nil => rw [List.nil_append] at h2; rw [(List.cons.inj h2).2]; simp
        | cons x F =>
          have h3 := List.cons.inj h2
          exact absurd (by rw [h1, ← h3.1]; simp) n2.1
      · cases F with
        | nil => rw [List.nil_append] at h2; rw [← (List.cons.inj h2).2]; simp
        | cons x F =>
          have h3 := List.cons.inj h2
          exact absurd (by rw [h1, ← h3.1]; simp) n1.1
    exact n1.2.2 w hwA this
  have huA : u ∈ A1 ++ [w] := by
    have hum : u ∈ A1 ++ w :: B1 := by rw [← e]; exact (h.all u).mpr hu
    rcases List.mem_append.mp hum with k | k
    · exact List.mem_append.mpr (.inl k)
    · rcases List.mem_cons.mp k with k | k
      · rw [k]; simp
      · exact absurd (Mu.refl g u) (hB u k)
  obtain ⟨b, y, hb, hy, hny, r1, r2⟩ := r.cross (S := fun x => x ∈ A1 ++ [w]) huA hsB
  rcases h.sp A1 w B1 e b hb y hy with k | k
  · exact absurd k hny
  · have mu : Mu g u y := ⟨r1.snoc hy, k.trans hw.2⟩
    have hym : y ∈ A1 ++ w :: B1 := by rw [← e]; exact (h.all y).mpr (ok b y hy)
    rcases List.mem_append.mp hym with z | z
    · exact absurd (List.mem_append.mpr (.inl z)) hny
    · rcases List.mem_cons.mp z with z | z
      · exact absurd (by rw [z]; simp) hny
      · exact absurd mu (hB y z)

/-! ### components: homes are numbers of nodes, -1 for none -/
/-- H u is u's number if it has one -/
structure Cmp (g : G) (H : Nat → Option Nat) (c : Nat) : Prop where
  lt : ∀ u i, H u = some i → i < c ∧ u < g.length
  eq : ∀ u v i j, H u = some i → H v = some j → (i = j ↔ Mu g u v)
  mu : ∀ u v i, H u = some i → Mu g u v → H v ≠ none
  ed : ∀ u v j, E g u v → u < g.length → H v = some j → ∃ i, H u = some i ∧ i ≤ j
  us : ∀ i, i < c → ∃ u, H u = some i
theorem Cmp.nil (g : G) : Cmp g (fun _ => none) 0 := ⟨fun _ _ h => (by cases h), fun _ _ _ _ h => (by cases h), fun _ _ _ h => (by cases h), fun _ _ _ _ _ h => (by cases h), fun i h => absurd h (Nat.not_lt_zero i)⟩
theorem Cmp.rc {g : G} {H : Nat → Option Nat} {c : Nat} (h : Cmp g H c) {u v j : Nat} (ok : Ok g) (r : Rc g u v) (hu : u < g.length) (hv : H v = some j) : ∃ i, H u = some i ∧ i ≤ j := by
  induction r with
  | refl _ => exact ⟨j, hv, Nat.le_refl _⟩
  | step e _ ih =>
    obtain ⟨i, h1, h2⟩ := ih (ok _ _ e) hv
    obtain ⟨i', h3, h4⟩ := h.ed _ _ i e hu h1
    exact ⟨i', h3, Nat.le_trans h4 h2⟩
/-- one component more: the set S of the nodes without a number from which start can be reached -/
theorem Cmp.more {g : G} {H H' : Nat → Option Nat} {c s : Nat} {A B : List Nat} (ok : Ok g) (h : Cmp g H c) (f : Fin g (A ++ s :: B)) (hB : ∀ b ∈ B, H b ≠ none) (hs : H s = none)
    (h1 : ∀ u i, H u = some i → H' u = some i) (h2 : ∀ u i, H u = none → H' u = some i → i = c ∧ u < g.length ∧ Rc g u s) (h3 : ∀ u, u < g.length → Rc g u s → H u = none → H' u = some c) : Cmp g H' (c + 1) := by
  have hsl : s < g.length := (f.all s).mp (by simp)
  -- the new ones are mutual with s
  have new : ∀ u, H u = none → u < g.length → Rc g u s → Mu g u s := fun u hu hl r => ⟨r, f.back ok hl r fun b hb m => by
    cases e : H b with
    | none => exact hB b hb e
    | some i => exact h.mu b u i e m.symm hu⟩
  have old : ∀ u i, H' u = some i → H u = some i ∨ (H u = none ∧ i = c ∧ u < g.length ∧ Mu g u s) := fun u i e => by
    cases k : H u with
    | none =>
      obtain ⟨e1, e2, e3⟩ := h2 u i k e
      exact .inr ⟨rfl, e1, e2, new u k e2 e3⟩
    | some j =>
      rw [h1 u j k] at e
      exact .inl e
  refine ⟨fun u i e => ?_, fun u v i j e1 e2 => ?_, fun u v i e m => ?_, fun u v j e hu ev => ?_, fun i hi => ?_⟩
  · rcases old u i e with k | ⟨_, k1, k2, _⟩
    · exact ⟨Nat.lt_succ_of_lt (h.lt u i k).1, (h.lt u i k).2⟩
    · exact ⟨by omega, k2⟩
  · rcases old u i e1 with k | ⟨a1, a2, a3, a4⟩ <;> rcases old v j e2 with l | ⟨b1, b2, b3, b4⟩
    · exact h.eq u v i j k l
    · refine ⟨fun z => ?_, fun m => absurd b1 (h.mu u v i k m)⟩
      have := (h.lt u i k).1
      omega
    · refine ⟨fun z => ?_, fun m => absurd a1 (h.mu v u j l m.symm)⟩
      have := (h.lt v j l).1
      omega
    · exact ⟨fun _ => a4.trans b4.symm, fun _ => by rw [a2, b2]⟩
  · rcases old u i e with k | ⟨a1, a2, a3, a4⟩
    · intro z
      cases e' : H v with
      | none => exact h.mu u v i k m e'
      | some j => rw [h1 v j e'] at z; cases z
    · intro z
      have hv : v < g.length := ok.rc m.1 a3
      cases e' : H v with
      | none => rw [h3 v hv (m.2.trans a4.1) e'] at z; cases z
      | some j => rw [h1 v j e'] at z; cases z
  · rcases old v j ev with k | ⟨a1, a2, a3, a4⟩
    · obtain ⟨i, k1, k2⟩ := h.ed u v j e hu k
      exact ⟨i, h1 u i k1, k2⟩
    · cases k : H u with
      | none => exact ⟨c, h3 u hu (.step e a4.1) k, by omega⟩
      | some i => exact ⟨i, h1 u i k, by have := (h.lt u i k).1; omega⟩
  · rcases Nat.lt_or_ge i c with k | k
    · obtain ⟨u, e⟩ := h.us i k
      exact ⟨u, h1 u i e⟩
    · exact ⟨s, by rw [h3 s hsl (.refl s) hs]; congr 1; omega⟩
/-- finished: every node has a number -/
structure Comps (g : G) (h : List Nat) (c : Nat) : Prop where
  len : h.length = g.length
  lt : ∀ i ∈ h, i < c
  eq : ∀ u v i j, h[u]? = some i → h[v]? = some j → (i = j ↔ Mu g u v)
  ed : ∀ u v i j, E g u v → h[u]? = some i → h[v]? = some j → i ≤ j
  us : ∀ i, i < c → i ∈ h
/-- on a cycle -/
def Cyc (g : G) (u : Nat) : Prop := ∃ v, E g u v ∧ Rc g v u
theorem Rc.cases_step {g : G} {u v : Nat} (r : Rc g u v) : u = v ∨ ∃ w, E g u w ∧ Rc g w v := by
  cases r with
  | refl _ => exact .inl rfl
  | step e r => exact .inr ⟨_, e, r⟩
/-- a node's component has an inner edge exactly if the node lies on a cycle -/
theorem cyc_iff {g : G} {h : List Nat} {c : Nat} (ok : Ok g) (k : Comps g h c) {u i : Nat} (hu : h[u]? = some i) : Cyc g u ↔ ∃ a b, E g a b ∧ h[a]? = some i ∧ h[b]? = some i := by
  have hl : ∀ {x j : Nat}, h[x]? = some j → x < g.length := fun {x j} e => by
    rw [← k.len]
    rcases Nat.lt_or_ge x h.length with z | z
    · exact z
    · rw [List.getElem?_eq_none z] at e; cases e
  constructor
  · rintro ⟨v, e, r⟩
    have hv : v < h.length := by rw [k.len]; exact ok u v e
    refine ⟨u, v, e, hu, ?_⟩
    have e2 := List.getElem?_eq_getElem hv
    rw [e2]
    congr 1
    exact ((k.eq u v i _ hu e2).mpr ⟨.one e, r⟩).symm
  · rintro ⟨a, b, e, ha, hb⟩
    have m1 := (k.eq u a i i hu ha).mp rfl
    have m2 := (k.eq u b i i hu hb).mp rfl
    rcases m1.1.cases_step with rfl | ⟨w, e1, r1⟩
    · exact ⟨b, e, m2.2⟩
    · exact ⟨w, e1, r1.trans (.step e m2.2)⟩

/-! ### all edges turned round -/
def Rev (g t : G) : Prop := t.length = g.length ∧ ∀ u v, E t v u ↔ (E g u v ∧ u < g.length ∧ v < g.length)
/-! ### what can be reached -/
theorem rc_sets {g : G} {S : Nat → Prop} (cl : ∀ u v, S u → E g u v → S v) {u v : Nat} (r : Rc g u v) (hu : S u) : S v := by
  induction r with
  | refl _ => exact hu
  | step e _ ih => exact ih (cl _ _ hu e)
/-! ### counting -/
def wsum (w : Nat → Nat) (l : List Nat) : Nat := (l.map w).foldr (· + ·) 0
theorem wsum_cons (w : Nat → Nat) (x : Nat) (l : List Nat) : wsum w (x :: l) = w x + wsum w l := rfl
theorem wsum_append (w : Nat → Nat) (l m : List Nat) : wsum w (l ++ m) = wsum w l + wsum w m := by
  induction l with
  | nil => simp [wsum]
  | cons x l ih => rw [List.cons_append, wsum_cons, wsum_cons, ih]; omega
def below (w : Nat → Nat) : Nat → Nat
  | 0 => 0
  | n + 1 => below w n + w n
theorem wsum_erase (w : Nat → Nat) (x : Nat) : ∀ {l : List Nat}, x ∈ l → wsum w l = w x + wsum w (l.erase x)
  | [], h => by cases h
  | y :: l, h => by
    by_cases e : y = x
    · subst e
      rw [List.erase_cons_head]; rfl
    · rw [List.erase_cons_tail (by simpa using e), wsum_cons, wsum_cons]
      rcases List.mem_cons.mp h with k | k
      · exact absurd k.symm e
      · rw [wsum_erase w x k]; omega
theorem wsum_le (w : Nat → Nat) : ∀ (n : Nat) {l : List Nat}, l.Nodup → (∀ x ∈ l, x < n) → wsum w l ≤ below w n
  | 0, l, _, h => by
    cases l with
    | nil => exact Nat.le_refl 0
    | cons x l => exact absurd (h x List.mem_cons_self) (Nat.not_lt_zero x)
  | n + 1, l, nd, h => by
    by_cases k : n ∈ l
    · rw [wsum_erase w n k]
      have := wsum_le w n (l := l.erase n) (nd.erase n) fun x hx => by
        have h1 := h x (List.mem_of_mem_erase hx)
        have h2 : x ≠ n := fun z => by
          rw [z] at hx
          exact (List.Nodup.mem_erase_iff nd).mp hx |>.1 rfl
        omega
      show _ ≤ below w n + w n
      omega
    · have := wsum_le w n nd fun x hx => by
        have h1 := h x hx
        have h2 : x ≠ n := fun z => k (z ▸ hx)
        omega
      show _ ≤ below w n + w n
      omega
def steps (g : G) (ord : List Nat) (stk : List (Nat × Nat)) : Nat := wsum (fun u => (row g u).length + 1) ord + wsum (·) (stk.map (·.2))
theorem steps_lt {g : G} {ord : List Nat} {stk : List (Nat × Nat)} {x : Nat × Nat} (h : Dfs g ord (x :: stk)) : steps g ord (x :: stk) < below (fun u => (row g u).length + 1) g.length := by
  have h1 := wsum_le (fun u => (row g u).length + 1) g.length h.nd h.lt
  rw [wsum_append] at h1
  have h2 : ∀ l : List (Nat × Nat), (∀ y ∈ l, y.2 ≤ (row g y.1).length) → wsum (·) (l.map (·.2)) + l.length ≤ wsum (fun u => (row g u).length + 1) (l.map (·.1)) := by
    intro l
    induction l with
    | nil => intro _; exact Nat.le_refl 0
    | cons y l ih =>
      intro hl
      have a := hl y List.mem_cons_self
      have b := ih fun z hz => hl z (List.mem_cons_of_mem _ hz)
      simp only [List.map_cons, wsum_cons, List.length_cons]
      omega
  have h3 := h2 (x :: stk) fun y hy => (h.fo y hy).1
  simp only [List.length_cons] at h3
  unfold steps
  omega
theorem steps_pop {g : G} {ord : List Nat} {n : Nat} {stk : List (Nat × Nat)} : steps g (ord ++ [n]) stk = steps g ord ((n, (row g n).length) :: stk) + 1 := by
  unfold steps
  rw [wsum_append]
  simp only [List.map_cons, wsum_cons]
  show _ + ((row g n).length + 1 + 0) + _ = _
  omega
theorem steps_skip {g : G} {ord : List Nat} {n f : Nat} {stk : List (Nat × Nat)} : steps g ord ((n, f + 1) :: stk) = steps g ord ((n, f) :: stk) + 1 := by
  unfold steps
  simp only [List.map_cons, wsum_cons]
  omega
theorem steps_push {g : G} {ord : List Nat} {n : Nat} {stk : List (Nat × Nat)} : steps g ord ((n, 0) :: stk) = steps g ord stk := by
  unfold steps
  simp only [List.map_cons, wsum_cons]
  omega
end Gr
namespace Bx
open PySem PySem.Spec PyProof.Rows L2
abbrev VN (n : Nat) : V := .int (n : Int)
def Sq (K : PySem.W.Frag) (H : Hp) (a : Addr) (xs : List V) : Prop := SqL K H a xs ∨ SqT K H a xs
theorem sqL_same {K : PySem.W.Frag} {H H' : Hp} {a : Addr} {xs : List V} (s : Same H H') (h : SqL K H a xs) : SqL K H' a xs := by
  rcases h with h | h
  · exact .inl (by
      rcases h with h | ⟨o, h⟩
      · exact .inl (s _ _ h)
      · exact .inr ⟨o, s _ _ h⟩)
  · exact .inr h
theorem sqT_same {K : PySem.W.Frag} {H H' : Hp} {a : Addr} {xs : List V} (s : Same H H') (h : SqT K H a xs) : SqT K H' a xs := by
  rcases h with h | h
  · exact .inl (by
      rcases h with h | ⟨o, h⟩
      · exact .inl (s _ _ h)
      · exact .inr ⟨o, s _ _ h⟩)
  · exact .inr h
theorem Sq.same {K : PySem.W.Frag} {H H' : Hp} {a : Addr} {xs : List V} (s : Same H H') (h : Sq K H a xs) : Sq K H' a xs := by
  rcases h with h | h
  · exact .inl (sqL_same s h)
  · exact .inr (sqT_same s h)
theorem nw {H H1 : Hp} {p : Addr} {o : HO} (hp : H p = none) (e : upd H p o = H1) : Same H H1 ∧ H1 p = some o := e ▸ ⟨same_new hp, upd_same⟩
theorem mw {H0 H H1 : Hp} {p : Addr} {o : HO} (s : Same H0 H) (hp : H0 p = none) (e : upd H p o = H1) : Same H0 H1 ∧ H1 p = some o ∧ ∀ q, q ≠ p → H1 q = H q := e ▸ ⟨fun b x hb => by
  rw [upd_ne (ne_of_none hb hp)]
  exact s _ _ hb, upd_same, fun q hq => upd_ne hq⟩
theorem mwt {H H1 : Hp} {p : Addr} {o : HO} {l : List V} (h : H p = some (.lst l)) (e : upd H p o = H1) : ∀ b xs, H b = some (.tup xs) → H1 b = some (.tup xs) := e ▸ fun b xs hb => by
  rw [upd_ne (fun z => by rw [z, h] at hb; cases hb)]
  exact hb
theorem Same.fr {H H' : Hp} {p : Addr} (s : Same H H') (h : H' p = none) : H p = none := by
  cases e : H p with
  | none => rfl
  | some o => rw [s _ _ e] at h; cases h
/-- a graph, by rows of lists or tuples -/
def GrAt (K : PySem.W.Frag) (H : Hp) (r : Addr) (g : Gr.G) : Prop := ∃ as : List Addr, Sq K H r (as.map V.ref) ∧ as.length = g.length ∧ ∀ i a, as[i]? = some a → Sq K H a ((Gr.row g i).map VN)
theorem GrAt.same {K : PySem.W.Frag} {H H' : Hp} {r : Addr} {g : Gr.G} (s : Same H H') (h : GrAt K H r g) : GrAt K H' r g := by
  obtain ⟨as, h1, h2, h3⟩ := h
  exact ⟨as, h1.same s, h2, fun i a e => (h3 i a e).same s⟩
theorem iteB_t {c : Bool} {A B : Prop} (e : c = true) (h : A) : if c = true then A else B := by rw [if_pos e]; exact h
theorem iteB_f {c : Bool} {A B : Prop} (e : c = false) (h : B) : if c = true then A else B := by rw [if_neg (by rw [e]; exact Bool.false_ne_true)]; exact h
theorem snocg {α : Type} {xs : List α} {x y : α} {j : Nat} (h : (xs ++ [x])[j]? = some y) : (j < xs.length ∧ xs[j]? = some y) ∨ (j = xs.length ∧ y = x) := by
  rcases Nat.lt_or_ge j xs.length with c | c
  · rw [List.getElem?_append_left c] at h
    exact .inl ⟨c, h⟩
  · rw [List.getElem?_append_right c] at h
    have e : j - xs.length = 0 := by
      cases e : j - xs.length with
      | zero => rfl
      | succ n => rw [e] at h; cases h
    rw [e] at h
    exact .inr ⟨by omega, (Option.some.inj h).symm⟩
theorem nats_get {xs : List Nat} {j : Nat} {y : V} (h : (xs.map VN)[j]? = some y) : ∃ t, xs[j]? = some t ∧ y = VN t := by
  rw [List.getElem?_map] at h
  cases e : xs[j]? with
  | none => rw [e] at h; cases h
  | some t => rw [e] at h; exact ⟨t, rfl, (Option.some.inj h).symm⟩
theorem refsg {as : List Addr} {i : Nat} {v : V} (h : (as.map V.ref)[i]? = some v) : ∃ a, as[i]? = some a ∧ v = .ref a := by
  rw [List.getElem?_map] at h
  cases e : as[i]? with
  | none => rw [e] at h; cases h
  | some z => rw [e] at h; exact ⟨z, rfl, (Option.some.inj h).symm⟩
theorem mapg {α β : Type} {f : α → β} {xs : List α} {i : Nat} {y : β} (h : (xs.map f)[i]? = some y) : ∃ x, xs[i]? = some x ∧ y = f x := by
  rw [List.getElem?_map] at h
  cases e : xs[i]? with
  | none => rw [e] at h; cases h
  | some z => rw [e] at h; exact ⟨z, rfl, (Option.some.inj h).symm⟩
/-- an item by its number, as atI wants it -/
theorem atN {α : Type} {f : α → V} {xs : List α} {i : Nat} {x : α} (h : xs[i]? = some x) : atI (xs.map f) (i : Int) = some (f x) := atI_nat (by rw [List.getElem?_map, h]; rfl)
theorem lt_of_get {α : Type} {xs : List α} {i : Nat} {x : α} (h : xs[i]? = some x) : i < xs.length := (List.getElem?_eq_some_iff.mp h).1
theorem nd_inj {α : Type} {xs : List α} (h : xs.Nodup) {i j : Nat} {x : α} (h1 : xs[i]? = some x) (h2 : xs[j]? = some x) : i = j := (List.getElem?_inj (lt_of_get h1) h).mp (h1.trans h2.symm)
theorem for_sqB {K : PySem.W.Frag} {i : Nat} {a : Addr} {xs : List V} {g : TG} {tb : TS} {D : Ends} {σ : L2.St} {H0 H : Hp} (hv : σ[i]? = some (some (.ref a))) (hq : SeqV H0 a xs) (Pv : Nat → L2.St → Hp → Prop) (h0 : Pv 0 σ H) (hS : ∀ i σ' H', Pv i σ' H' → Same H0 H')
    (hs : ∀ i x σ H, xs[i]? = some x → Pv i σ H → g x σ H fun σ2 H2 => tb { D with nx := Pv (i + 1), ct := Pv (i + 1), bk := D.nx } σ2 H2) (hd : ∀ σ H, Pv xs.length σ H → D.nx σ H) : tFor (iSeq K (tVar i)) g tb D σ H := by
  rcases hq with h | h
  · exact .inl ⟨_, hv, a, rfl, ⟨_, .of (hS 0 σ H h0 _ _ h)⟩, for_list Pv h0 (fun i σ' H' _ p => .of (hS i σ' H' p _ _ h)) hs hd⟩
  · exact .inr ⟨_, hv, a, rfl, ⟨_, .of (hS 0 σ H h0 _ _ h)⟩, for_tup Pv h0 (fun i σ' H' _ p => .of (hS i σ' H' p _ _ h)) hs hd⟩
/-- a dict comprehension over anything walked -/
theorem dc_it {J : It} {n : Nat} {G : Hp → Prop} {Y : Nat → Hp → V → Hp → Prop} (w : Walk J n G Y) {g : TG} {tt : TT} {tk tv : TE} {vs : List Nat} {σ : L2.St} {H1 : Hp} {D : Addr} {Qd : Hp → Prop} (Pv : Nat → Hp → Prop) (h0 : Pv 0 (upd H1 D (.dK []))) (hG : ∀ i H, i ≤ n → Pv i H → G H)
    (hs : ∀ i x H H', i < n → Pv i H → Y i H x H' → g x (wipe σ vs) H' fun σ2 H2 => wipe σ2 vs = wipe σ vs ∧ tt σ2 H2 fun b H3 =>
      if b = true then tk σ2 H3 fun y H4 => tv σ2 H4 fun z H5 => ∃ kvs k, y = kV k ∧ H5 D = some (.dK kvs) ∧ kvs.length < sizeLine ∧ Pv (i + 1) (upd H5 D (.dK (putK kvs k z))) else Pv (i + 1) H3) (hd : ∀ H, Pv n H → Qd H) :
    ∃ W : Nat → Nat → Hp → Prop, (∃ m, W 0 m (upd H1 D (.dK []))) ∧ ∀ i m H, W i m H →
      (J.stop i H ∧ Qd H) ∨ (J.go i H ∧ ∃ Nx : Hp → Prop, (∀ H', Nx H' → ∃ m', m' < m ∧ W (i + 1) m' H') ∧ ∀ x H', J.yld i H x H' → g x (wipe σ vs) H' fun σ2 H2 => wipe σ2 vs = wipe σ vs ∧ tt σ2 H2 fun b H3 =>
        if b = true then tk σ2 H3 fun y H4 => tv σ2 H4 fun z H5 => ∃ kvs k, y = kV k ∧ H5 D = some (.dK kvs) ∧ kvs.length < sizeLine ∧ Nx (upd H5 D (.dK (putK kvs k z))) else Nx H3) := by
  refine ⟨fun i m H => m = n - i ∧ i ≤ n ∧ Pv i H, ⟨n, by simp, Nat.zero_le _, h0⟩, ?_⟩
  rintro i m H ⟨rfl, hi, p⟩
  have q := hG i H hi p
  by_cases hlt : i < n
  · refine .inr ⟨w.goes i H hlt q, Pv (i + 1), fun H' p' => ⟨n - (i + 1), by omega, rfl, hlt, p'⟩, fun x H' y => hs i x H H' hlt p (w.yields i H x H' hlt q y)⟩
  · have e : i = n := by omega
    subst e
    exact .inl ⟨w.stops H q, hd H p⟩
/-- the numbers of the nodes of a list, as a dict -/
def numK (us : List Nat) : List (L2.Key × V) := us.zipIdx.map fun p => (Sum.inl (p.1 : Int), VN p.2)
theorem numK_len (us : List Nat) : (numK us).length = us.length := by unfold numK; rw [List.length_map, List.length_zipIdx]
theorem numK_snoc (us : List Nat) (u : Nat) : numK (us ++ [u]) = numK us ++ [(Sum.inl (u : Int), VN us.length)] := by
  unfold numK
  rw [List.zipIdx_append, List.map_append]
  simp
theorem numK_put {us : List Nat} {u : Nat} (h : u ∉ us) : putK (numK us) (Sum.inl (u : Int)) (VN us.length) = numK (us ++ [u]) := by
  rw [numK_snoc]
  unfold putK
  rw [if_neg ?_]
  intro z
  rw [List.any_eq_true] at z
  obtain ⟨kv, hm, e⟩ := z
  have e := of_decide_eq_true e
  unfold numK at hm
  obtain ⟨p, hp, rfl⟩ := List.mem_map.mp hm
  have e2 : (p.1 : Int) = (u : Int) := Sum.inl.inj e
  have := List.mem_zipIdx' hp
  exact h (by have h3 : p.1 = u := by omega
              rw [← h3]
              exact this.2 ▸ List.getElem_mem _)
theorem numK_valF (z : Int) : ∀ (us : List Nat) (k : Nat), ((us.zipIdx k).map fun p => ((Sum.inl (p.1 : Int) : L2.Key), VN p.2)).find? (fun kv => decide (kv.1 = (Sum.inl z : L2.Key))) = if (z.toNat ∈ us ∧ 0 ≤ z) then some (Sum.inl z, VN (us.idxOf z.toNat + k)) else none
  | [], k => by simp
  | u :: us, k => by
    rw [List.zipIdx_cons, List.map_cons, List.find?_cons]
    by_cases e : (u : Int) = z
    · have hz : z.toNat = u := by omega
      rw [decide_eq_true (by show (Sum.inl (u : Int) : L2.Key) = Sum.inl z; rw [e]), if_pos ⟨by rw [hz]; exact List.mem_cons_self, by omega⟩, hz, List.idxOf_cons_self, Nat.zero_add]
      show some ((Sum.inl (u : Int) : L2.Key), VN k) = _
      rw [e]
    · rw [decide_eq_false (by intro h; exact e (Sum.inl.inj h)), numK_valF z us (k + 1)]
      by_cases h0 : 0 ≤ z
      · have hne : u ≠ z.toNat := by omega
        have hiff : (z.toNat ∈ u :: us ∧ 0 ≤ z) ↔ (z.toNat ∈ us ∧ 0 ≤ z) := by simp [hne.symm]
        simp only [hiff]
        split
        · have e2 : (u :: us).idxOf z.toNat + k = us.idxOf z.toNat + (k + 1) := by
            rw [List.idxOf_cons, show (u == z.toNat) = false by simpa using hne]
            show us.idxOf z.toNat + 1 + k = _
            omega
          rw [e2]
        · rfl
      · rw [if_neg (fun q => h0 q.2), if_neg (fun q => h0 q.2)]
theorem numK_val (us : List Nat) (z : Int) : valV (numK us) (Sum.inl z : L2.Key) = if (z.toNat ∈ us ∧ 0 ≤ z) then some (VN (us.idxOf z.toNat)) else none := by
  unfold valV numK
  have := numK_valF z us 0
  rw [show us.zipIdx = us.zipIdx 0 from rfl, this]
  split <;> rfl
end Bx
/-! What `lives` says: a node lives exactly if an infinite path from it visits good nodes again and again. -/
namespace Lv
section
variable (mv : Nat → List Int) (goods : Nat → Bool) (n : Nat)
def hit (kept reach : Nat → Bool) (ts : List Int) : Bool := ts.any fun t => kept t.toNat && (goods t.toNat || reach t.toNat)
def stp (kept : Nat → Bool) (k : Nat) (p : (Nat → Bool) × Bool) : (Nat → Bool) × Bool :=
  if (kept k && !p.1 k && hit goods kept p.1 (mv k)) = true then (fun t => if t = k then true else p.1 t, true) else p
def pas (kept : Nat → Bool) : Nat → (Nat → Bool) × Bool → (Nat → Bool) × Bool
  | 0, p => p
  | j + 1, p => stp mv goods kept (n - 1 - j) (pas kept j p)
def inn (kept : Nat → Bool) : Nat → (Nat → Bool) → Nat → Bool
  | 0, r => r
  | f + 1, r => if (pas mv goods n kept n (r, false)).2 = true then inn kept f (pas mv goods n kept n (r, false)).1 else (pas mv goods n kept n (r, false)).1
def eqB (r k : Nat → Bool) : Bool := decide (∀ t, t < n → r t = k t)
def out : Nat → (Nat → Bool) → Nat → Bool
  | 0, k => k
  | f + 1, k => if eqB n (inn mv goods n k (n + 1) fun _ => false) k = true then k else out f (inn mv goods n k (n + 1) fun _ => false)
def lives (ss : List Int) : Bool := ss.any fun s => out mv goods n (n + 1) (fun _ => true) s.toNat
end

/-! counting -/
def cnt (f : Nat → Bool) : Nat → Nat
  | 0 => 0
  | n + 1 => cnt f n + (if f n = true then 1 else 0)
theorem cnt_le (f : Nat → Bool) : ∀ n, cnt f n ≤ n
  | 0 => Nat.le_refl 0
  | n + 1 => by
    have := cnt_le f n
    unfold cnt
    split <;> omega
theorem cnt_mono {f g : Nat → Bool} : ∀ n, (∀ t, t < n → f t = true → g t = true) → cnt f n ≤ cnt g n
  | 0, _ => Nat.le_refl 0
  | n + 1, h => by
    have := cnt_mono n fun t ht => h t (by omega)
    unfold cnt
    by_cases a : f n = true
    · rw [if_pos a, if_pos (h n (by omega) a)]
      omega
    · rw [if_neg a]
      omega
theorem cnt_lt {f g : Nat → Bool} : ∀ n, (∀ t, t < n → f t = true → g t = true) → (∃ t, t < n ∧ g t = true ∧ f t = false) → cnt f n < cnt g n
  | 0, _, ⟨t, ht, _⟩ => absurd ht (Nat.not_lt_zero t)
  | n + 1, h, ⟨t, ht, gt, ft⟩ => by
    unfold cnt
    rcases Nat.lt_or_ge t n with y | y
    · have := cnt_lt n (fun t ht => h t (by omega)) ⟨t, y, gt, ft⟩
      by_cases a : f n = true
      · rw [if_pos a, if_pos (h n (by omega) a)]
        omega
      · rw [if_neg a]
        omega
    · have e : t = n := by omega
      subst e
      have := cnt_mono t fun s hs => h s (by omega)
      rw [gt, ft, if_pos rfl, if_neg (by decide)]
      omega
theorem cnt_all (n : Nat) : cnt (fun _ => true) n = n := by
  induction n with
  | zero => rfl
  | succ n ih =>
    unfold cnt
    rw [ih, if_pos rfl]
section
variable {mv : Nat → List Int} {goods : Nat → Bool} {n : Nat}
theorem hit_iff {kept reach : Nat → Bool} {ts : List Int} : hit goods kept reach ts = true ↔ ∃ t ∈ ts, kept t.toNat = true ∧ (goods t.toNat = true ∨ reach t.toNat = true) := by
  unfold hit
  rw [List.any_eq_true]
  constructor
  · rintro ⟨t, ht, h⟩
    rw [Bool.and_eq_true_iff, Bool.or_eq_true_iff] at h
    exact ⟨t, ht, h⟩
  · rintro ⟨t, ht, h⟩
    refine ⟨t, ht, ?_⟩
    rw [Bool.and_eq_true_iff, Bool.or_eq_true_iff]
    exact h
/-- the condition under which a step fires -/
def Fire (mv : Nat → List Int) (goods kept reach : Nat → Bool) (k : Nat) : Prop := kept k = true ∧ reach k = false ∧ hit goods kept reach (mv k) = true
theorem stp_cases (kept : Nat → Bool) (k : Nat) (p : (Nat → Bool) × Bool) : (Fire mv goods kept p.1 k ∧ stp mv goods kept k p = (fun t => if t = k then true else p.1 t, true)) ∨ (¬ Fire mv goods kept p.1 k ∧ stp mv goods kept k p = p) := by
  unfold stp Fire
  by_cases c : (kept k && !p.1 k && hit goods kept p.1 (mv k)) = true
  · left
    rw [if_pos c]
    simp only [Bool.and_eq_true, Bool.not_eq_true'] at c
    exact ⟨⟨c.1.1, c.1.2, c.2⟩, rfl⟩
  · right
    rw [if_neg c]
    refine ⟨fun ⟨a, b, d⟩ => c ?_, rfl⟩
    rw [a, b, d]
    rfl
theorem pas_mono (kept : Nat → Bool) (p : (Nat → Bool) × Bool) : ∀ j t, p.1 t = true → (pas mv goods n kept j p).1 t = true
  | 0, _, h => h
  | j + 1, t, h => by
    have ih := pas_mono kept p j t h
    unfold pas
    rcases stp_cases (mv := mv) (goods := goods) kept (n - 1 - j) (pas mv goods n kept j p) with ⟨_, e⟩ | ⟨_, e⟩
    · rw [e]
      show (if t = n - 1 - j then true else _) = true
      split
      · rfl
      · exact ih
    · rw [e]
      exact ih
theorem pas_quiet (kept : Nat → Bool) (p : (Nat → Bool) × Bool) : ∀ j, (pas mv goods n kept j p).2 = false → pas mv goods n kept j p = p ∧ ∀ i, i < j → ¬ Fire mv goods kept p.1 (n - 1 - i)
  | 0, _ => ⟨rfl, fun i h => absurd h (Nat.not_lt_zero i)⟩
  | j + 1, h => by
    unfold pas at h ⊢
    rcases stp_cases (mv := mv) (goods := goods) kept (n - 1 - j) (pas mv goods n kept j p) with ⟨_, e⟩ | ⟨nf, e⟩
    · rw [e] at h
      cases h
    · rw [e] at h ⊢
      obtain ⟨h1, h2⟩ := pas_quiet kept p j h
      refine ⟨h1, fun i hi => ?_⟩
      rcases Nat.lt_or_ge i j with y | y
      · exact h2 i y
      · have : i = j := by omega
        rw [this, ← h1]
        exact nf
theorem pas_grow (kept r : Nat → Bool) : ∀ j, j ≤ n → (pas mv goods n kept j (r, false)).2 = true → ∃ t, t < n ∧ (pas mv goods n kept j (r, false)).1 t = true ∧ r t = false
  | 0, _, h => by cases h
  | j + 1, hj, h => by
    unfold pas at h ⊢
    rcases stp_cases (mv := mv) (goods := goods) kept (n - 1 - j) (pas mv goods n kept j (r, false)) with ⟨f, e⟩ | ⟨nf, e⟩
    · rw [e]
      refine ⟨n - 1 - j, by omega, if_pos rfl, ?_⟩
      cases hr : r (n - 1 - j) with
      | false => rfl
      | true =>
        have := pas_mono (mv := mv) (goods := goods) (n := n) kept (r, false) j (n - 1 - j) hr
        rw [f.2.1] at this
        cases this
    · rw [e] at h ⊢
      exact pas_grow kept r j (by omega) h
/-- from k a good kept node can be reached through kept nodes, in m + 1 steps -/
def Rch (mv : Nat → List Int) (goods kept : Nat → Bool) : Nat → Nat → Prop
  | 0, k => ∃ t ∈ mv k, kept t.toNat = true ∧ goods t.toNat = true
  | m + 1, k => ∃ t ∈ mv k, kept t.toNat = true ∧ Rch mv goods kept m t.toNat
def Snd (mv : Nat → List Int) (goods kept : Nat → Bool) (r : Nat → Bool) : Prop := ∀ t, r t = true → kept t = true ∧ ∃ m, Rch mv goods kept m t
theorem stp_snd {kept : Nat → Bool} {k : Nat} {p : (Nat → Bool) × Bool} (h : Snd mv goods kept p.1) : Snd mv goods kept (stp mv goods kept k p).1 := by
  rcases stp_cases (mv := mv) (goods := goods) kept k p with ⟨f, e⟩ | ⟨_, e⟩
  · rw [e]
    intro t ht
    have ht : (if t = k then true else p.1 t) = true := ht
    by_cases y : t = k
    · subst y
      refine ⟨f.1, ?_⟩
      obtain ⟨t', h1, h2, h3⟩ := hit_iff.mp f.2.2
      rcases h3 with g | g
      · exact ⟨0, t', h1, h2, g⟩
      · obtain ⟨_, m, hm⟩ := h _ g
        exact ⟨m + 1, t', h1, h2, hm⟩
    · rw [if_neg y] at ht
      exact h t ht
  · rw [e]
    exact h
theorem pas_snd {kept : Nat → Bool} {p : (Nat → Bool) × Bool} (h : Snd mv goods kept p.1) : ∀ j, Snd mv goods kept (pas mv goods n kept j p).1
  | 0 => h
  | j + 1 => stp_snd (pas_snd h j)
def Clo (mv : Nat → List Int) (goods kept : Nat → Bool) (n : Nat) (r : Nat → Bool) : Prop := ∀ k, k < n → kept k = true → hit goods kept r (mv k) = true → r k = true
theorem inn_snd {kept : Nat → Bool} : ∀ f r, Snd mv goods kept r → Snd mv goods kept (inn mv goods n kept f r)
  | 0, r, h => h
  | f + 1, r, h => by
    unfold inn
    have h1 := pas_snd (n := n) (p := (r, false)) h n
    split
    · exact inn_snd f _ h1
    · exact h1
theorem inn_clo {kept : Nat → Bool} : ∀ f r, n < cnt r n + f → Clo mv goods kept n (inn mv goods n kept f r)
  | 0, r, h => by have := cnt_le r n; omega
  | f + 1, r, h => by
    unfold inn
    split
    · rename_i c
      refine inn_clo f _ ?_
      have := cnt_lt n (f := r) (g := (pas mv goods n kept n (r, false)).1) (fun t _ ht => pas_mono kept (r, false) n t ht) (pas_grow kept r n (Nat.le_refl n) c)
      omega
    · rename_i c
      obtain ⟨h1, h2⟩ := pas_quiet (mv := mv) (goods := goods) (n := n) kept (r, false) n (Bool.eq_false_iff.mpr c)
      rw [h1]
      intro k hk hkk hh
      cases hr : r k with
      | true => exact hr
      | false =>
        have := h2 (n - 1 - k) (by omega)
        rw [show n - 1 - (n - 1 - k) = k by omega] at this
        exact absurd ⟨hkk, hr, hh⟩ this
theorem out_fix : ∀ f k, cnt k n < f → ∀ t, t < n → inn mv goods n (out mv goods n f k) (n + 1) (fun _ => false) t = out mv goods n f k t
  | 0, k, h => absurd h (Nat.not_lt_zero _)
  | f + 1, k, h => by
    unfold out
    split
    · rename_i c
      intro t ht
      exact of_decide_eq_true c t ht
    · rename_i c
      refine out_fix f _ ?_
      have hs := inn_snd (mv := mv) (goods := goods) (n := n) (kept := k) (n + 1) (fun _ => false) (fun t ht => by cases ht)
      have := cnt_lt n (f := inn mv goods n k (n + 1) fun _ => false) (g := k) (fun t _ ht => (hs t ht).1) ?_
      · omega
      · refine Classical.byContradiction fun hno => c (decide_eq_true fun t ht => ?_)
        cases ha : inn mv goods n k (n + 1) (fun _ => false) t with
        | true => exact (hs t ha).1.symm
        | false =>
          cases hb : k t with
          | false => rfl
          | true => exact absurd ⟨t, ht, hb, ha⟩ hno
/-- an infinite path that visits good nodes again and again -/
def Path (mv : Nat → List Int) (goods : Nat → Bool) (s : Nat) : Prop := ∃ π : Nat → Nat, π 0 = s ∧ (∀ i, ((π (i + 1) : Nat) : Int) ∈ mv (π i)) ∧ ∀ i, ∃ j, i < j ∧ goods (π j) = true
/-- all targets are nodes -/
def Bnd (mv : Nat → List Int) (n : Nat) : Prop := ∀ k, k < n → ∀ t ∈ mv k, 0 ≤ t ∧ t < (n : Int)
theorem path_of {K : Nat → Bool} (hb : Bnd mv n) (hK : ∀ k, k < n → K k = true → ∃ m, Rch mv goods K m k) {s : Nat} (hs : s < n) (ks : K s = true) : Path mv goods s := by
  have next : ∀ p : {p : Nat × Nat // p.1 < n ∧ K p.1 = true ∧ Rch mv goods K p.2 p.1}, ∃ q : {p : Nat × Nat // p.1 < n ∧ K p.1 = true ∧ Rch mv goods K p.2 p.1}, ((q.1.1 : Nat) : Int) ∈ mv p.1.1 ∧ (p.1.2 = 0 → goods q.1.1 = true) ∧ ∀ m, p.1.2 = m + 1 → q.1.2 = m := by
    rintro ⟨⟨k, m⟩, hk, hkk, hr⟩
    cases m with
    | zero =>
      obtain ⟨t, ht, kt, gt⟩ := hr
      obtain ⟨t0, t1⟩ := hb k hk t ht
      obtain ⟨m', hm'⟩ := hK t.toNat (by omega) kt
      refine ⟨⟨⟨t.toNat, m'⟩, by show t.toNat < n; omega, kt, hm'⟩, ?_, fun _ => gt, fun m h => by cases h⟩
      show ((t.toNat : Nat) : Int) ∈ mv k
      rw [show ((t.toNat : Nat) : Int) = t by omega]
      exact ht
    | succ m =>
      obtain ⟨t, ht, kt, rt⟩ := hr
      obtain ⟨t0, t1⟩ := hb k hk t ht
      refine ⟨⟨⟨t.toNat, m⟩, by show t.toNat < n; omega, kt, rt⟩, ?_, (fun h => by cases h), fun m' h => (Nat.succ.inj h : m = m')⟩
      show ((t.toNat : Nat) : Int) ∈ mv k
      rw [show ((t.toNat : Nat) : Int) = t by omega]
      exact ht
  obtain ⟨m, hm⟩ := hK s hs ks
  let σ : Nat → {p : Nat × Nat // p.1 < n ∧ K p.1 = true ∧ Rch mv goods K p.2 p.1} := fun i => Nat.rec ⟨⟨s, m⟩, hs, ks, hm⟩ (fun _ p => Classical.choose (next p)) i
  have hσ : ∀ i, ((((σ (i + 1)).1.1 : Nat) : Int) ∈ mv (σ i).1.1) ∧ ((σ i).1.2 = 0 → goods (σ (i + 1)).1.1 = true) ∧ ∀ m, (σ i).1.2 = m + 1 → (σ (i + 1)).1.2 = m := fun i => Classical.choose_spec (next (σ i))
  refine ⟨fun i => (σ i).1.1, rfl, fun i => (hσ i).1, fun i => ?_⟩
  have key : ∀ m i, (σ i).1.2 = m → ∃ j, i < j ∧ goods (σ j).1.1 = true := by
    intro m
    induction m with
    | zero => exact fun i h => ⟨i + 1, by omega, (hσ i).2.1 h⟩
    | succ m ih =>
      intro i h
      obtain ⟨j, hj, hg⟩ := ih (i + 1) ((hσ i).2.2 m h)
      exact ⟨j, by omega, hg⟩
  exact key _ i rfl
theorem path_lt (hb : Bnd mv n) {π : Nat → Nat} (h0 : π 0 < n) (hπ : ∀ i, ((π (i + 1) : Nat) : Int) ∈ mv (π i)) : ∀ i, π i < n
  | 0 => h0
  | i + 1 => by
    have := hb (π i) (path_lt hb h0 hπ i) _ (hπ i)
    omega
theorem out_path (hb : Bnd mv n) {π : Nat → Nat} (h0 : π 0 < n) (hπ : ∀ i, ((π (i + 1) : Nat) : Int) ∈ mv (π i)) (hg : ∀ i, ∃ j, i < j ∧ goods (π j) = true) : ∀ f k, (∀ i, k (π i) = true) → ∀ i, out mv goods n f k (π i) = true
  | 0, k, h => h
  | f + 1, k, h => by
    unfold out
    split
    · exact h
    · refine out_path hb h0 hπ hg f _ fun i => ?_
      have hc := inn_clo (mv := mv) (goods := goods) (n := n) (kept := k) (n + 1) (fun _ => false) (by omega)
      have hlt := path_lt hb h0 hπ
      have key : ∀ d i, goods (π (i + d + 1)) = true → inn mv goods n k (n + 1) (fun _ => false) (π i) = true := by
        intro d
        induction d with
        | zero =>
          intro i hgi
          refine hc (π i) (hlt i) (h i) (hit_iff.mpr ⟨_, hπ i, ?_, .inl ?_⟩)
          · rw [Int.toNat_natCast]; exact h _
          · rw [Int.toNat_natCast]; exact hgi
        | succ d ih =>
          intro i hgi
          refine hc (π i) (hlt i) (h i) (hit_iff.mpr ⟨_, hπ i, ?_, .inr ?_⟩)
          · rw [Int.toNat_natCast]; exact h _
          · rw [Int.toNat_natCast]
            exact ih (i + 1) (by rw [show i + 1 + d + 1 = i + (d + 1) + 1 by omega]; exact hgi)
      obtain ⟨j, hj, hgj⟩ := hg i
      exact key (j - i - 1) i (by rw [show i + (j - i - 1) + 1 = j by omega]; exact hgj)
/-- `lives` is true exactly if an infinite path from one of the starts visits good nodes again and again -/
theorem lives_iff (hb : Bnd mv n) {ss : List Int} (hs : ∀ s ∈ ss, 0 ≤ s ∧ s < (n : Int)) : lives mv goods n ss = true ↔ ∃ s ∈ ss, Path mv goods s.toNat := by
  unfold lives
  rw [List.any_eq_true]
  constructor
  · rintro ⟨s, h1, h2⟩
    have hr := hs s h1
    have hf := out_fix (mv := mv) (goods := goods) (n := n) (n + 1) (fun _ => true) (by rw [cnt_all]; omega)
    refine ⟨s, h1, path_of (K := out mv goods n (n + 1) fun _ => true) hb (fun k hk hkk => ?_) (by omega) h2⟩
    rw [← hf k hk] at hkk
    exact (inn_snd (mv := mv) (goods := goods) (n := n) (n + 1) (fun _ => false) (fun t ht => by cases ht) k hkk).2
  · rintro ⟨s, h1, π, p0, p1, p2⟩
    have hr := hs s h1
    refine ⟨s, h1, ?_⟩
    have := out_path hb (π := π) (by rw [p0]; omega) p1 p2 (n + 1) (fun _ => true) (fun _ => rfl) 0
    rw [p0] at this
    exact this
end
end Lv
namespace Lv
open Gr
theorem nd_le {l : List Nat} {n : Nat} (nd : l.Nodup) (lt : ∀ x ∈ l, x < n) : l.length ≤ n := by
  have h := wsum_le (fun _ => 1) n nd lt
  have h1 : ∀ l : List Nat, wsum (fun _ => 1) l = l.length := by
    intro l
    induction l with
    | nil => rfl
    | cons x l ih => rw [wsum_cons, ih, List.length_cons]; omega
  have h2 : ∀ n, below (fun _ => 1) n = n := by
    intro n
    induction n with
    | zero => rfl
    | succ n ih => show below _ n + 1 = _; rw [ih]
  rw [h1, h2] at h
  exact h
theorem pigeon {n : Nat} {f : Nat → Nat} (h : ∀ k, k ≤ n → f k < n) : ∃ i j, i < j ∧ j ≤ n ∧ f i = f j := by
  refine Classical.byContradiction fun hno => ?_
  have nd : ((List.range (n + 1)).map f).Nodup := by
    rw [List.nodup_iff_pairwise_ne, List.pairwise_map]
    refine List.Pairwise.imp_of_mem (R := (· < ·)) (fun {a b} ha hb hab e => hno ⟨a, b, hab, ?_, e⟩) List.pairwise_lt_range
    have := List.mem_range.mp hb
    omega
  have := nd_le nd fun x hx => by
    obtain ⟨k, hk, rfl⟩ := List.mem_map.mp hx
    exact h k (by have := List.mem_range.mp hk; omega)
  rw [List.length_map, List.length_range] at this
  omega
theorem rc_path {g : G} {π : Nat → Nat} (hπ : ∀ i, E g (π i) (π (i + 1))) (i : Nat) : ∀ d, Rc g (π i) (π (i + d))
  | 0 => .refl _
  | d + 1 => (rc_path hπ i d).snoc (hπ (i + d))
theorem path_cyc {g : G} {goods : Nat → Bool} {n : Nat} {π : Nat → Nat} (hlt : ∀ i, π i < n) (hπ : ∀ i, E g (π i) (π (i + 1))) (hg : ∀ i, ∃ j, i < j ∧ goods (π j) = true) : ∃ a, goods a = true ∧ Rc g (π 0) a ∧ Cyc g a := by
  let t : Nat → Nat := fun k => Nat.rec (Classical.choose (hg 0)) (fun _ p => Classical.choose (hg p)) k
  have ht : ∀ k, t k < t (k + 1) ∧ goods (π (t (k + 1))) = true := fun k => Classical.choose_spec (hg (t k))
  have hmono : ∀ i d, t i < t (i + d + 1) := by
    intro i d
    induction d with
    | zero => exact (ht i).1
    | succ d ih => exact Nat.lt_trans ih (ht (i + d + 1)).1
  obtain ⟨i, j, hij, _, e⟩ := pigeon (n := n) (f := fun k => π (t (k + 1))) fun k _ => hlt _
  have h1 : t (i + 1) < t (j + 1) := by
    have := hmono (i + 1) (j - i - 1)
    rwa [show i + 1 + (j - i - 1) + 1 = j + 1 by omega] at this
  refine ⟨π (t (i + 1)), (ht i).2, ?_, π (t (i + 1) + 1), hπ _, ?_⟩
  · have := rc_path hπ 0 (t (i + 1))
    rwa [Nat.zero_add] at this
  · have h2 := rc_path hπ (t (i + 1) + 1) (t (j + 1) - (t (i + 1) + 1))
    rw [show t (i + 1) + 1 + (t (j + 1) - (t (i + 1) + 1)) = t (j + 1) by omega] at h2
    have e : π (t (i + 1)) = π (t (j + 1)) := e
    rw [e]
    rw [← e] at h2 ⊢
    exact h2
theorem cyc_path {g : G} {mv : Nat → List Int} {goods : Nat → Bool} {n : Nat} (hE : ∀ u v, u < n → (E g u v ↔ (v : Int) ∈ mv u)) (hb : Bnd mv n) {s a : Nat} (hs : s < n) (ha : goods a = true) (r : Rc g s a) (hc : Cyc g a) : Path mv goods s := by
  have ok : ∀ u v, u < n → E g u v → v < n := fun u v hu e => by
    have := hb u hu _ ((hE u v hu).mp e)
    omega
  have step : ∀ v b, Rc g v b → b = a → ∀ u, u < n → E g u v → ∃ m, Rch mv goods (fun u => @decide (Rc g u a) (Classical.propDecidable _)) m u := by
    intro v b r
    induction r with
    | refl v =>
      rintro rfl u hu e
      refine ⟨0, (v : Int), (hE u v hu).mp e, ?_, ?_⟩
      · rw [Int.toNat_natCast]; exact @decide_eq_true _ (Classical.propDecidable _) (Rc.refl v)
      · rw [Int.toNat_natCast]; exact ha
    | @step v w b e2 r5 ih =>
      rintro rfl u hu e
      obtain ⟨m, hm⟩ := ih rfl v (ok u v hu e) e2
      refine ⟨m + 1, (v : Int), (hE u v hu).mp e, ?_, ?_⟩
      · rw [Int.toNat_natCast]; exact @decide_eq_true _ (Classical.propDecidable _) (Rc.step e2 r5)
      · rw [Int.toNat_natCast]; exact hm
  refine path_of (K := fun u => @decide (Rc g u a) (Classical.propDecidable _)) hb (fun k hk hkk => ?_) hs (@decide_eq_true _ (Classical.propDecidable _) r)
  have rk := @of_decide_eq_true _ (Classical.propDecidable _) hkk
  rcases rk.cases_step with rfl | ⟨w, e, r2⟩
  · obtain ⟨v, e, r2⟩ := hc
    exact step v _ r2 rfl _ hk e
  · exact step w _ r2 rfl _ hk e
theorem lives_cyc {g : G} {mv : Nat → List Int} {goods : Nat → Bool} {n : Nat} (hE : ∀ u v, u < n → (E g u v ↔ (v : Int) ∈ mv u)) (hb : Bnd mv n) {ss : List Int} (hs : ∀ s ∈ ss, 0 ≤ s ∧ s < (n : Int)) : lives mv goods n ss = true ↔ ∃ s ∈ ss, ∃ a, goods a = true ∧ Rc g s.toNat a ∧ Cyc g a := by
  rw [lives_iff hb hs]
  constructor
  · rintro ⟨s, h1, π, p0, p1, p2⟩
    have hr := hs s h1
    have hlt := path_lt hb (π := π) (by rw [p0]; omega) p1
    obtain ⟨a, h2, h3, h4⟩ := path_cyc (g := g) hlt (fun i => (hE _ _ (hlt i)).mpr (p1 i)) p2
    rw [p0] at h3
    exact ⟨s, h1, a, h2, h3, h4⟩
  · rintro ⟨s, h1, a, h2, h3, h4⟩
    have hr := hs s h1
    exact ⟨s, h1, cyc_path hE hb (by omega) h2 h3 h4⟩
end Lv
/-! own rule: enumerate of a tuple -/
namespace Bx
open PySem PySem.Spec PyProof.Rows L2
open AutoSeq1 (wpAny_loadPart')
theorem meets_enumerate_newT (l : Addr) (items : Array Value) (n : Nat) (dct : Option Addr) (sl : Array (Option Value)) :
    Meets (Builtin.«enumerate.__new__» ⟨[.type "enumerate", .ref l], []⟩) (fun _ R s => s.heap.get? l = some { cls := .type "tuple", dict := dct, data := .seq items n, slots := sl } ∧
      R (.ok (.ret (.ref (s.heap.push { cls := .type "tuple_iterator", data := .fields #[.ref l, .int 0 0] }).objs.size)))
        { s with heap := (s.heap.push { cls := .type "tuple_iterator", data := .fields #[.ref l, .int 0 0] }).push { cls := .type "enumerate", data := .fields #[.none, .bool false, .ref s.heap.objs.size, rawInt 0, .none, .none] } }) :=
  .of_wp fun prog w A R s h => by
    obtain ⟨hp, g, d, tk, os⟩ := s; obtain ⟨hl, h⟩ := h
    have hsub := sub_enumerate
    have hL : Heap.IsTuple (Shared.heap ⟨hp, g, d, tk, os⟩) l items := ⟨_, hl, rfl, n, rfl⟩
    wp_walk using wpAny_loadPart' hl
    refine wpAny_stack_any fun st => wpAny_pure ?_
    split
    · rename_i c _ _ _ _ _
      cases (c == Value.type "enumerate")
      · wp_walk using wpAny_loadPart' hl, wpAny_pyIter_tuple hL
        exact ⟨_, rfl, h⟩
      · wp_walk using wpAny_loadPart' hl, wpAny_pyIter_tuple hL
        exact ⟨_, rfl, h⟩
    · wp_walk using wpAny_loadPart' hl, wpAny_pyIter_tuple hL
      exact ⟨_, rfl, h⟩
theorem call_enumerate_tuple {prog : Program} {w : World} {A : Around} {E : Value → Shared → Prop} {s : Shared} {l : Addr} {items : Array Value} {Q : Value → Shared → Prop} (hL : s.heap.IsTuple l items)
    (h : ∀ h', IsEnum h' (s.heap.objs.size + 1) s.heap.objs.size 0 .none → h'.IsTupleIter s.heap.objs.size l 0 → h'.objs.size = s.heap.objs.size + 2 →
      (∀ b o, s.heap.get? b = some o → h'.get? b = some o) → Q (.ref (s.heap.objs.size + 1)) { s with heap := h' }) :
    wpAny (model prog w) A (call (.type "enumerate") [.ref l]) Q E s := by
  obtain ⟨⟨c, dct, dt, sl⟩, hl, hc, n, hd⟩ := hL
  replace hc : c = .type "tuple" := hc
  replace hd : dt = .seq items n := hd
  subst hc hd
  refine callType_new F.called_enumerate (by decide) (F.typeCall_enumerate_1 _) (F.newCall_enumerate_1 _) (fun obj => F.args_object_init_2 obj _) F.entry_enumerate_new
    (meets_enumerate_newT l items n dct sl) ⟨hl, ?_⟩
  have hz : (s.heap.push { cls := .type "tuple_iterator", data := .fields #[.ref l, .int 0 0] }).objs.size = s.heap.objs.size + 1 := Heap.size_push ..
  show _ ∧ _
  rw [hz]
  have he : IsEnum ((s.heap.push { cls := .type "tuple_iterator", data := .fields #[.ref l, .int 0 0] }).push
      { cls := .type "enumerate", data := .fields #[.none, .bool false, .ref s.heap.objs.size, rawInt 0, .none, .none] }) (s.heap.objs.size + 1) s.heap.objs.size 0 .none := by
    have := Heap.get?_push_size (s.heap.push { cls := .type "tuple_iterator", data := .fields #[.ref l, .int 0 0] })
      (o := { cls := .type "enumerate", data := .fields #[.none, .bool false, .ref s.heap.objs.size, rawInt 0, .none, .none] }) rfl
    rw [hz] at this; exact this
  refine ⟨⟨_, he, rfl⟩, h _ he ⟨_, Heap.get?_push_of_some _ (Heap.get?_push_size _ rfl), rfl, rfl⟩ (by rw [Heap.size_push, hz]) fun b o x => Heap.get?_push_of_some _ (Heap.get?_push_of_some _ x)⟩
/-- the tuple at a, each item in a new pair -/
def IteT (K : PySem.W.Frag) (a : Addr) : It :=
  ⟨fun i H => ∃ (xs : List V) (x : V), SqT K H a xs ∧ xs[i]? = some x, fun i H v H' => ∃ T x, v = .ref T ∧ H T = none ∧ H' = upd H T (.tup [.int (i : Nat), x]) ∧ ∀ xs, SqT K H a xs → xs[i]? = some x, fun i H => ∃ xs : List V, SqT K H a xs ∧ xs.length ≤ i⟩
theorem turn_enumT {P : Program} {w : World} {K : PySem.W.Frag} {elts : List Expr} {kk : Nat} {tpos : Pos} (a e it : Addr) :
    Turn P w K (.Tuple elts kk tpos) (IteT K a) [e, it] e (fun i h => (∃ old, IsEnum h e it ((i : Nat) : Int) old) ∧ h.IsTupleIter it a i ∧ e ≠ it) where
  mem := by simp
  obj := fun i h st b hb => by
    obtain ⟨⟨old, he⟩, ⟨o, ho, hc, hd⟩, _⟩ := st
    have e' : b = e ∨ b = it := by simpa using hb
    rcases e' with z | z
    · rw [z]; exact ⟨_, he, fun v q => nomatch q⟩
    · rw [z]; exact ⟨o, ho, fun v q => by rw [hd] at q; cases q⟩
  keep := fun i h h' st k => let ⟨⟨old, he⟩, hi, hne⟩ := st; ⟨⟨old, k e (by simp) _ he⟩, hi.at fun o q => k it (by simp) o q, hne⟩
  item := by
    intro X hP hw hK hc i pins s σ H E I hf st hg
    subst hP hw hK
    obtain ⟨⟨old, he⟩, hit, hne⟩ := st
    obtain ⟨xs, x, hq, hx⟩ := hg
    obtain ⟨its, rv, p, hz⟩ := I.tuple hq
    obtain ⟨u, hu, ru⟩ := rv.get hx
    have hel : e < s.heap.objs.size := Heap.lt_size he
    have hil : it < s.heap.objs.size := by obtain ⟨_, q, _⟩ := hit; exact Heap.lt_size q
    obtain ⟨oa, hoa, hca, na, hda⟩ := id p
    have hai : a ≠ it := fun z => by
      obtain ⟨o, ho, hc', hd'⟩ := hit
      rw [← z, hoa] at ho
      cases ho
      rw [hda] at hd'
      cases hd'
    have hae : e ≠ a := fun z => by
      have he' := he
      unfold IsEnum at he'
      rw [z, hoa] at he'
      cases he'
      cases hda
    have hii : i < its.toArray.size := by
      rcases Nat.lt_or_ge i its.toArray.size with y | y
      · exact y
      · rw [List.getElem?_eq_none (by simpa using y)] at hu
        cases hu
    have hh1 : X.A.in1.handled = none := by simp [I.ok.hd hc]
    refine wpAny_pyNext_enum_itemD (Draws.tuple (prog := X.prog) (w := X.w) hh1 it a hai its.toArray) he ⟨hit, p⟩ hii hne (by simp only [List.mem_cons, List.not_mem_nil, or_false, not_or]; exact ⟨hne, hae⟩) fun v h' tk hv ho hit' hT hsz hk => ?_
    have ev : v = u := by
      have : its[i]? = some v := by simpa using hv
      rw [hu] at this
      exact (Option.some.inj this).symm
    subst ev
    refine ⟨_, rfl, wpAny_letOwnedTupleGo_enum (s := { s with heap := h', toks := tk + 1 }) ho fun h'' he' sb => ?_⟩
    have hT2 : h''.get? s.heap.objs.size = some { cls := .type "tuple", data := .seq #[.int i tk, v] } := (sb.2 _ (Nat.ne_of_gt hel)).trans hT
    have new : ObjOk X.prog X.w (upd H s.heap.objs.size (.tup [.int (i : Nat), x])) h'' s.heap.objs.size (.tup [.int (i : Nat), x]) :=
      ⟨by show 2 ≤ sizeLine; decide, [.int i tk, v], .cons ⟨_, rfl⟩ (.cons ru .nil), ⟨_, hT2, rfl, _, rfl⟩⟩
    have I1 : Inv X pins σ (upd H s.heap.objs.size (.tup [.int (i : Nat), x])) { s with heap := h'', toks := tk + 1 } :=
      I.turnedNew (ch := [e, it]) (fun b ob hb q => (sb.2 b (fun z => hb (by simp [z]))).trans (hk b ob (fun z => hb (by simp [z])) (fun z => hb (by simp [z])) q)) hf (Nat.le_refl _) new
    refine ⟨.ref s.heap.objs.size, _, I1, rfl, ⟨_, x, rfl, I.hok.fresh (Nat.le_refl _), rfl, fun ys hy => by rw [I.tuple_inj hy hq]; exact hx⟩, ⟨⟨v, ?_⟩, hit'.1.at fun o q => (sb.2 it (Ne.symm hne)).trans q, hne⟩, fun b hb => ?_⟩
    · have e1 : ((i + 1 : Nat) : Int) = (i : Int) + 1 := by omega
      rw [e1]; exact he'
    · have hb' : b < s.heap.objs.size := by
        have e' : b = e ∨ b = it := by simpa using hb
        rcases e' with z | z
        · rw [z]; exact hel
        · rw [z]; exact hil
      rw [upd_ne (Nat.ne_of_lt hb')]
      exact (hf b hb).1
  done := by
    intro X hP hw hK hc i pins s σ H E I hf st hg
    subst hP hw hK
    obtain ⟨⟨old, he⟩, hit, hne⟩ := st
    obtain ⟨xs, hq, hx⟩ := hg
    obtain ⟨its, rv, p, hz⟩ := I.tuple hq
    obtain ⟨f0, f1, f2, f3, f4, f5⟩ := hf it (by simp)
    have hl := rv.length
    have hT : s.TypeIs (.ref e) "enumerate" := ⟨_, he, rfl⟩
    unfold pyNext
    refine wpAny_bind (wpAny_attempt (wpAny_callSpecial?_slot (name := Str.ofString "__next__") hT F.slot_enumerate_next
      (wpAny_call_entry F.slot_enumerate_next hT F.entry_enumerate_next ?_ (F.args_enumerate_next_1 _))))
    show wpAny _ _ (field (.ref e) 2 >>= _) _ _ _
    refine wpAny_bind (wpAny_field he rfl (x := .ref it) rfl ?_)
    refine wpAny_bind (wpAny_nextOf_tuple_end (I.ok.hd hc) hit p (by simp; omega) fun h' x he' hx' => ?_)
    obtain ⟨o, ho, hc⟩ := hx'
    refine wpAny_bind (wpAny_isInstance (T := "StopIteration") (b := true) ⟨o, ho, hc⟩ isSubtype_stop ?_)
    exact wpAny_pure ⟨rfl, I.turned (t' := s.toks) (fun b o hb q => he' b o hb q) f0 f1 f3 f4 f5⟩
  self := fun A i s Q E st h => let ⟨⟨_, he⟩, _⟩ := st; wpAny_pyIter_enum he h
def iEnumT (K : PySem.W.Frag) (ta : TA) : TI := fun σ H R => ta σ H fun vs H1 => ∃ a xs, vs = [.ref a] ∧ SqT K H1 a xs ∧ R (IteT K a) H1
theorem pi_enumT {X : Cx} {e : Expr} {ta : TA} {p pos tpos : Pos} {elts : List Expr} {kk : Nat} (hg : Gl X "enumerate") (hm : X.mg "enumerate" = none) (ha : PA X [e] ta) (hs : starEach [e] X.env = [(false, eval e X.env)] := by rfl) :
    PI X (.Tuple elts kk tpos) (.Call (.Name "enumerate" p) [e] [] pos) (iEnumT X.K ta) := by
  refine ⟨fun pins s σ H R I h => ?_⟩
  refine Call_ (ld_blt I hg hm boot_enumerate (PyProof.Rows.callWith_type1 (thn (ha.run pos pins s σ H _ I h) fun us s1 ⟨vs, H1, I1, r1, q1⟩ => ?_) hs rfl))
  obtain ⟨a, xs, ex, hq, q⟩ := q1
  subst ex
  cases r1 with
  | cons r rr =>
    cases rr
    cases r
    obtain ⟨its, rv, p', hz⟩ := I1.tuple hq
    refine call_enumerate_tuple p' fun h' he hit hsz hk => wpAny_pyIter_enum he ?_
    have I2 : Inv X pins σ H1 { s1 with heap := h' } := I1.kept (t' := s1.toks) hk
    refine ⟨s1.heap.objs.size + 1, [s1.heap.objs.size + 1, s1.heap.objs.size], _, _, H1, rfl, I2, turn_enumT a (s1.heap.objs.size + 1) s1.heap.objs.size, ⟨⟨.none, he⟩, hit, Nat.succ_ne_self _⟩, fun b hb => ?_, q⟩
    have e' : b = s1.heap.objs.size + 1 ∨ b = s1.heap.objs.size := by simpa using hb
    have hle : s1.heap.objs.size ≤ b := by
      rcases e' with z | z
      · rw [z]; exact Nat.le_add_right _ _
      · rw [z]; exact Nat.le_refl _
    exact I1.fpOk hle (I1.hok.fresh hle)
theorem walk_enumT {K : PySem.W.Frag} {a : Addr} {xs : List V} : Walk (IteT K a) xs.length (fun H => SqT K H a xs) (YPair (fun i => some (.int (i : Nat))) (fun i => xs[i]?)) := by
  refine ⟨fun i _ hi q => ⟨xs, xs[i], q, by simp [hi]⟩, fun _ q => ⟨xs, q, Nat.le_refl _⟩, fun i H v H' _ q y => ?_⟩
  obtain ⟨T, x, h1, h2, h3, h4⟩ := y
  exact ⟨T, .int (i : Nat), x, h1, h2, h3, rfl, h4 xs q⟩
end Bx
namespace Bx
open PySem PySem.Spec PyProof.Rows L2
theorem pi_enumTK {X : Cx} {K : PySem.W.Frag} (h : X.K = K) {e : Expr} {ta : TA} {p pos tpos : Pos} {elts : List Expr} {kk : Nat} (hg : Gl X "enumerate") (hm : X.mg "enumerate" = none) (ha : PA X [e] ta) (hs : starEach [e] X.env = [(false, eval e X.env)] := by rfl) :
    PI X (.Tuple elts kk tpos) (.Call (.Name "enumerate" p) [e] [] pos) (iEnumT K ta) := by
  subst h
  exact pi_enumT hg hm ha hs
/-- two clauses, the outer walk over anything -/
theorem lc2_it {J : It} {n : Nat} {G : Hp → Prop} {Y : Nat → Hp → V → Hp → Prop} (w : Walk J n G Y) {g g1 : TG} {tt tt1 : TT} {wi1 : TI} {te : TE} {vs vs1 : List Nat} {σ : L2.St} {H1 : Hp} {D : Addr} {Qd : Hp → Prop} (Pv : Nat → Hp → Prop) (h0 : Pv 0 (upd H1 D (.lst []))) (hG : ∀ i H, i ≤ n → Pv i H → G H)
    (hs : ∀ i x H H0, i < n → Pv i H → Y i H x H0 → g x (wipe σ vs) H0 fun σ2 H2 => wipe σ2 vs = wipe σ vs ∧ tt σ2 H2 fun b H3 => if b = true then wi1 σ2 H3 fun J1 H4 => ∃ W1 : Nat → Nat → Hp → Prop, (∃ m, W1 0 m H4) ∧ ∀ j k H, W1 j k H →
      (J1.stop j H ∧ Pv (i + 1) H) ∨ (J1.go j H ∧ ∃ Nx1 : Hp → Prop, (∀ H', Nx1 H' → ∃ k', k' < k ∧ W1 (j + 1) k' H') ∧ ∀ x H', J1.yld j H x H' → g1 x (wipe σ2 vs1) H' fun σ3 H5 => wipe σ3 vs1 = wipe σ2 vs1 ∧ tt1 σ3 H5 fun b H6 =>
        if b = true then te σ3 H6 fun y H7 => ∃ acc, H7 D = some (.lst acc) ∧ acc.length < sizeLine ∧ Nx1 (upd H7 D (.lst (acc ++ [y]))) else Nx1 H6) else Pv (i + 1) H3) (hd : ∀ H, Pv n H → Qd H) :
    ∃ W : Nat → Nat → Hp → Prop, (∃ m, W 0 m (upd H1 D (.lst []))) ∧ ∀ i m H, W i m H →
      (J.stop i H ∧ Qd H) ∨ (J.go i H ∧ ∃ Nx : Hp → Prop, (∀ H', Nx H' → ∃ m', m' < m ∧ W (i + 1) m' H') ∧ ∀ x H', J.yld i H x H' → g x (wipe σ vs) H' fun σ2 H2 => wipe σ2 vs = wipe σ vs ∧ tt σ2 H2 fun b H3 =>
        if b = true then wi1 σ2 H3 fun J1 H4 => ∃ W1 : Nat → Nat → Hp → Prop, (∃ m, W1 0 m H4) ∧ ∀ j k H, W1 j k H →
          (J1.stop j H ∧ Nx H) ∨ (J1.go j H ∧ ∃ Nx1 : Hp → Prop, (∀ H', Nx1 H' → ∃ k', k' < k ∧ W1 (j + 1) k' H') ∧ ∀ x H', J1.yld j H x H' → g1 x (wipe σ2 vs1) H' fun σ3 H5 => wipe σ3 vs1 = wipe σ2 vs1 ∧ tt1 σ3 H5 fun b H6 =>
            if b = true then te σ3 H6 fun y H7 => ∃ acc, H7 D = some (.lst acc) ∧ acc.length < sizeLine ∧ Nx1 (upd H7 D (.lst (acc ++ [y]))) else Nx1 H6) else Nx H3) := by
  refine ⟨fun i m H => m = n - i ∧ i ≤ n ∧ Pv i H, ⟨n, by simp, Nat.zero_le _, h0⟩, ?_⟩
  rintro i m H ⟨rfl, hi, p⟩
  have q := hG i H hi p
  rcases Nat.lt_or_ge i n with c | c
  · exact .inr ⟨w.goes i H c q, Pv (i + 1), fun H' p' => ⟨n - (i + 1), by omega, rfl, c, p'⟩, fun x H' y => hs i x H H' c p (w.yields i H x H' c q y)⟩
  · have e : i = n := Nat.le_antisymm hi c
    subst e
    exact .inl ⟨w.stops H q, hd H p⟩
/-- .. the inner walk over anything -/
theorem lc2_inIt {J : It} {n : Nat} {G : Hp → Prop} {Y : Nat → Hp → V → Hp → Prop} (w : Walk J n G Y) {g1 : TG} {tt1 : TT} {te : TE} {vs1 : List Nat} {σ2 : L2.St} {H4 : Hp} {D : Addr} {Nx : Hp → Prop} (Pv : Nat → Hp → Prop) (h0 : Pv 0 H4) (hG : ∀ i H, i ≤ n → Pv i H → G H)
    (hs : ∀ j x H H0, j < n → Pv j H → Y j H x H0 → g1 x (wipe σ2 vs1) H0 fun σ3 H5 => wipe σ3 vs1 = wipe σ2 vs1 ∧ tt1 σ3 H5 fun c H6 => if c = true then te σ3 H6 fun y H7 => ∃ acc, H7 D = some (.lst acc) ∧ acc.length < sizeLine ∧ Pv (j + 1) (upd H7 D (.lst (acc ++ [y]))) else Pv (j + 1) H6)
    (hd : ∀ H, Pv n H → Nx H) :
    ∃ W1 : Nat → Nat → Hp → Prop, (∃ m, W1 0 m H4) ∧ ∀ j k H, W1 j k H →
      (J.stop j H ∧ Nx H) ∨ (J.go j H ∧ ∃ Nx1 : Hp → Prop, (∀ H', Nx1 H' → ∃ k', k' < k ∧ W1 (j + 1) k' H') ∧ ∀ x H', J.yld j H x H' → g1 x (wipe σ2 vs1) H' fun σ3 H5 => wipe σ3 vs1 = wipe σ2 vs1 ∧ tt1 σ3 H5 fun c H6 =>
        if c = true then te σ3 H6 fun y H7 => ∃ acc, H7 D = some (.lst acc) ∧ acc.length < sizeLine ∧ Nx1 (upd H7 D (.lst (acc ++ [y]))) else Nx1 H6) := by
  refine ⟨fun j m H => m = n - j ∧ j ≤ n ∧ Pv j H, ⟨n, by simp, Nat.zero_le _, h0⟩, ?_⟩
  rintro j m H ⟨rfl, hj, p⟩
  have q := hG j H hj p
  rcases Nat.lt_or_ge j n with c | c
  · exact .inr ⟨w.goes j H c q, Pv (j + 1), fun H' p' => ⟨n - (j + 1), by omega, rfl, c, p'⟩, fun x H' y => hs j x H H' c p (w.yields j H x H' c q y)⟩
  · have e : j = n := Nat.le_antisymm hj c
    subst e
    exact .inl ⟨w.stops H q, hd H p⟩
end Bx
namespace Bx
open PySem PySem.Spec PyProof.Rows L2
def gf (ot pt rt : Addr) : List (Str × V) := putF "moves" (.ref rt) (putF "priorities" (.ref pt) (putF "owners" (.ref ot) []))
theorem gf_o (a b c : Addr) : (gf a b c).lookup ("owners" : Str) = some (.ref a) := by
  unfold gf
  rw [lookup_putF, if_neg (by decide +kernel), lookup_putF, if_neg (by decide +kernel), lookup_putF, if_pos rfl]
theorem gf_p (a b c : Addr) : (gf a b c).lookup ("priorities" : Str) = some (.ref b) := by
  unfold gf
  rw [lookup_putF, if_neg (by decide +kernel), lookup_putF, if_pos rfl]
theorem gf_m (a b c : Addr) : (gf a b c).lookup ("moves" : Str) = some (.ref c) := by
  unfold gf
  rw [lookup_putF, if_pos rfl]
structure GmeC (K : PySem.W.Frag) (C : Addr) : Prop where
  cl : Cls K C
  no : NoAttr K C "owners"
  np : NoAttr K C "priorities"
  nm : NoAttr K C "moves"
def GmeAt (C : Addr) (H : Hp) (x : Addr) (ow ps : List Int) (c : List (List Int)) : Prop := ∃ (dx ot pt rt : Addr) (as : List Addr), H x = some (.ins C dx (gf ot pt rt)) ∧ TupI H ot ow ∧ TupI H pt ps ∧ H rt = some (.tup (as.map V.ref)) ∧ RowsA .tup H as c
/-- what holds of a game -/
structure Vg (ow ps : List Int) (c : List (List Int)) : Prop where
  ne : c ≠ []
  lo : ow.length = c.length
  lp : ps.length = c.length
  ow1 : ∀ z ∈ ow, 0 ≤ z ∧ z ≤ 1
  pr : ∀ z ∈ ps, 0 ≤ z
  mv : ∀ r ∈ c, r ≠ [] ∧ Asc (c.length : Int) r
end Bx
namespace MaxD
open PySem PySem.W PyProof.Rows
def kwD (d : Value) : List (Str × Value) := [(Str.ofString "default", d)]
theorem nameL : (toString "max" ++ toString ".loop" : String) = "max.loop" := by decide
section
variable {prog : Program} {w : World} {A : Around} {R : Result → Shared → Prop} {I S : Addr} {fp wr : List Addr} {n : Nat} {P : Nat → Value → Prop} {St : Nat → Heap → Prop} {d : Value}
theorem loopD (W : Walks prog w A.in1 I fp wr n P St) (bt : Nat → Nat → Bool) (cm : CmpOf prog w A.in1 .Gt P bt) (nf : S ∉ fp) :
    ∀ (m j : Nat) (u : Shared) (best : Value) (c : Nat), n - (j + 1) = m → j + 1 ≤ n → St (j + 1) u.heap → P (argBest bt j) best →
    u.heap.get? S = some { cls := .type "list", dict := none, data := .seq #[best, best] c, slots := #[] } →
    (∀ v g tk, P (argBest bt (n - 1)) v → (∀ b o, b ∉ wr → b ≠ S → u.heap.get? b = some o → g.get? b = some o) → R (.ok (.ret v)) { u with heap := g, toks := tk }) →
    codeAny (model prog w) A (.builtin "max.loop" ⟨[.ref I, .none, .ref S], kwD d⟩) R u := by
  have nw : S ∉ wr := fun q => nf (W.sub _ q)
  intro m
  induction m with
  | zero =>
    intro j u best c em hj st pb gS out
    have ej : j + 1 = n := by omega
    refine codeAny_builtin PySem.F.entry_max_loop ?_
    rw [Around.under_plainId PySem.F.plain_max_loop _]
    show wpAny _ A.in1 (seqItems? (.ref S) >>= _) _ _ u
    refine wpAny_bind (wpAny_seqItems gS rfl ?_)
    show wpAny _ A.in1 (tryCatch (pyNext (.ref I)) _ >>= _) _ _ u
    refine wpAny_bind (wpAny_tryCatch (W.done u _ _ (ej ▸ st) fun g tk keep => ?_))
    have gS2 := keep S _ nw gS
    show wpAny _ A.in1 (updateSeq S (fun _ => #[]) >>= _) _ _ _
    refine wpAny_bind (wpAny_updateSeq gS2 rfl (wpAny_bind (wpAny_letGo (wpAny_pure ?_))))
    exact out best _ tk (by rw [← ej]; exact pb) fun b o hb hS e => (Heap.get?_update_other _ _ (Ne.symm hS)).trans (keep b o hb e)
  | succ m ih =>
    intro j u best c em hj st pb gS out
    have lt : j + 1 < n := by omega
    refine codeAny_builtin PySem.F.entry_max_loop ?_
    rw [Around.under_plainId PySem.F.plain_max_loop _]
    show wpAny _ A.in1 (seqItems? (.ref S) >>= _) _ _ u
    refine wpAny_bind (wpAny_seqItems gS rfl ?_)
    show wpAny _ A.in1 (tryCatch (pyNext (.ref I)) _ >>= _) _ _ u
    refine wpAny_bind (wpAny_tryCatch (W.item (j + 1) u _ _ lt st fun v g tk pv st2 keep => ?_))
    have gS2 := keep S _ nw gS
    show wpAny _ A.in1 (tryCatch (holding [v, v] (richCompare .Gt v best >>= _)) _ >>= _) _ _ _
    refine wpAny_bind (wpAny_tryCatch (wpAny_holding (wpAny_bind (cm (j + 1) (argBest bt j) v best _ _ _ pv pb ?_))))
    refine wpAny_bind (wpAny_holding (wpAny_truthy_bool (wpAny_bind (wpAny_letGo (wpAny_pure ?_)))))
    cases hb : bt (j + 1) (argBest bt j) with
    | true =>
      simp only [if_true]
      refine wpAny_bind (wpAny_updateSeq gS2 rfl (wpAny_bind (wpAny_letGo ?_)))
      rw [nameL]
      refine wpAny_pure ⟨plainId_quiet PySem.F.plain_max_loop _, ih (j + 1) _ v _ (by omega) lt (W.frame _ _ _ st2 fun b bf o e => ?_) (by simp only [argBest, hb, if_true]; exact pv) (Heap.get?_update_self _ gS2 rfl)
        fun v2 g2 tk2 p2 keep2 => ?_⟩
      · exact (Heap.get?_update_other _ _ (fun q : S = b => nf (by rw [q]; exact bf))).trans e
      · exact out v2 g2 tk2 p2 fun b o hw hS e => keep2 b o hw hS ((Heap.get?_update_other _ _ (Ne.symm hS)).trans (keep b o hw e))
    | false =>
      simp only [Bool.false_eq_true, if_false]
      refine wpAny_bind (wpAny_letGo ?_)
      rw [nameL]
      exact wpAny_pure ⟨plainId_quiet PySem.F.plain_max_loop _, ih (j + 1) _ best c (by omega) lt st2 (by simp only [argBest, hb, Bool.false_eq_true, if_false]; exact pb) gS2 fun v2 g2 tk2 p2 keep2 =>
        out v2 g2 tk2 p2 fun b o hw hS e => keep2 b o hw hS (keep b o hw e)⟩
theorem firstD (W : Walks prog w A.in1 I fp wr n P St) (bt : Nat → Nat → Bool) (cm : CmpOf prog w A.in1 .Gt P bt) (nf : S ∉ fp) {u : Shared} {c : Nat} (st : St 0 u.heap)
    (gS : u.heap.get? S = some { cls := .type "list", dict := none, data := .seq #[] c, slots := #[] })
    (out : ∀ v g tk, (0 < n → P (argBest bt (n - 1)) v) → (n = 0 → v = d) → (∀ b o, b ∉ wr → b ≠ S → u.heap.get? b = some o → g.get? b = some o) → R (.ok (.ret v)) { u with heap := g, toks := tk }) :
    codeAny (model prog w) A (.builtin "max.loop" ⟨[.ref I, .none, .ref S], kwD d⟩) R u := by
  have nw : S ∉ wr := fun q => nf (W.sub _ q)
  refine codeAny_builtin PySem.F.entry_max_loop ?_
  rw [Around.under_plainId PySem.F.plain_max_loop _]
  show wpAny _ A.in1 (seqItems? (.ref S) >>= _) _ _ u
  refine wpAny_bind (wpAny_seqItems gS rfl ?_)
  show wpAny _ A.in1 (tryCatch (pyNext (.ref I)) _ >>= _) _ _ u
  by_cases h0 : 0 < n
  · refine wpAny_bind (wpAny_tryCatch (W.item 0 u _ _ h0 st fun v g tk pv st2 keep => ?_))
    have gS2 := keep S _ nw gS
    show wpAny _ A.in1 (updateSeq S (fun _ => #[v, v]) >>= _) _ _ _
    refine wpAny_bind (wpAny_updateSeq gS2 rfl ?_)
    rw [nameL]
    refine wpAny_pure ⟨plainId_quiet PySem.F.plain_max_loop _, loopD W bt cm nf _ 0 _ v _ rfl h0 (W.frame _ _ _ st2 fun b bf o e => ?_) pv (Heap.get?_update_self _ gS2 rfl) fun v2 g2 tk2 p2 keep2 => ?_⟩
    · exact (Heap.get?_update_other _ _ (fun q : S = b => nf (by rw [q]; exact bf))).trans e
    · exact out v2 g2 tk2 (fun _ => p2) (fun z => by omega) fun b o hw hS e => keep2 b o hw hS ((Heap.get?_update_other _ _ (Ne.symm hS)).trans (keep b o hw e))
  · have e0 : n = 0 := by omega
    refine wpAny_bind (wpAny_tryCatch (W.done u _ _ (by rw [e0]; exact st) fun g tk keep => ?_))
    show wpAny _ A.in1 (rule _ >>= _) _ _ _
    refine wpAny_bind (wpAny_rule (wpAny_pure ?_))
    exact out d g tk (fun z => absurd z h0) (fun _ => rfl) fun b o hw _ e => keep b o hw e
end
section
variable {prog : Program} {w : World} {A : Around} {E : Value → Shared → Prop} {s : Shared} {d : Value}
theorem args_d (a v : Value) : argsOk "max" ⟨[a], kwD v⟩ := by
  unfold argsOk
  kernel_rfl
theorem callD {l : Addr} {xs : Array (Int × Tok)} {Q : Value → Shared → Prop} (hh : A.handled = none) (hl : s.heap.IsList l (intItems xs))
    (h : ∀ v g tk, (0 < xs.size → (intItems xs)[argBest (fun i j => decide (numAt xs i > numAt xs j)) (xs.size - 1)]? = some v) → (xs.size = 0 → v = d) → (∀ b o, s.heap.get? b = some o → g.get? b = some o) → Q v { s with heap := g, toks := tk }) :
    wpAny (model prog w) A (call (.builtin "max") [.ref l] (kwD d)) Q E s := by
  refine kmk_tree PySem.F.kind_max PySem.F.plain_max PySem.F.entry_max (args_d _ _) ?_
  show wpAny _ A.in1 (Builtin.Builtins.bindParams "max" ["key", "default"] 0 ⟨[], kwD d⟩ >>= _) _ _ s
  refine wpAny_bind (wpAny_of_eq (show Builtin.Builtins.bindParams "max" ["key", "default"] 0 ⟨[], kwD d⟩ = pure [none, some d] from rfl) ?_)
  refine wpAny_bind (wpAny_pure ?_)
  refine wpAny_bind (iter_intList hl fun u eu st hfp hlI => ?_)
  subst eu
  refine wpAny_bind (wpAny_newObj_type ?_)
  rw [nameL]
  refine wpAny_pure ⟨plainId_quiet PySem.F.plain_max_loop _, firstD (Walks.list (A := A.in1) hh _ l hlI (intItems xs)) _ (CmpOf.ints_gt (numAt xs) (fun _ _ => intItems_at)) (fun hm => Nat.lt_irrefl _ (hfp _ hm)) ?_ (Heap.get?_push_size _ rfl) fun v g tk p1 p2 keep => ?_⟩
  · exact (Walks.list (prog := prog) (w := w) (A := A.in1) hh _ l hlI (intItems xs)).frame _ _ _ st fun b _ o e => Heap.get?_push_of_some _ e
  · have hsz : (intItems xs).size = xs.size := by simp [intItems]
    refine h v g tk (fun z => by have := p1 (by rw [hsz]; exact z); rw [hsz] at this; exact this) (fun z => p2 (by rw [hsz]; exact z)) (old_kept (l := l) fun b o hb e => ?_)
    exact keep b o hb (Nat.ne_of_lt (Heap.lt_size e)) (Heap.get?_push_of_some _ e)
end
theorem rawD {prog : Program} {w : World} {A : Around} {E : Value → Shared → Prop} {s : Shared} {l : Addr} {its : List Value} {ns : List Int} {z : Int} {t : Tok} {Q : Value → Shared → Prop} (hh : A.handled = none) (hl : s.heap.IsList l its.toArray) (hi : IntsAre its ns)
    (h : ∀ (g : Heap) (tk : Nat) (m : Int) (t' : Tok), (∀ b o, s.heap.get? b = some o → g.get? b = some o) → (ns = [] → m = z) → (ns ≠ [] → m ∈ ns ∧ ∀ y ∈ ns, y ≤ m) → Q (.int m t') { s with heap := g, toks := tk }) :
    wpAny (model prog w) A (call (.builtin "max") [.ref l] (kwD (.int z t))) Q E s := by
  obtain ⟨xs, e⟩ := hi.allInts.items
  have hn : numsOf (intItems xs).toList = ns := by rw [← e]; exact hi.numsOf
  rw [PySem.nums_intItems] at hn
  subst hn
  rw [e] at hl
  refine callD hh hl fun v g tk p1 p2 keep => ?_
  by_cases c : 0 < xs.size
  · obtain ⟨u, rfl⟩ := intItems_at (p1 c)
    obtain ⟨a1, a2⟩ := argBest_gt (numAt xs) (xs.size - 1)
    refine h g tk _ u keep (fun z => ?_) fun _ => ⟨?_, fun y hy => ?_⟩
    · have q : xs.size = 0 := by simpa using congrArg List.length z
      omega
    · rw [PySem.numAt_eq]
      refine PySem.getD_mem ?_
      rw [List.length_map, Array.length_toList]
      exact Nat.lt_of_le_of_lt a1 (by omega)
    · obtain ⟨j, hj, rfl⟩ := PySem.mem_getD hy
      rw [List.length_map, Array.length_toList] at hj
      rw [← PySem.numAt_eq]
      exact a2 j (by omega)
  · rw [p2 (by omega)]
    refine h g tk z t keep (fun _ => rfl) fun q => absurd ?_ q
    have : xs = #[] := Array.eq_empty_of_size_eq_zero (by omega)
    rw [this]
    rfl
end MaxD
namespace Bx
open PySem PySem.Spec PyProof.Rows L2
def rMaxD (K : PySem.W.Frag) : List V → List V → Hp → VK → Prop := fun xs zs H Q => ∃ (a : Addr) (ns : List Int) (z : Int), xs = [.ref a] ∧ zs = [.int z] ∧ SqL K H a (ns.map V.int) ∧
  ∀ m, (ns = [] → m = z) → (ns ≠ [] → m ∈ ns ∧ ∀ y ∈ ns, y ≤ m) → Q (.int m) H
theorem call_maxD {X : Cx} {K : PySem.W.Frag} (h : X.K = K) (hc : X.calm = true) : CallRK X (.builtin "max") ["default"] (rMaxD K) := by
  subst h
  intro pins s σ H xs zs us ws Q I r r2 hw
  obtain ⟨a, ns, z, rfl, rfl, hs, q⟩ := hw
  obtain ⟨its, rv, hl, _⟩ := I.list hs
  rw [Vals.ref1 r]
  obtain ⟨u, rfl, ru⟩ := vals1 r2
  obtain ⟨t, rfl⟩ := ru
  exact MaxD.rawD (I.ok.hd hc) hl.isList rv.ints fun g tk m t' hk h1 h2 => ⟨.int m, H, I.kept hk, ⟨_, rfl⟩, q m h1 h2⟩
end Bx
local macro_rules | `(tactic| walk_at "hl") => `(tactic| first | assumption | exact L2.upd_same | (refine Bx.sat (by assumption) ?_; walk_at "hl"))
local macro_rules | `(tactic| walk_at "bx") => `(tactic| repeat (first
  | refine ⟨_, rfl, ?_⟩
  | refine ⟨_, _, rfl, rfl, ?_⟩
  | refine ⟨rfl, ?_⟩
  | refine Or.inl ⟨_, rfl, ?_⟩
  | refine ⟨Or.inr ⟨by decide, by decide⟩, ?_⟩
  | refine ⟨Or.inl ⟨by decide, by decide⟩, ?_⟩
  | refine ⟨(show (0 : Int) < _ by decide), ?_⟩
  | refine ⟨⟨by decide, by decide⟩, ?_⟩
  | refine ⟨_, _, rfl, Or.inl (L2.SqL.of (by walk_at "hl")), ?_⟩
  | refine ⟨_, _, rfl, Or.inr (L2.SqT.of (by walk_at "hl")), ?_⟩
  | refine ⟨Or.inl ⟨rfl, _, L2.SqL.of (by walk_at "hl")⟩, ?_⟩
  | refine ⟨_, _, _, rfl, rfl, (by walk_at "hl"), ?_⟩
  | refine ⟨_, _, rfl, rfl, (by walk_at "hl"), ?_⟩
  | refine ⟨_, _, _, _, rfl, rfl, L2.SqT.of (by walk_at "hl"), (by walk_at "hl"), ?_⟩
  | refine ⟨_, _, _, _, rfl, rfl, L2.SqL.of (by walk_at "hl"), (by walk_at "hl"), ?_⟩
  | refine ⟨_, _, rfl, Bx.SeqI.sq (by walk_at "hl"), ?_⟩
  | refine And.intro (by walk_at "hl") ?_))
local macro_rules | `(tactic| walk_at "nl") => `(tactic| ((try unfold L2.tNil); (try unfold L2.tNoPart)))

namespace My
open PySem PySem.Spec PyProof.Rows L2 Bx TL Tx Tz
def topS (i : Nat) : Stmt := PySem.Challenge.pw_reactivesynth_k35_choices_win.main.body.getD i (.Pass ⟨0, 0, 0, 0⟩)
abbrev s_reachable : Stmt := topS 5
abbrev N_reachable : List Str := ["graph", "starts", "found", "waiting", "start", "node"]
theorem sc_reachable : FnScope N_reachable ["graph", "starts"] (defScope s_reachable) := ⟨rfl, rfl, rfl, by decide +kernel, rfl, by decide +kernel, by decide +kernel⟩
abbrev s_reversed_graph : Stmt := topS 6
abbrev N_reversed_graph : List Str := ["graph", "turned", "node", "row", "target", "_"]
theorem sc_reversed_graph : FnScope N_reversed_graph ["graph"] (defScope s_reversed_graph) := ⟨rfl, rfl, rfl, by decide +kernel, rfl, by decide +kernel, by decide +kernel⟩
abbrev s_finishing_order : Stmt := topS 7
abbrev N_finishing_order : List Str := ["graph", "order", "found", "start", "path", "node", "followed", "target"]
theorem sc_finishing_order : FnScope N_finishing_order ["graph"] (defScope s_finishing_order) := ⟨rfl, rfl, rfl, by decide +kernel, rfl, by decide +kernel, by decide +kernel⟩
abbrev s_components : Stmt := topS 8
abbrev N_components : List Str := ["graph", "turned", "homes", "count", "start", "waiting", "node"]
theorem sc_components : FnScope N_components ["graph"] (defScope s_components) := ⟨rfl, rfl, rfl, by decide +kernel, rfl, by decide +kernel, by decide +kernel⟩
abbrev s_part_of : Stmt := topS 9
abbrev N_part_of : List Str := ["graph", "nodes", "numbers", "at", "node", "target"]
theorem sc_part_of : FnScope N_part_of ["graph", "nodes"] (defScope s_part_of) := ⟨rfl, rfl, rfl, by decide +kernel, rfl, by decide +kernel, by decide +kernel⟩
abbrev s_component_lists : Stmt := topS 10
abbrev N_component_lists : List Str := ["graph", "nodes", "homes", "groups", "node", "home", "_"]
theorem sc_component_lists : FnScope N_component_lists ["graph", "nodes"] (defScope s_component_lists) := ⟨rfl, rfl, rfl, by decide +kernel, rfl, by decide +kernel, by decide +kernel⟩
abbrev s_check_moves : Stmt := topS 13
abbrev N_check_moves : List Str := ["targets", "count", "before", "target"]
theorem sc_check_moves : FnScope N_check_moves ["targets", "count"] (defScope s_check_moves) := ⟨rfl, rfl, rfl, by decide +kernel, rfl, by decide +kernel, by decide +kernel⟩
abbrev s_check_position : Stmt := topS 14
abbrev N_check_position : List Str := ["game", "position"]
theorem sc_check_position : FnScope N_check_position ["game", "position"] (defScope s_check_position) := ⟨rfl, rfl, rfl, by decide +kernel, rfl, by decide +kernel, by decide +kernel⟩
abbrev s_choices_win : Stmt := topS 15
abbrev N_choices_win : List Str := ["game", "player", "choices", "position", "graph", "place", "moves", "flags", "reached", "found"]
theorem sc_choices_win : FnScope N_choices_win ["game", "player", "choices", "position"] (defScope s_choices_win) := ⟨rfl, rfl, rfl, by decide +kernel, rfl, by decide +kernel, by decide +kernel⟩
abbrev s_winning_group : Stmt := topS 16
abbrev N_winning_group : List Str := ["graph", "places", "priorities", "player", "waiting", "groups", "group", "highest", "place"]
theorem sc_winning_group : FnScope N_winning_group ["graph", "places", "priorities", "player"] (defScope s_winning_group) := ⟨rfl, rfl, rfl, by decide +kernel, rfl, by decide +kernel, by decide +kernel⟩
abbrev s_law_draws : Stmt := topS 18
abbrev N_law_draws : List Str := ["script", "count", "cells", "found", "mixed", "k", "j", "cell", "again"]
theorem sc_law_draws : FnScope N_law_draws ["script", "count"] (defScope s_law_draws) := ⟨rfl, rfl, rfl, by decide +kernel, rfl, by decide +kernel, by decide +kernel⟩
abbrev s_law_take : Stmt := topS 19
abbrev N_law_take : List Str := ["draws", "limit"]
theorem sc_law_take : FnScope N_law_take ["draws", "limit"] (defScope s_law_take) := ⟨rfl, rfl, rfl, by decide +kernel, rfl, by decide +kernel, by decide +kernel⟩
abbrev s_law_ascending : Stmt := topS 20
abbrev N_law_ascending : List Str := ["draws", "limit", "share", "k"]
theorem sc_law_ascending : FnScope N_law_ascending ["draws", "limit", "share"] (defScope s_law_ascending) := ⟨rfl, rfl, rfl, by decide +kernel, rfl, by decide +kernel, by decide +kernel⟩
abbrev s_law_flat : Stmt := topS 21
abbrev N_law_flat : List Str := ["rows", "row"]
theorem sc_law_flat : FnScope N_law_flat ["rows"] (defScope s_law_flat) := ⟨rfl, rfl, rfl, by decide +kernel, rfl, by decide +kernel, by decide +kernel⟩
abbrev s_law_game : Stmt := topS 22
abbrev N_law_game : List Str := ["draws", "most", "count", "top", "owners", "priorities", "share", "moves", "k", "row"]
theorem sc_law_game : FnScope N_law_game ["draws", "most"] (defScope s_law_game) := ⟨rfl, rfl, rfl, by decide +kernel, rfl, by decide +kernel, by decide +kernel⟩
abbrev s_law_left : Stmt := topS 23
abbrev N_law_left : List Str := ["owners", "moves", "player", "choices", "found", "k"]
theorem sc_law_left : FnScope N_law_left ["owners", "moves", "player", "choices"] (defScope s_law_left) := ⟨rfl, rfl, rfl, by decide +kernel, rfl, by decide +kernel, by decide +kernel⟩
abbrev s_law_reached : Stmt := topS 24
abbrev N_law_reached : List Str := ["moves", "starts", "allowed", "seen", "queue", "start", "at", "target"]
theorem sc_law_reached : FnScope N_law_reached ["moves", "starts", "allowed"] (defScope s_law_reached) := ⟨rfl, rfl, rfl, by decide +kernel, rfl, by decide +kernel, by decide +kernel⟩
abbrev s_law_wins : Stmt := topS 25
abbrev N_law_wins : List Str := ["priorities", "moves", "player", "start", "count", "seen", "k", "low", "j"]
theorem sc_law_wins : FnScope N_law_wins ["priorities", "moves", "player", "start"] (defScope s_law_wins) := ⟨rfl, rfl, rfl, by decide +kernel, rfl, by decide +kernel, by decide +kernel⟩
abbrev s_law_outcome : Stmt := topS 26
abbrev N_law_outcome : List Str := ["game", "player", "choices", "position"]
theorem sc_law_outcome : FnScope N_law_outcome ["game", "player", "choices", "position"] (defScope s_law_outcome) := ⟨rfl, rfl, rfl, by decide +kernel, rfl, by decide +kernel, by decide +kernel⟩
abbrev s_law : Stmt := topS 27
abbrev N_law : List Str := ["script", "draws", "owners", "priorities", "moves", "game", "player", "choices", "other", "k", "choice", "position", "handed", "found", "expected"]
theorem sc_law : FnScope N_law ["script"] (defScope s_law) := ⟨rfl, rfl, rfl, by decide +kernel, rfl, by decide +kernel, by decide +kernel⟩
abbrev s_Game_init : Stmt := inClass (topS 12) 0
abbrev N_Game_init : List Str := ["self", "owners", "priorities", "moves", "targets"]
theorem sc_Game_init : FnScope N_Game_init ["self", "owners", "priorities", "moves"] (defScope s_Game_init) := ⟨rfl, rfl, rfl, by decide +kernel, rfl, by decide +kernel, by decide +kernel⟩
structure Has (K : PySem.W.Frag) (mg : Str → Option Value) (x : Str) (st : Stmt) (ps : List Str) : Prop where
  ex : ∃ (f : Addr) (fd : FuncData), L2.Fun K x x st f fd ∧ mg x = some (.ref f) ∧ Binds K fd ps []
structure Txt (K : PySem.W.Frag) (mg : Str → Option Value) : Prop where
  h_reachable : Has K mg "reachable" s_reachable ["graph", "starts"]
  h_reversed_graph : Has K mg "reversed_graph" s_reversed_graph ["graph"]
  h_finishing_order : Has K mg "finishing_order" s_finishing_order ["graph"]
  h_components : Has K mg "components" s_components ["graph"]
  h_part_of : Has K mg "part_of" s_part_of ["graph", "nodes"]
  h_component_lists : Has K mg "component_lists" s_component_lists ["graph", "nodes"]
  h_check_moves : Has K mg "check_moves" s_check_moves ["targets", "count"]
  h_check_position : Has K mg "check_position" s_check_position ["game", "position"]
  h_choices_win : Has K mg "choices_win" s_choices_win ["game", "player", "choices", "position"]
  h_winning_group : Has K mg "winning_group" s_winning_group ["graph", "places", "priorities", "player"]
  h_law_draws : Has K mg "_law_draws" s_law_draws ["script", "count"]
  h_law_take : Has K mg "_law_take" s_law_take ["draws", "limit"]
  h_law_ascending : Has K mg "_law_ascending" s_law_ascending ["draws", "limit", "share"]
  h_law_flat : Has K mg "_law_flat" s_law_flat ["rows"]
  h_law_game : Has K mg "_law_game" s_law_game ["draws", "most"]
  h_law_left : Has K mg "_law_left" s_law_left ["owners", "moves", "player", "choices"]
  h_law_reached : Has K mg "_law_reached" s_law_reached ["moves", "starts", "allowed"]
  h_law_wins : Has K mg "_law_wins" s_law_wins ["priorities", "moves", "player", "start"]
  h_law_outcome : Has K mg "_law_outcome" s_law_outcome ["game", "player", "choices", "position"]
  z_bool : mg "bool" = none
  z_enumerate : mg "enumerate" = none
  z_int : mg "int" = none
  z_isinstance : mg "isinstance" = none
  z_len : mg "len" = none
  z_list : mg "list" = none
  z_max : mg "max" = none
  z_min : mg "min" = none
  z_range : mg "range" = none
  z_tuple : mg "tuple" = none
  z_zip : mg "zip" = none
  er : ∃ (cI cL C fI : Addr) (fdI : FuncData), ErrC K mg "InvalidGame" cI ∧ ErrC K mg "InvalidPosition" cL ∧ GmeC K C ∧ Mk K C fI ∧ mg "Game" = some (.ref C) ∧ L2.Fun K "__init__" "Game.__init__" s_Game_init fI fdI ∧ Binds K fdI ["self", "owners", "priorities", "moves"] []

-- BODY
def spLaw (K : PySem.W.Frag) : Sp := fun vs H Q _ => ∃ (a : Addr) (ns : List Int), vs = [.ref a] ∧ SqL K H a (ns.map V.int) ∧ ns.length ≤ 63 ∧ ∀ H', Q (.bl true) H'
section
variable {P : Program} {w : World} {K : PySem.W.Frag} {mg : Str → Option Value} {base : Heap}
def GrL (H : Hp) (r : Addr) (g : Gr.G) : Prop := ∃ as : List Addr, H r = some (.lst (as.map V.ref)) ∧ as.length = g.length ∧ ∀ i a, as[i]? = some a → H a = some (.lst ((Gr.row g i).map VN))
theorem GrL.same {H H' : Hp} {r : Addr} {g : Gr.G} (s : Same H H') (h : GrL H r g) : GrL H' r g := by
  obtain ⟨as, h1, h2, h3⟩ := h
  exact ⟨as, s _ _ h1, h2, fun i a e => s _ _ (h3 i a e)⟩
def Fl (n : Nat) (S : Nat → Prop) (fs : List Bool) : Prop := fs.length = n ∧ ∀ (u : Nat) (b : Bool), fs[u]? = some b → (b = true ↔ S u)
theorem Fl.set {n : Nat} {S S' : Nat → Prop} {fs : List Bool} {u : Nat} (h : Fl n S fs) (hs : ∀ x, S' x ↔ (x = u ∨ S x)) : Fl n S' (fs.set u true) := by
  refine ⟨by rw [List.length_set]; exact h.1, fun x b e => ?_⟩
  rw [List.getElem?_set] at e
  rw [hs]
  by_cases c : u = x
  · subst c
    rw [if_pos rfl] at e
    split at e
    · obtain rfl := Option.some.inj e
      exact ⟨fun _ => .inl rfl, fun _ => rfl⟩
    · cases e
  · rw [if_neg c] at e
    rw [h.2 x b e]
    exact ⟨fun z => .inr z, fun z => z.elim (fun y => absurd y.symm c) id⟩
theorem Fl.get {n : Nat} {S : Nat → Prop} {fs : List Bool} (h : Fl n S fs) {u : Nat} (hu : u < n) : ∃ b : Bool, fs[u]? = some b ∧ (b = true ↔ S u) :=
  ⟨_, List.getElem?_eq_getElem (by rw [h.1]; exact hu), h.2 u _ (List.getElem?_eq_getElem (by rw [h.1]; exact hu))⟩
theorem Fl.rep (n : Nat) : Fl n (fun _ => False) (List.replicate n false) := ⟨List.length_replicate, fun u b e => by
  rw [List.getElem?_replicate] at e
  split at e
  · obtain rfl := Option.some.inj e
    exact ⟨fun z => (by cases z), fun z => False.elim z⟩
  · (cases e)⟩
theorem Fl.cong {n : Nat} {S S' : Nat → Prop} {fs : List Bool} (h : Fl n S fs) (hs : ∀ x, S' x ↔ S x) : Fl n S' fs := ⟨h.1, fun u b e => (h.2 u b e).trans (hs u).symm⟩
structure FoI (r O F P : Addr) (g : Gr.G) (start : Nat) (H : Hp) (m : Nat) (σ : L2.St) (H' : Hp) : Prop where
  ex : ∃ (ps : List (Addr × Nat × Nat)) (ord : List Nat) (fs : List Bool) (v5 v6 v7 : Option V), m = Gr.below (fun u => (Gr.row g u).length + 1) g.length - Gr.steps g ord (ps.map (·.2)).reverse ∧
    σ = [some (.ref r), some (.ref O), some (.ref F), some (VN start), some (.ref P), v5, v6, v7] ∧ Same H H' ∧ H' O = some (.lst (ord.map VN)) ∧ H' F = some (.lst (fs.map V.bl)) ∧ H' P = some (.lst (ps.map fun x => V.ref x.1)) ∧ (∀ x ∈ ps, H' x.1 = some (.tup [VN x.2.1, VN x.2.2])) ∧
    Fl g.length (fun u => u ∈ ord ++ (ps.map (·.2)).reverse.map (·.1)) fs ∧ Gr.Dfs g ord (ps.map (·.2)).reverse ∧ ∀ u, u ≤ start → u ∈ ord ++ (ps.map (·.2)).reverse.map (·.1)
def spFin : Sp := fun vs H Q _ => ∃ (r : Addr) (g : Gr.G), vs = [.ref r] ∧ GrL H r g ∧ Gr.Ok g ∧ g.length ≤ 1000000 ∧
  ∀ (H' : Hp) (o : Addr) (ord : List Nat), Same H H' → H o = none → H' o = some (.lst (ord.map VN)) → Gr.Fin g ord → Q (.ref o) H'
theorem nd_len {l : List Nat} {n : Nat} (nd : l.Nodup) (lt : ∀ x ∈ l, x < n) : l.length ≤ n := by
  have h := Gr.wsum_le (fun _ => 1) n nd lt
  have h1 : ∀ l : List Nat, Gr.wsum (fun _ => 1) l = l.length := by
    intro l
    induction l with
    | nil => rfl
    | cons x l ih => rw [Gr.wsum_cons, ih, List.length_cons]; omega
  have h2 : ∀ n, Gr.below (fun _ => 1) n = n := by
    intro n
    induction n with
    | zero => rfl
    | succ n ih => show Gr.below _ n + 1 = _; rw [ih]
  rw [h1, h2] at h
  exact h
theorem cal_fin (T : Txt K mg) : C8.Cal P w K mg base 1 "finishing_order" spFin [] := by
  obtain ⟨f, fd, F, hm, hb⟩ := T.h_finishing_order
  refine ⟨f, fd, _, [], F.ok sc_finishing_order (fun vs H Q E h => ?_) (fun cdv A outer s H vs Q E hr h => ?_), hm, F.kp, hb, .nil⟩
  · obtain ⟨r, g, rfl, _⟩ := h
    rfl
  · obtain ⟨r, g, rfl, hG, ok, hn, q⟩ := h
    refine ⟨_, (pss_cons
      (ps_set (i := 1) sc_finishing_order.nd rfl (Or.inl rfl) (pe_lst pa_nil))
      (pss_cons
      (ps_set (i := 2) sc_finishing_order.nd rfl (Or.inl rfl) (pe_op op_rep (pe_lst (pa_cons pe_bl pa_nil)) (pe_callB (call_lenK (K := K) rfl) (by rfl) T.z_len PySem.boot_len (pa_cons (pv 0) pa_nil))))
      (pss_cons
      (ps_for PassesOwn.never rfl (pi_range1 (by rfl) T.z_range (pa_cons (pe_callB (call_lenK (K := K) rfl) (by rfl) T.z_len PySem.boot_len (pa_cons (pv 0) pa_nil)) pa_nil)) (pg_name (i := 3) sc_finishing_order.nd rfl (.inl rfl)) (pss_cons
      (ps_if (pt_val (pe_ix (ix_listK (K := K) rfl) (pv 2) (pv 3) (fun _ _ => rfl))) (pss_one
      ps_continue) pss_nil)
      (pss_cons
      (ps_asg pe_bl (pg_sub (pv 2) (pv 3) set_list))
      (pss_cons
      (ps_set (i := 4) sc_finishing_order.nd rfl (Or.inl rfl) (pe_lst (pa_cons (pe_tup (pa_cons (pv 3) (pa_cons pe_int pa_nil))) pa_nil)))
      (pss_one
      (ps_while PassesOwn.never (pt_cmpR op_gt (pe_callB (call_lenK (K := K) rfl) (by rfl) T.z_len PySem.boot_len (pa_cons (pv 4) pa_nil)) pe_int (nomark _)) (pss_cons
      (ps_asg (pe_bm0 PySem.F.plainAttrs_list PySem.F.slot_list_pop PySem.F.type_list_pop mt_pop (pv 4)) (pg_tup (by rfl) (pgs_cons (pg_name (i := 5) sc_finishing_order.nd rfl (.inl rfl)) (pgs_cons (pg_name (i := 6) sc_finishing_order.nd rfl (.inl rfl)) pgs_nil))))
      (pss_cons
      (ps_if (pt_cmpR op_eq (pv 6) (pe_callB (call_lenK (K := K) rfl) (by rfl) T.z_len PySem.boot_len (pa_cons (pe_ix (ix_listK (K := K) rfl) (pv 0) (pv 5) (fun _ _ => rfl)) pa_nil)) (nomark _)) (pss_cons
      (ps_expr (pe_bm PySem.F.plainAttrs_list PySem.F.slot_list_append PySem.F.type_list_append mt_append (pv 1) (pa_cons (pv 5) pa_nil)))
      (pss_one
      ps_continue)) pss_nil)
      (pss_cons
      (ps_expr (pe_bm PySem.F.plainAttrs_list PySem.F.slot_list_append PySem.F.type_list_append mt_append (pv 4) (pa_cons (pe_tup (pa_cons (pv 5) (pa_cons (pe_op op_add (pv 6) pe_int) pa_nil))) pa_nil)))
      (pss_cons
      (ps_set (i := 7) sc_finishing_order.nd rfl (Or.inl rfl) (pe_ix (ix_listK (K := K) rfl) (pe_ix (ix_listK (K := K) rfl) (pv 0) (pv 5) (fun _ _ => rfl)) (pv 6) (fun _ _ => rfl)))
      (pss_one
      (ps_if (pt_not (pt_val (pe_ix (ix_listK (K := K) rfl) (pv 2) (pv 7) (fun _ _ => rfl)))) (pss_cons
      (ps_asg pe_bl (pg_sub (pv 2) (pv 7) set_list))
      (pss_one
      (ps_expr (pe_bm PySem.F.plainAttrs_list PySem.F.slot_list_append PySem.F.type_list_append mt_append (pv 4) (pa_cons (pe_tup (pa_cons (pv 7) (pa_cons pe_int pa_nil))) pa_nil))))) pss_nil))))))))))))
      (pss_one
      (ps_ret (pv 1)))))), ?_⟩
    obtain ⟨as, hr0, hal, ha⟩ := hG
    refine ⟨Nat.zero_le _, fun O nO => ?_⟩
    generalize hX : upd H O _ = H1; obtain ⟨sH1, eO⟩ := nw nO hX; clear hX
    refine ⟨by show 1 ≤ sizeLine; decide, fun l nl => ?_⟩
    generalize hX : upd H1 l _ = H2; obtain ⟨sH2, el⟩ := nw nl hX; clear hX
    have sH := sH1.trans sH2
    refine ⟨_, rfl, r, _, rfl, .inl (.of (sH _ _ hr0)), l, _, _, rfl, rfl, el, by omega, by rw [List.length_map]; omega, ?_, fun F nF => ?_⟩
    · rw [List.length_map, hal, Int.toNat_natCast]
      show 1 * g.length ≤ 16777216
      omega
    rw [List.length_map, hal, Int.toNat_natCast, show (List.replicate g.length [V.bl false]).flatten = (List.replicate g.length false).map V.bl by simp]
    generalize hX : upd H2 F _ = H3; obtain ⟨sH3, eF⟩ := nw nF hX; clear hX
    have eO3 := sH3 _ _ (sH2 _ _ eO)
    have nFO : F ≠ O := fun z => by rw [z, sH2 _ _ eO] at nF; cases nF
    have s3 : Same H H3 := sH.trans sH3
    have nF0 : H F = none := sH.free nF
    clear eO sH1 sH2 sH3 el nl nF
    refine ⟨_, rfl, r, _, rfl, .inl (.of (s3 _ _ hr0)), _, rfl, by omega, by rw [List.length_map]; omega, ?_⟩
    rw [List.length_map, hal, Int.toNat_natCast]
    refine for_range (lo := 0) (n := g.length) (fun i σ H' => ∃ (ord : List Nat) (fs : List Bool) (v3 v4 v5 v6 v7 : Option V), σ = [some (.ref r), some (.ref O), some (.ref F), v3, v4, v5, v6, v7] ∧ Same H H' ∧ H' O = some (.lst (ord.map VN)) ∧ H' F = some (.lst (fs.map V.bl)) ∧ Fl g.length (fun u => u ∈ ord) fs ∧ Gr.Dfs g ord [] ∧ ∀ u, u < i → u ∈ ord)
      ⟨[], _, _, _, _, _, _, rfl, s3, eO3, eF, (Fl.rep _).cong (by simp), Gr.Dfs.nil g, fun u hu => absurd hu (Nat.not_lt_zero u)⟩ ?_ ?_
    · clear s3 eO3 eF
      rintro i σ H4 hi ⟨ord, fs, v3, v4, v5, v6, v7, rfl, s4, eO, eF, hfl, hD, hall⟩
      obtain ⟨b, hb1, hb2⟩ := hfl.get hi
      refine ⟨_, rfl, _, rfl, F, _, _, .bl b, rfl, rfl, .of eF, ?_, b, rfl, ite2 (fun cc => ?_) (fun cc => ?_)⟩
      · show atI (fs.map V.bl) (0 + (i : Int)) = _
        rw [Int.zero_add]
        exact atI_nat (by rw [List.getElem?_map, hb1]; rfl)
      · refine ⟨ord, fs, _, _, _, _, _, rfl, s4, eO, eF, hfl, hD, fun u hu => ?_⟩
        rcases Nat.lt_succ_iff_lt_or_eq.mp hu with k | k
        · exact hall u k
        · rw [k]; exact hb2.mp cc
      have hni : i ∉ ord := fun z => cc (hb2.mpr z)
      rw [Int.zero_add]
      have hfsl : i < (fs.map V.bl).length := by rw [List.length_map, hfl.1]; exact hi
      refine ⟨_, rfl, _, rfl, F, _, _, i, rfl, rfl, eF, ixN_at hfsl, ?_⟩
      rw [show (fs.map V.bl).set i (.bl true) = (fs.set i true).map V.bl by rw [List.map_set]]
      generalize hX : upd H4 F _ = H5; have tH5 := mwt eF hX; clear eF; obtain ⟨sH5, eF, kH5⟩ := mw s4 nF0 hX; clear hX
      have eO5 := (kH5 O nFO.symm).trans eO
      refine ⟨_, rfl, by show 2 ≤ sizeLine; decide, fun t nt => ?_⟩
      generalize hX : upd H5 t _ = H6; obtain ⟨sH6, et⟩ := nw nt hX; clear hX
      refine ⟨by show 1 ≤ sizeLine; decide, fun P nP => ?_⟩
      generalize hX : upd H6 P _ = H7; obtain ⟨sH7, eP⟩ := nw nP hX; clear hX
      have hfl5 : Fl g.length (fun u => u ∈ ord ++ ([((i, 0) : Nat × Nat)]).map (·.1)) (fs.set i true) := hfl.set fun x => by simp [or_comm]
      have hD5 : Gr.Dfs g ord [(i, 0)] := hD.push hi (by simpa using hni) (by simp)
      have eO7 := sH7 _ _ (sH6 _ _ eO5)
      have eF7 := sH7 _ _ (sH6 _ _ eF)
      have et7 := sH7 _ _ et
      have s7 := (sH5.trans sH6).trans sH7
      have nP0 : H P = none := (sH5.trans sH6).free nP
      have nPO : P ≠ O := fun z => by rw [z, sH6 _ _ eO5] at nP; cases nP
      have nPF : P ≠ F := fun z => by rw [z, sH6 _ _ eF] at nP; cases nP
      refine ⟨FoI r O F P g i H, ⟨_, ⟨[(t, i, 0)], ord, _, _, _, _, rfl, rfl, s7, eO7, eF7, eP, fun x hx => by rw [List.mem_singleton.mp hx]; exact et7, hfl5, hD5, fun u hu => ?_⟩⟩, ?_⟩
      · rcases Nat.lt_or_eq_of_le hu with k | k
        · exact List.mem_append.mpr (.inl (hall u k))
        · rw [k]; simp
      clear hfl5 hD5 hall hni eO7 eF7 eP et7 hfl hD
      rintro m σ H8 ⟨ps, ord, fs, v5, v6, v7, rfl, rfl, s8, eO, eF, eP, hps, hfl, hD, hall⟩
      refine ⟨_, rfl, P, _, rfl, .inl (.of eP), _, _, rfl, rfl, _, rfl, ite2 (fun cc => ?_) (fun cc => ?_)⟩
      · have cc : 0 < ps.length := by have := of_decide_eq_true cc; rw [List.length_map] at this; omega
        obtain ⟨ps', ⟨t, n, k⟩, rfl⟩ : ∃ ps' x, ps = ps' ++ [x] := by
          rcases List.eq_nil_or_concat ps with rfl | ⟨a, b, rfl⟩
          · cases cc
          · exact ⟨a, b, List.concat_eq_append⟩
        have hstk : ((ps' ++ [(t, n, k)]).map (·.2)).reverse = (n, k) :: (ps'.map (·.2)).reverse := by simp
        rw [hstk] at hfl hD hall ⊢
        have et : H8 t = some (.tup [VN n, VN k]) := hps (t, n, k) (by simp)
        have hlt := Gr.steps_lt hD
        refine ⟨FoI r O F P g i H (Gr.below (fun u => (Gr.row g u).length + 1) g.length - (Gr.steps g ord ((n, k) :: (ps'.map (·.2)).reverse) + 1)), fun σ' H'' z => ⟨_, by omega, z⟩, ?_⟩
        refine ⟨_, rfl, .inl ⟨rfl, _, .of eP⟩, P, _, .ref t, rfl, rfl, eP, by simp, ?_⟩
        rw [show ((ps' ++ [(t, n, k)]).map fun x => V.ref x.1).dropLast = ps'.map fun x => V.ref x.1 by simp]
        generalize hX : upd H8 P _ = H9; have tH9 := mwt eP hX; clear eP; obtain ⟨sH9, eP, kH9⟩ := mw s8 nP0 hX; clear hX
        have et9 := tH9 _ _ et
        have eO9 := (kH9 O nPO.symm).trans eO
        have eF9 := (kH9 F nPF.symm).trans eF
        have hps9 : ∀ x ∈ ps', H9 x.1 = some (.tup [VN x.2.1, VN x.2.2]) := fun x hx => tH9 _ _ (hps x (List.mem_append.mpr (.inl hx)))
        refine ⟨t, _, rfl, .of et9, rfl, _, _, rfl, _, _, rfl, rfl, ?_⟩
        have hn := hD.lt n (by simp)
        have hko := (hD.fo (n, k) (by simp)).1
        have hra : as[n]? = some as[n] := List.getElem?_eq_getElem (by omega)
        have hrow := sH9 _ _ (ha n _ hra)
        generalize as[n] = a at hra hrow
        have hix : atI (as.map V.ref) (n : Int) = some (.ref a) := atI_nat (by rw [List.getElem?_map, hra]; rfl)
        refine ⟨_, rfl, _, rfl, _, rfl, r, _, _, .ref a, rfl, rfl, .of (sH9 _ _ hr0), hix, a, _, rfl, .inl (.of hrow), rfl, _, rfl, ite_eq (fun cc => ?_) (fun cc => ?_)⟩
        · have hkl : k = (Gr.row g n).length := by rw [List.length_map] at cc; omega
          have hol := nd_len hD.nd hD.lt
          rw [List.length_append] at hol
          refine ⟨_, rfl, .inl ⟨rfl, _, .of eO9⟩, _, rfl, O, _, _, rfl, rfl, eO9, by rw [List.length_map]; exact Nat.lt_of_le_of_lt (show ord.length ≤ 1000000 by omega) (by decide), ?_⟩
          generalize hX : upd H9 O _ = H10; have tH10 := mwt eO9 hX; clear eO9; obtain ⟨sH10, eO, kH10⟩ := mw sH9 nO hX; clear hX
          subst hkl
          refine ⟨ps', ord ++ [n], fs, _, _, _, by rw [Gr.steps_pop], rfl, sH10, by rw [eO, List.map_append]; rfl, (kH10 F nFO).trans eF9, (kH10 P nPO).trans eP, fun x hx => tH10 _ _ (hps9 x hx), hfl.cong fun u => by simp [or_comm, or_assoc, or_left_comm], hD.pop, fun u hu => ?_⟩
          have := hall u hu
          simp at this ⊢
          exact this
        · have hkl : k < (Gr.row g n).length := by rw [List.length_map] at cc; have hko : k ≤ (Gr.row g n).length := hko; omega
          refine ⟨_, rfl, .inl ⟨rfl, _, .of eP⟩, _, rfl, _, rfl, _, _, rfl, rfl, by show 2 ≤ sizeLine; decide, fun t2 nt2 => ?_⟩
          generalize hX : upd H9 t2 _ = H10; obtain ⟨sH10, et2⟩ := nw nt2 hX; clear hX
          have hol := nd_len hD.nd hD.lt
          simp only [List.length_append, List.length_map, List.length_reverse, List.length_cons] at hol
          refine ⟨P, _, _, rfl, rfl, sH10 _ _ eP, by rw [List.length_map]; exact Nat.lt_of_le_of_lt (show ps'.length ≤ 1000000 by omega) (by decide), ?_⟩
          have nt2P : t2 ≠ P := fun z => by rw [z, eP] at nt2; cases nt2
          have s10 := sH9.trans sH10
          have eP10 := sH10 _ _ eP
          generalize hX : upd H10 P _ = H11; have tH11 := mwt eP10 hX; clear eP10; obtain ⟨sH11, eP, kH11⟩ := mw s10 nP0 hX; clear hX
          have et2' := tH11 _ _ et2
          have eO11 := (kH11 O nPO.symm).trans (sH10 _ _ eO9)
          have eF11 := (kH11 F nPF.symm).trans (sH10 _ _ eF9)
          have hps11 : ∀ x ∈ ps', H11 x.1 = some (.tup [VN x.2.1, VN x.2.2]) := fun x hx => tH11 _ _ (sH10 _ _ (hps9 x hx))
          obtain ⟨y, hy⟩ : ∃ y, (Gr.row g n)[k]? = some y := ⟨_, List.getElem?_eq_getElem hkl⟩
          have hyl : y < g.length := ok n y (List.mem_of_getElem? hy)
          refine ⟨_, rfl, _, rfl, r, _, _, .ref a, rfl, rfl, .of (sH11 _ _ hr0), hix, _, rfl, a, _, _, VN y, rfl, rfl, .of (sH11 _ _ (ha n _ hra)), atI_nat (by rw [List.getElem?_map, hy]; rfl), ?_⟩
          obtain ⟨b2, hb3, hb4⟩ := hfl.get hyl
          refine ⟨_, rfl, _, rfl, F, _, _, .bl b2, rfl, rfl, .of eF11, atI_nat (by rw [List.getElem?_map, hb3]; rfl), b2, rfl, ?_⟩
          cases b2 with
          | true =>
            refine iteB_f (c := !true) rfl ?_
            refine ⟨ps' ++ [(t2, n, k + 1)], ord, fs, _, _, _, ?_, rfl, sH11, eO11, eF11, by rw [eP, List.map_append]; rfl, fun x hx => ?_, ?_, ?_, ?_⟩
            · rw [show ((ps' ++ [(t2, n, k + 1)]).map (·.2)).reverse = (n, k + 1) :: (ps'.map (·.2)).reverse by simp, Gr.steps_skip]
            · rcases List.mem_append.mp hx with z | z
              · exact hps11 x z
              · rw [List.mem_singleton.mp z]; exact et2'
            · exact hfl.cong fun u => by simp
            · rw [show ((ps' ++ [(t2, n, k + 1)]).map (·.2)).reverse = (n, k + 1) :: (ps'.map (·.2)).reverse by simp]
              exact hD.skip hy (hb4.mp rfl)
            · intro u hu
              have := hall u hu
              simp at this ⊢
              exact this
          | false =>
            refine iteB_t (c := !false) rfl ?_
            have hyn : y ∉ ord ++ List.map (·.1) ((n, k) :: (ps'.map (·.2)).reverse) := fun z => by have := hb4.mpr z; cases this
            have hfsl : y < (fs.map V.bl).length := by rw [List.length_map, hfl.1]; exact hyl
            refine ⟨_, rfl, _, rfl, F, _, _, y, rfl, rfl, eF11, ixN_at hfsl, ?_⟩
            rw [show (fs.map V.bl).set y (.bl true) = (fs.set y true).map V.bl by rw [List.map_set]]
            generalize hX : upd H11 F _ = H12; have tH12 := mwt eF11 hX; clear eF11; obtain ⟨sH12, eF, kH12⟩ := mw sH11 nF0 hX; clear hX
            refine ⟨_, rfl, .inl ⟨rfl, _, .of ((kH12 P nPF).trans eP)⟩, _, rfl, by show 2 ≤ sizeLine; decide, fun t3 nt3 => ?_⟩
            have eP12 := (kH12 P nPF).trans eP
            have nt3P : t3 ≠ P := fun z => by rw [z, eP12] at nt3; cases nt3
            have nFt3 : F ≠ t3 := fun z => by rw [← z, eF] at nt3; cases nt3
            generalize hX : upd H12 t3 _ = H13; obtain ⟨sH13, et3⟩ := nw nt3 hX; clear hX
            have s13 := sH12.trans sH13
            have eP13 := sH13 _ _ eP12
            refine ⟨P, _, _, rfl, rfl, eP13, by rw [List.length_append, List.length_map]; exact Nat.lt_of_le_of_lt (show ps'.length + 1 ≤ 1000000 by omega) (by decide), ?_⟩
            generalize hX : upd H13 P _ = H14; have tH14 := mwt eP13 hX; clear eP13; obtain ⟨sH14, eP, kH14⟩ := mw s13 nP0 hX; clear hX
            have hst : ((ps' ++ [((t2, n, k + 1) : Addr × Nat × Nat)] ++ [((t3, y, 0) : Addr × Nat × Nat)]).map (fun x : Addr × Nat × Nat => x.2)).reverse = (y, 0) :: (n, k + 1) :: (ps'.map (·.2)).reverse := by simp
            have hE : Gr.E g n y := List.mem_of_getElem? hy
            refine ⟨ps' ++ [(t2, n, k + 1)] ++ [(t3, y, 0)], ord, fs.set y true, _, _, _, ?_, rfl, sH14, ?_, ?_, by rw [eP]; simp, fun x hx => ?_, ?_, ?_, ?_⟩
            · rw [hst, Gr.steps_push, Gr.steps_skip]
            · rw [kH14 O nPO.symm]; exact sH13 _ _ ((kH12 O nFO.symm).trans eO11)
            · rw [kH14 F nPF.symm]; exact sH13 _ _ eF
            · rcases List.mem_append.mp hx with z | z
              · rcases List.mem_append.mp z with z | z
                · exact tH14 _ _ (sH13 _ _ (tH12 _ _ (hps11 x z)))
                · rw [List.mem_singleton.mp z]; exact tH14 _ _ (sH13 _ _ (tH12 _ _ et2'))
              · rw [List.mem_singleton.mp z]; exact tH14 _ _ et3
            · rw [hst]
              exact hfl.set fun u => by simp [or_comm, or_left_comm, or_assoc]
            · rw [hst]
              have hD2 : Gr.Dfs g ord ((n, k) :: (ps'.map (·.2)).reverse) := hD
              have hD3 := hD2.push hyl hyn fun x hx => by
                rcases List.mem_cons.mp hx with rfl | hx
                · exact .one hE
                · have hch := hD2.ch
                  rw [List.pairwise_cons] at hch
                  exact (hch.1 x hx).snoc hE
              refine hD3.skip2 hy (by simp)
            · rw [hst]
              intro u hu
              have := hall u hu
              simp at this ⊢
              rcases this with h | h | h
              · exact .inl h
              · exact .inr (.inr (.inl h))
              · exact .inr (.inr (.inr h))
      · have cc : ps = [] := by
          cases ps with
          | nil => rfl
          | cons x l => exact absurd (decide_eq_true (by simp)) cc
        subst cc
        refine ⟨ord, fs, _, _, _, _, _, rfl, s8, eO, eF, hfl.cong fun u => by simp, hD, fun u hu => ?_⟩
        have := hall u (by omega)
        simpa using this
    · rintro σ H4 ⟨ord, fs, v3, v4, v5, v6, v7, rfl, s4, eO, eF, hfl, hD, hall⟩
      exact ⟨_, rfl, q _ _ ord s4 nO eO (hD.fin hall)⟩
/-- nested lists of which each is to be changed -/
structure NL (H0 : Hp) (D : Addr) (bs : List Addr) (t : Gr.G) (H' : Hp) : Prop where
  d : H' D = some (.lst (bs.map V.ref))
  len : bs.length = t.length
  nd : bs.Nodup
  fr : ∀ b ∈ bs, H0 b = none ∧ b ≠ D
  get : ∀ i b, bs[i]? = some b → H' b = some (.lst ((Gr.row t i).map VN))
theorem NL.grl {H0 H' : Hp} {D : Addr} {bs : List Addr} {t : Gr.G} (h : NL H0 D bs t H') : GrL H' D t := ⟨bs, h.d, h.len, h.get⟩
theorem row_set (t : Gr.G) (i : Nat) (r : List Nat) (k : Nat) : Gr.row (t.set i r) k = if k = i ∧ i < t.length then r else Gr.row t k := by
  unfold Gr.row
  rw [List.getD_eq_getElem?_getD, List.getD_eq_getElem?_getD, List.getElem?_set]
  by_cases c : i = k
  · subst c
    by_cases l : i < t.length
    · rw [if_pos rfl, if_pos l, if_pos ⟨rfl, l⟩]; rfl
    · rw [if_pos rfl, if_neg l, if_neg (fun z => l z.2), List.getElem?_eq_none (by omega)]
  · rw [if_neg c, if_neg (fun z => c z.1.symm)]
theorem NL.keep {H0 H' H'' : Hp} {D : Addr} {bs : List Addr} {t : Gr.G} (s : Same H' H'') (h : NL H0 D bs t H') : NL H0 D bs t H'' := ⟨s _ _ h.d, h.len, h.nd, h.fr, fun i b e => s _ _ (h.get i b e)⟩
theorem NL.put {H0 H' : Hp} {D b : Addr} {bs : List Addr} {t : Gr.G} {i : Nat} {r : List Nat} (h : NL H0 D bs t H') (hb : bs[i]? = some b) : NL H0 D bs (t.set i r) (upd H' b (.lst (r.map VN))) := by
  have hm := List.mem_of_getElem? hb
  have hil : i < t.length := by rw [← h.len]; exact (List.getElem?_eq_some_iff.mp hb).1
  refine ⟨by rw [upd_ne (h.fr b hm).2.symm]; exact h.d, by rw [List.length_set]; exact h.len, h.nd, h.fr, fun k c hc => ?_⟩
  rw [row_set]
  by_cases e : k = i
  · subst e
    rw [hb] at hc
    obtain rfl := Option.some.inj hc
    rw [upd_same, if_pos ⟨rfl, hil⟩]
  · have : c ≠ b := fun z => by
      subst z
      exact e (nd_inj h.nd hc hb)
    rw [upd_ne this, if_neg (fun z => e z.1)]
    exact h.get k c hc
theorem NL.put_same {H0 H' : Hp} {D b : Addr} {bs : List Addr} {t : Gr.G} {o : HO} (s : Same H0 H') (h : NL H0 D bs t H') (hb : b ∈ bs) : Same H0 (upd H' b o) := fun x y e => by
  rw [upd_ne (ne_of_none e (h.fr b hb).1)]
  exact s _ _ e
/-- the edges of the nodes below i, and of i the first j, turned round -/
def RevI (g t : Gr.G) (i j : Nat) : Prop := t.length = g.length ∧ (∀ u v, Gr.E t u v ↔ ((v < i ∧ Gr.E g v u) ∨ (v = i ∧ u ∈ (Gr.row g i).take j))) ∧ ∀ u, (Gr.row t u).length ≤ Gr.below (fun u => (Gr.row g u).length) i + j
theorem RevI.zero {g : Gr.G} : RevI g (List.replicate g.length []) 0 0 := by
  have hr : ∀ u, Gr.row (List.replicate g.length ([] : List Nat)) u = [] := fun u => by
    unfold Gr.row
    rw [List.getD_eq_getElem?_getD, List.getElem?_replicate]
    split <;> rfl
  refine ⟨List.length_replicate, fun u v => ?_, fun u => by rw [hr]; exact Nat.zero_le _⟩
  unfold Gr.E
  rw [hr]
  simp
theorem RevI.next {g t : Gr.G} {i : Nat} (h : RevI g t i (Gr.row g i).length) : RevI g t (i + 1) 0 := by
  refine ⟨h.1, fun u v => ?_, fun u => h.2.2 u⟩
  rw [h.2.1, List.take_length]
  simp only [List.take_zero, List.not_mem_nil, and_false, or_false]
  constructor
  · rintro (⟨a, b⟩ | ⟨rfl, b⟩)
    · exact ⟨by omega, b⟩
    · exact ⟨by omega, b⟩
  · rintro ⟨a, b⟩
    rcases Nat.lt_succ_iff_lt_or_eq.mp a with k | rfl
    · exact .inl ⟨k, b⟩
    · exact .inr ⟨rfl, b⟩
theorem take_succ' {l : List Nat} {j v : Nat} (h : l[j]? = some v) : l.take (j + 1) = l.take j ++ [v] := by
  rw [List.take_succ, h]; rfl
theorem RevI.step {g t : Gr.G} {i j v : Nat} (h : RevI g t i j) (hv : (Gr.row g i)[j]? = some v) (hl : v < g.length) : RevI g (t.set v (Gr.row t v ++ [i])) i (j + 1) := by
  have hvt : v < t.length := by rw [h.1]; exact hl
  refine ⟨by rw [List.length_set]; exact h.1, fun u w => ?_, fun u => ?_⟩
  · unfold Gr.E
    rw [row_set, take_succ' hv]
    by_cases e : u = v
    · subst e
      rw [if_pos ⟨rfl, hvt⟩, List.mem_append, List.mem_append]
      have := h.2.1 u w
      unfold Gr.E at this
      rw [this]
      simp only [List.mem_singleton, or_true, and_true]
      constructor
      · rintro ((a | ⟨a, b⟩) | a)
        · exact .inl a
        · exact .inr a
        · exact .inr a
      · rintro (a | a)
        · exact .inl (.inl a)
        · exact .inr a
    · rw [if_neg (fun z => e z.1), List.mem_append]
      have := h.2.1 u w
      unfold Gr.E at this
      rw [this]
      simp only [List.mem_singleton, e, or_false]
  · have := h.2.2 u
    rw [row_set]
    split
    · rename_i c
      rw [List.length_append, List.length_singleton]
      have := h.2.2 v
      omega
    · omega
theorem RevI.fin {g t : Gr.G} (ok : Gr.Ok g) (h : RevI g t g.length 0) : Gr.Rev g t := by
  refine ⟨h.1, fun u v => ?_⟩
  rw [h.2.1]
  simp only [List.take_zero, List.not_mem_nil, and_false, or_false]
  exact ⟨fun z => ⟨z.2, z.1, ok _ _ z.2⟩, fun z => ⟨z.2.1, z.1⟩⟩
theorem below_mono (w : Nat → Nat) : ∀ {n m : Nat}, n ≤ m → Gr.below w n ≤ Gr.below w m
  | n, 0, h => by have : n = 0 := by omega
                  rw [this]; exact Nat.le_refl _
  | n, m + 1, h => by
    rcases Nat.lt_or_eq_of_le h with k | k
    · have := below_mono w (Nat.le_of_lt_succ k)
      show _ ≤ Gr.below w m + w m
      omega
    · rw [k]; exact Nat.le_refl _
def Small (g : Gr.G) : Prop := g.length ≤ 100000 ∧ Gr.below (fun u => (Gr.row g u).length) g.length ≤ 1000000
def spRevL : Sp := fun vs H Q _ => ∃ (r : Addr) (g : Gr.G), vs = [.ref r] ∧ GrL H r g ∧ Gr.Ok g ∧ Small g ∧
  ∀ (H' : Hp) (y : Addr) (t : Gr.G), Same H H' → H y = none → GrL H' y t → Gr.Rev g t → Q (.ref y) H'
theorem cal_revL (T : Txt K mg) : C8.Cal P w K mg base 1 "reversed_graph" spRevL [] := by
  obtain ⟨f, fd, F, hm, hb⟩ := T.h_reversed_graph
  refine ⟨f, fd, _, [], F.ok sc_reversed_graph (fun vs H Q E h => ?_) (fun cdv A outer s H vs Q E hr h => ?_), hm, F.kp, hb, .nil⟩
  · obtain ⟨r, g, rfl, _⟩ := h
    rfl
  · obtain ⟨r, g, rfl, hG, ok, ⟨hn, hsm⟩, q⟩ := h
    refine ⟨_, (pss_cons
      (ps_setLc (i := 1) (own := [("_", 5)]) (g := gName 5) (tt := tYes) rfl sc_reversed_graph.nd rfl rfl (sw_true rfl rfl rfl (by decide +kernel)) (pi_list (pv 0)) (blkOk_by (N := N_reversed_graph) (sc := defScope s_reversed_graph) (by decide +kernel)) (fun _ _ _ _ _ => (pg_name (i := 5) sc_reversed_graph.nd rfl (Or.inl rfl))) (fun _ _ _ _ _ => pts_nil) (fun _ _ _ _ _ => (pe_lst pa_nil)))
      (pss_cons
      (ps_for PassesOwn.never rfl (pi_enum (by rfl) T.z_enumerate (pa_cons (pv 0) pa_nil)) (pg_tup (by rfl) (pgs_cons (pg_name (i := 2) sc_reversed_graph.nd rfl (.inl rfl)) (pgs_cons (pg_name (i := 3) sc_reversed_graph.nd rfl (.inl rfl)) pgs_nil))) (pss_one
      (ps_for PassesOwn.never rfl (pi_list (pv 3)) (pg_name (i := 4) sc_reversed_graph.nd rfl (.inl rfl)) (pss_one
      (ps_expr (pe_bm PySem.F.plainAttrs_list PySem.F.slot_list_append PySem.F.type_list_append mt_append (pe_ix (ix_listK (K := K) rfl) (pv 1) (pv 4) (fun _ _ => rfl)) (pa_cons (pv 2) pa_nil)))))))
      (pss_one
      (ps_ret (pv 1))))), ?_⟩
    obtain ⟨as, hr0, hal, ha⟩ := hG
    have hl2 : (as.map V.ref).length = g.length := by rw [List.length_map, hal]
    refine ⟨_, rfl, r, rfl, ⟨_, .of hr0⟩, fun D nD => lc_list (K := K) (a := r) (xs := as.map V.ref) (fun i H' => ∃ bs : List Addr, Same H H' ∧ NL H D bs (List.replicate i []) H')
      ⟨[], same_new nD, upd_same, rfl, by simp, by simp, by simp⟩ (fun i H' _ ⟨_, z, _⟩ => .of (z _ _ hr0)) ?_ ?_⟩
    · rintro i v H2 hi ⟨bs, s2, h2⟩
      have hil : i < g.length := by rw [← hl2]; exact (List.getElem?_eq_some_iff.mp hi).1
      refine ⟨rfl, Nat.zero_le _, fun t nt => ?_⟩
      generalize hX : upd H2 t _ = H3; obtain ⟨sH3, et⟩ := nw nt hX; clear hX
      have h3 := h2.keep sH3
      have hbl : bs.length = i := by rw [h2.len, List.length_replicate]
      have ntD : t ≠ D := fun z => by rw [z, h2.d] at nt; cases nt
      have ntb : t ∉ bs := fun z => by
        obtain ⟨j, hj⟩ := List.mem_iff_getElem?.mp z
        rw [h2.get j t hj] at nt
        cases nt
      refine ⟨_, h3.d, by rw [List.length_map]; exact Nat.lt_of_le_of_lt (show bs.length ≤ 100000 by omega) (by decide), bs ++ [t], ?_, ?_, ?_, List.nodup_append.mpr ⟨h2.nd, by simp, fun a ha b hb' => by rw [List.mem_singleton.mp hb']; exact fun z => ntb (z ▸ ha)⟩, fun b hb' => ?_, fun j b hj => ?_⟩
      · have s3 := s2.trans sH3
        exact fun x y e => by rw [upd_ne (ne_of_none e nD)]; exact s3 _ _ e
      · rw [upd_same, List.map_append]; rfl
      · rw [List.length_append, hbl]; simp
      · rcases List.mem_append.mp hb' with z | z
        · exact h2.fr b z
        · rw [List.mem_singleton.mp z]; exact ⟨s2.free nt, ntD⟩
      · rcases snocg hj with ⟨_, z⟩ | ⟨_, z⟩
        · rw [upd_ne (h2.fr b (List.mem_of_getElem? z)).2, h3.get j b z, show Gr.row (List.replicate i ([] : List Nat)) j = [] from by unfold Gr.row; rw [List.getD_eq_getElem?_getD, List.getElem?_replicate]; split <;> rfl, show Gr.row (List.replicate (i + 1) ([] : List Nat)) j = [] from by unfold Gr.row; rw [List.getD_eq_getElem?_getD, List.getElem?_replicate]; split <;> rfl]
        · rw [z, upd_ne ntD, et, show Gr.row (List.replicate (i + 1) ([] : List Nat)) j = [] from by unfold Gr.row; rw [List.getD_eq_getElem?_getD, List.getElem?_replicate]; split <;> rfl]; rfl
    rintro H2 ⟨bs, s2, h2⟩
    rw [hl2] at h2
    have hdeg : ∀ i, i < g.length → Gr.below (fun u => (Gr.row g u).length) i + (Gr.row g i).length ≤ 1000000 := fun i hi => Nat.le_trans (below_mono (fun u => (Gr.row g u).length) (show i + 1 ≤ g.length from hi)) hsm
    refine ⟨_, rfl, r, _, rfl, .of (s2 _ _ hr0), ?_⟩
    refine for_it (walk_enum (K := K) (a := r) (xs := as.map V.ref)) (fun i σ H' => ∃ (v2 v3 v4 v5 : Option V) (t : Gr.G), σ = [some (.ref r), some (.ref D), v2, v3, v4, v5] ∧ Same H H' ∧ NL H D bs t H' ∧ RevI g t i 0)
      ⟨none, none, none, none, _, rfl, s2, h2, RevI.zero⟩ (fun i σ H' _ ⟨_, _, _, _, _, _, z, _⟩ => .of (z _ _ hr0)) ?_ ?_
    · clear s2 h2
      rintro i v σ H3 H4 hi ⟨v2, v3, v4, v5, t, rfl, s3, h3, hR⟩ ⟨p, xi, y, rfl, np, rfl, hx, hy⟩
      obtain rfl := Option.some.inj hx
      obtain ⟨a, hia, rfl⟩ := refsg hy
      have hil : i < g.length := by rw [← hal]; exact lt_of_get hia
      have hra := ha i a hia
      generalize hX : upd H3 p _ = H4; obtain ⟨sH4, ep⟩ := nw np hX; clear hX
      have s4 := s3.trans sH4
      have h4 := h3.keep sH4
      refine ⟨p, _, rfl, .of ep, rfl, _, _, rfl, _, _, rfl, rfl, ?_⟩
      refine ⟨_, rfl, a, rfl, ⟨_, .of (s4 _ _ hra)⟩, for_list (K := K) (a := a) (xs := (Gr.row g i).map VN) (fun j σ H' => ∃ (v4 v5 : Option V) (t : Gr.G), σ = [some (.ref r), some (.ref D), some (VN i), some (.ref a), v4, v5] ∧ Same H H' ∧ NL H D bs t H' ∧ RevI g t i j)
        ⟨v4, v5, t, rfl, s4, h4, hR⟩ (fun j σ H' _ ⟨_, _, _, _, z, _⟩ => .of (z _ _ hra)) ?_ ?_⟩
      · clear s4 h4 hR
        rintro j v σ H5 hj ⟨v4, v5, t, rfl, s5, h5, hR⟩
        obtain ⟨y, hy, rfl⟩ := nats_get hj
        have hyl := ok i y (List.mem_of_getElem? hy)
        have hyb : y < bs.length := by rw [h5.len, hR.1]; exact hyl
        have hbb := List.getElem?_eq_getElem hyb
        have eb := h5.get y _ hbb
        have hjl := lt_of_get hy
        have hll := hR.2.2 y
        have := hdeg i hil
        refine ⟨_, rfl, _, rfl, D, _, _, .ref bs[y], rfl, rfl, .of h5.d, atN hbb, .inl ⟨rfl, _, .of eb⟩, _, rfl, bs[y], _, _, rfl, rfl, eb, by rw [List.length_map]; exact Nat.lt_of_le_of_lt (show (Gr.row t y).length ≤ 1000000 by omega) (by decide), ?_⟩
        rw [show (Gr.row t y).map VN ++ [VN i] = (Gr.row t y ++ [i]).map VN by rw [List.map_append]; rfl]
        exact ⟨_, _, _, rfl, h5.put_same s5 (List.mem_of_getElem? hbb), h5.put hbb, hR.step hy hyl⟩
      · rintro σ H5 ⟨v4, v5, t, rfl, s5, h5, hR⟩
        rw [List.length_map] at hR
        exact ⟨_, _, _, _, t, rfl, s5, h5, hR.next⟩
    · rintro σ H3 ⟨v2, v3, v4, v5, t, rfl, s3, h3, hR⟩
      rw [hl2] at hR
      exact ⟨_, rfl, q H3 D t s3 nD h3.grl (hR.fin ok)⟩
def hv (o : Option Nat) : V := .int (match o with | none => -1 | some i => (i : Int))
def nn : List (Option Nat) → Nat
  | [] => 0
  | none :: l => nn l + 1
  | some _ :: l => nn l
theorem nn_set {c : Nat} : ∀ {hs : List (Option Nat)} {u : Nat}, hs[u]? = some none → nn (hs.set u (some c)) + 1 = nn hs
  | [], _, h => by simp at h
  | none :: l, 0, _ => rfl
  | some _ :: l, 0, h => by simp at h
  | none :: l, u + 1, h => by
    have := nn_set (c := c) (hs := l) (u := u) (by simpa using h)
    show nn (l.set u (some c)) + 1 + 1 = nn l + 1
    omega
  | some _ :: l, u + 1, h => by
    have := nn_set (c := c) (hs := l) (u := u) (by simpa using h)
    exact this
theorem nn_le : ∀ hs : List (Option Nat), nn hs ≤ hs.length
  | [] => Nat.le_refl 0
  | none :: l => Nat.succ_le_succ (nn_le l)
  | some _ :: l => Nat.le_succ_of_le (nn_le l)
def hof (hs : List (Option Nat)) (u : Nat) : Option Nat := (hs[u]?).join
theorem hof_some {hs : List (Option Nat)} {u : Nat} {o : Option Nat} (h : hs[u]? = some o) : hof hs u = o := by unfold hof; rw [h]; rfl
theorem hof_set {hs : List (Option Nat)} {u c : Nat} (h : u < hs.length) (x : Nat) : hof (hs.set u (some c)) x = if x = u then some c else hof hs x := by
  unfold hof
  rw [List.getElem?_set]
  by_cases e : u = x
  · subst e; rw [if_pos rfl, if_pos rfl, if_pos h]; rfl
  · rw [if_neg e, if_neg (fun z => e z.symm)]
/-- what a search backwards from s keeps -/
structure Bw (g t : Gr.G) (h0 h : Nat → Option Nat) (c s : Nat) (ws : List Nat) (cur : Nat) (dn : List Nat) : Prop where
  old : ∀ u i, h0 u = some i → h u = some i
  new : ∀ u i, h0 u = none → h u = some i → i = c ∧ u < g.length ∧ Gr.Rc g u s
  cl : ∀ u, h0 u = none → h u = some c → u ∈ ws ∨ (u = cur ∧ ∀ x ∈ dn, h x ≠ none) ∨ ∀ x ∈ Gr.row t u, h x ≠ none
  ws : ∀ u ∈ ws, h0 u = none ∧ h u = some c
  st : h s = some c
theorem Bw.start {g t : Gr.G} {h0 h : Nat → Option Nat} {c s : Nat} (hs : h0 s = none) (hl : s < g.length) (e : ∀ x, h x = if x = s then some c else h0 x) {d : Nat} {dn : List Nat} : Bw g t h0 h c s [s] d dn := by
  refine ⟨fun u i k => ?_, fun u i k1 k2 => ?_, fun u k1 k2 => ?_, fun u hu => ?_, by rw [e, if_pos rfl]⟩
  · rw [e, if_neg (fun z => by rw [z, hs] at k; cases k)]
    exact k
  · rw [e] at k2
    split at k2
    · rename_i z
      subst z
      exact ⟨(Option.some.inj k2).symm, hl, .refl _⟩
    · rw [k1] at k2; cases k2
  · rw [e] at k2
    split at k2
    · rename_i z
      exact .inl (by rw [z]; simp)
    · rw [k1] at k2; cases k2
  · rw [List.mem_singleton.mp hu]
    exact ⟨hs, by rw [e, if_pos rfl]⟩
theorem Bw.pop {g t : Gr.G} {h0 h : Nat → Option Nat} {c s cur d : Nat} {ws dn : List Nat} (k : Bw g t h0 h c s (ws ++ [cur]) d dn) (hd : dn = Gr.row t d) : Bw g t h0 h c s ws cur [] := by
  refine ⟨k.old, k.new, fun u k1 k2 => ?_, fun u hu => k.ws u (List.mem_append.mpr (.inl hu)), k.st⟩
  rcases k.cl u k1 k2 with z | ⟨z, y⟩ | z
  · rcases List.mem_append.mp z with z | z
    · exact .inl z
    · exact .inr (.inl ⟨List.mem_singleton.mp z, by simp⟩)
  · exact .inr (.inr (by rw [z, ← hd]; exact y))
  · exact .inr (.inr z)
theorem Bw.seen {g t : Gr.G} {h0 h : Nat → Option Nat} {c s cur x : Nat} {ws dn : List Nat} (k : Bw g t h0 h c s ws cur dn) (hx : h x ≠ none) : Bw g t h0 h c s ws cur (dn ++ [x]) := by
  refine ⟨k.old, k.new, fun u k1 k2 => ?_, k.ws, k.st⟩
  rcases k.cl u k1 k2 with z | ⟨z, y⟩ | z
  · exact .inl z
  · refine .inr (.inl ⟨z, fun y' hy => ?_⟩)
    rcases List.mem_append.mp hy with w | w
    · exact y y' w
    · rw [List.mem_singleton.mp w]; exact hx
  · exact .inr (.inr z)
theorem Bw.push {g t : Gr.G} {h0 h h' : Nat → Option Nat} {c s cur x : Nat} {ws dn : List Nat} (k : Bw g t h0 h c s ws cur dn) (hx : h x = none) (hl : x < g.length) (hr : Gr.Rc g x s) (e : ∀ y, h' y = if y = x then some c else h y) : Bw g t h0 h' c s (ws ++ [x]) cur (dn ++ [x]) := by
  have up : ∀ y i, h y = some i → h' y = some i := fun y i z => by
    rw [e, if_neg (fun w => by rw [w, hx] at z; cases z)]; exact z
  have upn : ∀ y, h y ≠ none → h' y ≠ none := fun y z w => by
    cases q : h y with
    | none => exact z q
    | some i => rw [up y i q] at w; cases w
  have h0x : h0 x = none := by
    cases q : h0 x with
    | none => rfl
    | some i => rw [k.old x i q] at hx; cases hx
  have xx : h' x = some c := by rw [e, if_pos rfl]
  refine ⟨fun u i z => up u i (k.old u i z), fun u i k1 k2 => ?_, fun u k1 k2 => ?_, fun u hu => ?_, up _ _ k.st⟩
  · by_cases z : u = x
    · subst z
      rw [xx] at k2
      exact ⟨(Option.some.inj k2).symm, hl, hr⟩
    · rw [e, if_neg z] at k2
      exact k.new u i k1 k2
  · by_cases z : u = x
    · exact .inl (by rw [z]; simp)
    · rw [e, if_neg z] at k2
      rcases k.cl u k1 k2 with w | ⟨w, y⟩ | w
      · exact .inl (List.mem_append.mpr (.inl w))
      · refine .inr (.inl ⟨w, fun y' hy => ?_⟩)
        rcases List.mem_append.mp hy with v | v
        · exact upn _ (y y' v)
        · rw [List.mem_singleton.mp v, xx]; simp
      · exact .inr (.inr fun y hy => upn _ (w y hy))
  · rcases List.mem_append.mp hu with z | z
    · exact ⟨(k.ws u z).1, up _ _ (k.ws u z).2⟩
    · rw [List.mem_singleton.mp z]; exact ⟨h0x, xx⟩
theorem Bw.fin {g t : Gr.G} {h0 h : Nat → Option Nat} {c s d : Nat} {dn : List Nat} (ok : Gr.Ok g) (rv : Gr.Rev g t) (C : Gr.Cmp g h0 c) (hsl : s < g.length) (k : Bw g t h0 h c s [] d dn) (hd : dn = Gr.row t d) : ∀ u, u < g.length → Gr.Rc g u s → h0 u = none → h u = some c := by
  intro u hu r
  revert hu
  induction r with
  | refl u => intro _ _; exact k.st
  | @step u v w e r ih =>
    intro hu h0u
    have hv := ok u v e
    cases q : h0 v with
    | some i =>
      obtain ⟨j, hj, _⟩ := C.ed u v i e hu q
      rw [hj] at h0u
      cases h0u
    | none =>
      have hvc := ih hsl k hv q
      have e2 : Gr.E t v u := (rv.2 u v).mpr ⟨e, hu, hv⟩
      have : h u ≠ none := by
        rcases k.cl v q hvc with z | ⟨z, y⟩ | z
        · cases z
        · subst z; subst hd; exact y u e2
        · exact z u e2
      cases q2 : h u with
      | none => exact absurd q2 this
      | some i => rw [(k.new u i h0u q2).1]
theorem Gr.Cmp.done {g : Gr.G} {hs : List (Option Nat)} {c : Nat} (C : Gr.Cmp g (hof hs) c) (hl : hs.length = g.length) (all : ∀ u, u < g.length → hof hs u ≠ none) : ∃ h : List Nat, hs = h.map some ∧ Gr.Comps g h c := by
  have hex : ∃ h : List Nat, hs = h.map some := by
    have key : ∀ l : List (Option Nat), (∀ o ∈ l, o ≠ none) → ∃ h : List Nat, l = h.map some := by
      intro l
      induction l with
      | nil => intro _; exact ⟨[], rfl⟩
      | cons o l ih =>
        intro hh
        obtain ⟨h, e⟩ := ih fun o' ho => hh o' (List.mem_cons_of_mem _ ho)
        cases o with
        | none => exact absurd rfl (hh none List.mem_cons_self)
        | some i => exact ⟨i :: h, by rw [e]; rfl⟩
    refine key hs fun o ho e => ?_
    obtain ⟨u, hu⟩ := List.mem_iff_getElem?.mp ho
    refine all u (by rw [← hl]; exact lt_of_get hu) ?_
    rw [hof_some hu, e]
  obtain ⟨h, rfl⟩ := hex
  have hg : ∀ {u i : Nat}, h[u]? = some i → hof (h.map some) u = some i := fun {u i} e => by
    unfold hof
    rw [List.getElem?_map, e]; rfl
  have hg' : ∀ {u i : Nat}, hof (h.map some) u = some i → h[u]? = some i := fun {u i} e => by
    unfold hof at e
    rw [List.getElem?_map] at e
    cases q : h[u]? with
    | none => rw [q] at e; cases e
    | some j => rw [q] at e; exact e
  rw [List.length_map] at hl
  refine ⟨h, rfl, hl, fun i hi => ?_, fun u v i j e1 e2 => C.eq u v i j (hg e1) (hg e2), fun u v i j e e1 e2 => ?_, fun i hi => ?_⟩
  · obtain ⟨u, hu⟩ := List.mem_iff_getElem?.mp hi
    exact (C.lt u i (hg hu)).1
  · obtain ⟨i', h1, h2⟩ := C.ed u v j e (by rw [← hl]; exact lt_of_get e1) (hg e2)
    rw [hg e1] at h1
    obtain rfl := Option.some.inj h1
    exact h2
  · obtain ⟨u, hu⟩ := C.us i hi
    exact List.mem_of_getElem? (hg' hu)
theorem rev_split {l : List Nat} {i s : Nat} (h : l.reverse[i]? = some s) : ∃ A B, l = A ++ s :: B ∧ ∀ b ∈ B, b ∈ l.reverse.take i := by
  have hl := lt_of_get h
  have e : l.reverse = l.reverse.take i ++ s :: l.reverse.drop (i + 1) := by
    conv => lhs; rw [← List.take_append_drop i l.reverse]
    congr 1
    exact List.drop_eq_getElem?_toList_append.trans (by rw [h]; rfl)
  refine ⟨(l.reverse.drop (i + 1)).reverse, (l.reverse.take i).reverse, ?_, fun b hb => List.mem_reverse.mp hb⟩
  have := congrArg List.reverse e
  rw [List.reverse_reverse] at this
  exact this.trans (by simp)
def spComp : Sp := fun vs H Q _ => ∃ (r : Addr) (g : Gr.G), vs = [.ref r] ∧ GrL H r g ∧ Gr.Ok g ∧ Small g ∧
  ∀ (H' : Hp) (y : Addr) (h : List Nat) (c : Nat), Same H H' → H y = none → H' y = some (.lst (h.map VN)) → Gr.Comps g h c → Q (.ref y) H'
def CmI (r y M W X : Addr) (g t : Gr.G) (h0 : Nat → Option Nat) (xo : HO) (c s : Nat) (H : Hp) (m : Nat) (σ : L2.St) (H' : Hp) : Prop := ∃ (hs : List (Option Nat)) (ws : List Nat) (d : Nat) (v6 : Option V), m = nn hs + ws.length ∧ σ = [some (.ref r), some (.ref y), some (.ref M), some (VN c), some (VN s), some (.ref W), v6] ∧ Same H H' ∧ H' M = some (.lst (hs.map hv)) ∧ H' W = some (.lst (ws.map VN)) ∧ H' X = some xo ∧ hs.length = g.length ∧ nn hs + ws.length ≤ g.length ∧ Bw g t h0 (hof hs) c s ws d (Gr.row t d)
theorem cal_comp (T : Txt K mg) : C8.Cal P w K mg base 2 "components" spComp [] := by
  have C_reversed_graph : C8.Cal P w K mg base 1 "reversed_graph" spRevL [] := cal_revL T
  have C_finishing_order : C8.Cal P w K mg base 1 "finishing_order" spFin [] := cal_fin T
  obtain ⟨f, fd, F, hm, hb⟩ := T.h_components
  refine ⟨f, fd, _, [], F.ok sc_components (fun vs H Q E h => ?_) (fun cdv A outer s H vs Q E hr h => ?_), hm, F.kp, hb, .nil⟩
  · obtain ⟨r, g, rfl, _⟩ := h
    rfl
  · obtain ⟨r, g, rfl, hG, ok, hsm, q⟩ := h
    refine ⟨_, (pss_cons
      (ps_set (i := 1) sc_components.nd rfl (Or.inl rfl) (C8.pe_c C_reversed_graph hr (by decide) (by rfl) (pa_cons (pv 0) pa_nil)))
      (pss_cons
      (ps_set (i := 2) sc_components.nd rfl (Or.inl rfl) (pe_op op_rep (pe_lst (pa_cons (pe_un un_neg pe_int) pa_nil)) (pe_callB (call_lenK (K := K) rfl) (by rfl) T.z_len PySem.boot_len (pa_cons (pv 0) pa_nil))))
      (pss_cons
      (ps_set (i := 3) sc_components.nd rfl (Or.inl rfl) pe_int)
      (pss_cons
      (ps_for PassesOwn.never rfl (pi_list (pe_revLK (K := K) rfl (C8.pe_c C_finishing_order hr (by decide) (by rfl) (pa_cons (pv 0) pa_nil)))) (pg_name (i := 4) sc_components.nd rfl (.inl rfl)) (pss_cons
      (ps_if (pt_cmpR op_ge (pe_ix (ix_listK (K := K) rfl) (pv 2) (pv 4) (fun _ _ => rfl)) pe_int (nomark _)) (pss_one
      ps_continue) pss_nil)
      (pss_cons
      (ps_asg (pv 3) (pg_sub (pv 2) (pv 4) set_list))
      (pss_cons
      (ps_set (i := 5) sc_components.nd rfl (Or.inl rfl) (pe_lst (pa_cons (pv 4) pa_nil)))
      (C8.pss_cut
      (ps_while PassesOwn.never (pt_cmpR op_gt (pe_callB (call_lenK (K := K) rfl) (by rfl) T.z_len PySem.boot_len (pa_cons (pv 5) pa_nil)) pe_int (nomark _)) (pss_one
      (ps_for PassesOwn.never rfl (pi_list (pe_ix (ix_listK (K := K) rfl) (pv 1) (pe_bm0 PySem.F.plainAttrs_list PySem.F.slot_list_pop PySem.F.type_list_pop mt_pop (pv 5)) (fun _ _ => rfl))) (pg_name (i := 6) sc_components.nd rfl (.inl rfl)) (pss_one
      (ps_if (pt_cmpR op_lt (pe_ix (ix_listK (K := K) rfl) (pv 2) (pv 6) (fun _ _ => rfl)) pe_int (nomark _)) (pss_cons
      (ps_asg (pv 3) (pg_sub (pv 2) (pv 6) set_list))
      (pss_one
      (ps_expr (pe_bm PySem.F.plainAttrs_list PySem.F.slot_list_append PySem.F.type_list_append mt_append (pv 5) (pa_cons (pv 6) pa_nil))))) pss_nil)))))
      (pss_one
      (ps_aug (i := 3) sc_components.nd rfl (.inl rfl) pe_int ip_add)))))))
      (pss_one
      (ps_ret (pv 2))))))), ?_⟩
    have hn := hsm.1
    refine ⟨_, rfl, r, g, rfl, hG, ok, hsm, fun H1 y t s1 ny hT hrev => ?_⟩
    obtain ⟨as, hr0, hal, ha⟩ := id hG
    obtain ⟨bs, ey, hbl, hbr⟩ := id hT
    refine ⟨_, rfl, by show 1 ≤ sizeLine; decide, fun l nl => ?_⟩
    generalize hX : upd H1 l _ = H2; obtain ⟨sH2, el⟩ := nw nl hX; clear hX
    have s2 := s1.trans sH2
    refine ⟨_, rfl, r, _, rfl, .inl (.of (s2 _ _ hr0)), l, _, _, rfl, rfl, el, by omega, by rw [List.length_map]; omega, ?_, fun M nM => ?_⟩
    · rw [List.length_map, hal, Int.toNat_natCast]
      show 1 * g.length ≤ 16777216
      omega
    rw [List.length_map, hal, Int.toNat_natCast, show (List.replicate g.length [V.int (-1)]).flatten = (List.replicate g.length (none : Option Nat)).map hv by simp [hv]]
    have nM1 := sH2.free nM
    generalize hX : upd H2 M _ = H3; obtain ⟨sH3, eM⟩ := nw nM hX; clear hX
    have s3 := sH2.trans sH3
    refine ⟨_, rfl, r, g, rfl, hG.same (s1.trans s3), ok, by omega, fun H4 o ord s4 no eo hfin => ?_⟩
    have nMo : o ≠ M := fun z => by rw [z, eM] at no; cases no
    refine ⟨o, _, rfl, .of eo, fun X nX => ?_⟩
    generalize hX : upd H4 X _ = H5; obtain ⟨sH5, eX⟩ := nw nX hX; clear hX
    have s5 := (s3.trans s4).trans sH5
    have nX0 := (s3.trans s4).free nX
    have eM5 := sH5 _ _ (s4 _ _ eM)
    have nXM : X ≠ M := fun z => by rw [z, s4 _ _ eM] at nX; cases nX
    rw [show (ord.map VN).reverse = ord.reverse.map VN by rw [List.map_reverse]] at eX
    clear eM sH5 s4 sH3 s3 sH2 eo
    refine ⟨X, rfl, ⟨_, .of eX⟩, ?_⟩
    refine for_list (K := K) (a := X) (xs := ord.reverse.map VN) (fun i σ H' => ∃ (hs : List (Option Nat)) (c : Nat) (v4 v5 v6 : Option V), σ = [some (.ref r), some (.ref y), some (.ref M), some (VN c), v4, v5, v6] ∧ Same H1 H' ∧ H' M = some (.lst (hs.map hv)) ∧ H' X = some (.lst (ord.reverse.map VN)) ∧ hs.length = g.length ∧ Gr.Cmp g (hof hs) c ∧ ∀ b ∈ ord.reverse.take i, hof hs b ≠ none)
      ⟨_, 0, _, _, _, rfl, s5, eM5, eX, List.length_replicate, ?_, by simp⟩ (fun i σ H' _ ⟨_, _, _, _, _, _, _, _, z, _⟩ => .of z) ?_ ?_
    · rw [show hof (List.replicate g.length (none : Option Nat)) = fun _ => none from by
        funext u
        unfold hof
        rw [List.getElem?_replicate]
        split <;> rfl]
      exact Gr.Cmp.nil g
    · clear s5 eM5 eX
      rintro i v σ H6 hi ⟨hs, c, v4, v5, v6, rfl, s6, eM, eX, hl, hC, hbs⟩
      obtain ⟨st, hst, rfl⟩ := nats_get hi
      obtain ⟨A, B, eAB, hB⟩ := rev_split hst
      have hsl : st < g.length := (hfin.all st).mp (List.mem_reverse.mp (List.mem_of_getElem? hst))
      have hso : hs[st]? = some hs[st] := List.getElem?_eq_getElem (by rw [hl]; exact hsl)
      have hof_st := hof_some hso
      generalize hs[st] = ho at hso hof_st
      refine ⟨_, rfl, _, rfl, M, _, _, hv ho, rfl, rfl, .of eM, atN hso, _, _, rfl, rfl, _, rfl, ?_⟩
      cases ho with
      | some j =>
        refine iteB_t (decide_eq_true (Int.natCast_nonneg j)) ⟨hs, c, _, _, _, rfl, s6, eM, eX, hl, hC, fun b hb => ?_⟩
        rw [take_succ' hst] at hb
        rcases List.mem_append.mp hb with z | z
        · exact hbs b z
        · rw [List.mem_singleton.mp z, hof_st]; simp
      | none =>
        refine iteB_f rfl ?_
        refine ⟨_, rfl, _, rfl, _, rfl, M, _, _, st, rfl, rfl, eM, ixN_at (by rw [List.length_map, hl]; exact hsl), ?_⟩
        rw [show (hs.map hv).set st (VN c) = (hs.set st (some c)).map hv by rw [List.map_set]; rfl]
        generalize hX : upd H6 M _ = H7; have tH7 := mwt eM hX; clear eM; obtain ⟨sH7, eM, kH7⟩ := mw s6 nM1 hX; clear hX
        refine ⟨_, rfl, by show 1 ≤ sizeLine; decide, fun W nW => ?_⟩
        have eX7 := (kH7 X nXM).trans eX
        have nWM : W ≠ M := fun z => by rw [z, eM] at nW; cases nW
        have nWX : W ≠ X := fun z => by rw [z, eX7] at nW; cases nW
        have nW1 := sH7.free nW
        generalize hX : upd H7 W _ = H8; obtain ⟨sH8, eW⟩ := nw nW hX; clear hX
        have s8 := sH7.trans sH8
        have hB' : ∀ b ∈ B, hof hs b ≠ none := fun b hb => hbs b (hB b hb)
        rw [eAB] at hfin
        refine ⟨fun σ H' => ∃ (hs' : List (Option Nat)) (d : Nat) (v6 : Option V), σ = [some (.ref r), some (.ref y), some (.ref M), some (VN c), some (VN st), some (.ref W), v6] ∧ Same H1 H' ∧ H' M = some (.lst (hs'.map hv)) ∧ H' X = some (.lst (ord.reverse.map VN)) ∧ hs'.length = g.length ∧ Bw g t (hof hs) (hof hs') c st [] d (Gr.row t d), ?_, ?_⟩
        · refine ⟨CmI r y M W X g t (hof hs) (.lst (ord.reverse.map VN)) c st H1, ⟨_, hs.set st (some c), [st], g.length, _, rfl, rfl, s8, sH8 _ _ eM, eW, sH8 _ _ eX7, by rw [List.length_set]; exact hl, by rw [← hl, List.length_singleton, nn_set hso]; exact nn_le hs, ?_⟩, ?_⟩
          · exact Bw.start hof_st hsl fun x => hof_set (by rw [hl]; exact hsl) x
          rintro m σ H9 ⟨hs', ws, d, v6, rfl, rfl, s9, eM, eW, eX, hl', hbd, hW⟩
          refine ⟨_, rfl, W, _, rfl, .inl (.of eW), _, _, rfl, rfl, _, rfl, ite2 (fun cc => ?_) (fun cc => ?_)⟩
          · obtain ⟨ws', w0, rfl⟩ : ∃ ws' x, ws = ws' ++ [x] := by
              rcases List.eq_nil_or_concat ws with rfl | ⟨a, b, rfl⟩
              · exact absurd cc (by decide)
              · exact ⟨a, b, List.concat_eq_append⟩
            have hw0 := hW.ws w0 (by simp)
            have hw0l := (hW.new w0 c hw0.1 hw0.2).2.1
            have hw0r := (hW.new w0 c hw0.1 hw0.2).2.2
            obtain ⟨a, hrb⟩ : ∃ a, bs[w0]? = some a := ⟨_, List.getElem?_eq_getElem (by rw [hbl, hrev.1]; exact hw0l)⟩
            have hrow := hbr w0 _ hrb
            rw [List.length_append, List.length_singleton] at hbd
            refine ⟨CmI r y M W X g t (hof hs) (.lst (ord.reverse.map VN)) c st H1 (nn hs' + ws'.length), fun σ' H'' z => ⟨_, by rw [List.length_append, List.length_singleton]; omega, z⟩, ?_⟩
            refine ⟨_, rfl, _, rfl, .inl ⟨rfl, _, .of eW⟩, W, _, VN w0, rfl, rfl, eW, by simp, ?_⟩
            rw [show ((ws' ++ [w0]).map VN).dropLast = ws'.map VN by simp]
            generalize hX : upd H9 W _ = H10; have tH10 := mwt eW hX; clear eW; obtain ⟨sH10, eW, kH10⟩ := mw s9 nW1 hX; clear hX
            have eM10 := (kH10 M nWM.symm).trans eM
            have eX10 := (kH10 X nWX.symm).trans eX
            refine ⟨y, _, _, .ref a, rfl, rfl, .of (sH10 _ _ ey), atN hrb, a, rfl, ⟨_, .of (sH10 _ _ hrow)⟩, ?_⟩
            refine for_list (K := K) (a := a) (xs := (Gr.row t w0).map VN) (fun j σ H' => ∃ (hs2 : List (Option Nat)) (ws2 : List Nat) (v6 : Option V), σ = [some (.ref r), some (.ref y), some (.ref M), some (VN c), some (VN st), some (.ref W), v6] ∧ Same H1 H' ∧ H' M = some (.lst (hs2.map hv)) ∧ H' W = some (.lst (ws2.map VN)) ∧ H' X = some (.lst (ord.reverse.map VN)) ∧ hs2.length = g.length ∧ nn hs2 + ws2.length = nn hs' + ws'.length ∧ Bw g t (hof hs) (hof hs2) c st ws2 w0 ((Gr.row t w0).take j))
              ⟨hs', ws', _, rfl, sH10, eM10, eW, eX10, hl', rfl, hW.pop rfl⟩ (fun j σ H' _ ⟨_, _, _, _, z, _⟩ => .of (z _ _ hrow)) ?_ ?_
            · clear sH10 eM10 eW eX10 hl' hW eM eX
              rintro j v σ H11 hj ⟨hs2, ws2, v6, rfl, s11, eM, eW, eX, hl2, hnn, hW⟩
              obtain ⟨x, hx, rfl⟩ := nats_get hj
              have hE : Gr.E t w0 x := List.mem_of_getElem? hx
              have hxg := (hrev.2 x w0).mp hE
              have hxo : hs2[x]? = some hs2[x] := List.getElem?_eq_getElem (by rw [hl2]; exact hxg.2.1)
              generalize hs2[x] = ho at hxo
              refine ⟨_, rfl, _, rfl, M, _, _, hv ho, rfl, rfl, .of eM, atN hxo, _, _, rfl, rfl, _, rfl, ?_⟩
              cases ho with
              | some i' =>
                refine iteB_f (decide_eq_false (by show ¬ ((i' : Int) < 0); omega)) ⟨hs2, ws2, _, rfl, s11, eM, eW, eX, hl2, hnn, ?_⟩
                rw [take_succ' hx]
                exact hW.seen (by rw [hof_some hxo]; simp)
              | none =>
                refine iteB_t (decide_eq_true (by show ((-1 : Int) < 0); decide)) ?_
                refine ⟨_, rfl, _, rfl, _, rfl, M, _, _, x, rfl, rfl, eM, ixN_at (by rw [List.length_map, hl2]; exact hxg.2.1), ?_⟩
                rw [show (hs2.map hv).set x (VN c) = (hs2.set x (some c)).map hv by rw [List.map_set]; rfl]
                generalize hX : upd H11 M _ = H12; have tH12 := mwt eM hX; clear eM; obtain ⟨sH12, eM, kH12⟩ := mw s11 nM1 hX; clear hX
                have eW12 := (kH12 W nWM).trans eW
                have hns := nn_set (c := c) hxo
                refine ⟨_, rfl, .inl ⟨rfl, _, .of eW12⟩, _, rfl, W, _, _, rfl, rfl, eW12, by rw [List.length_map]; exact Nat.lt_of_le_of_lt (show ws2.length ≤ 1000000 by omega) (by decide), ?_⟩
                generalize hX : upd H12 W _ = H13; have tH13 := mwt eW12 hX; clear eW12; obtain ⟨sH13, eW, kH13⟩ := mw sH12 nW1 hX; clear hX
                refine ⟨hs2.set x (some c), ws2 ++ [x], _, rfl, sH13, (kH13 M nWM.symm).trans eM, by rw [eW, List.map_append]; rfl, (kH13 X nWX.symm).trans ((kH12 X nXM).trans eX), by rw [List.length_set]; exact hl2, by rw [List.length_append, List.length_singleton]; omega, ?_⟩
                rw [take_succ' hx]
                exact hW.push (hof_some hxo) hxg.2.1 (.step hxg.1 hw0r) fun y => hof_set (by rw [hl2]; exact hxg.2.1) y
            · rintro σ H11 ⟨hs2, ws2, v6, rfl, s11, eM, eW, eX, hl2, hnn, hW⟩
              rw [List.length_map, List.take_length] at hW
              exact ⟨hs2, ws2, w0, _, hnn.symm, rfl, s11, eM, eW, eX, hl2, by omega, hW⟩
          · have cc : ws = [] := by
              cases ws with
              | nil => rfl
              | cons x l => exact absurd (decide_eq_true (by simp)) cc
            subst cc
            exact ⟨hs', d, _, rfl, s9, eM, eX, hl', hW⟩
        · rintro σ H9 ⟨hs', d, v6, rfl, s9, eM, eX, hl', hW⟩
          refine ⟨_, rfl, _, _, rfl, rfl, ?_⟩
          refine ⟨hs', c + 1, _, _, _, rfl, s9, eM, eX, hl', hC.more ok hfin hB' hof_st hW.old hW.new (hW.fin ok hrev hC hsl rfl), fun b hb => ?_⟩
          rw [take_succ' hst] at hb
          rcases List.mem_append.mp hb with z | z
          · cases e : hof hs b with
            | none => exact absurd e (hbs b z)
            | some i' => rw [hW.old b i' e]; simp
          · rw [List.mem_singleton.mp z, hW.st]; simp
    · rintro σ H6 ⟨hs, c, v4, v5, v6, rfl, s6, eM, eX, hl, hC, hbs⟩
      obtain ⟨h, rfl, hc⟩ := Gr.Cmp.done hC hl fun u hu => hbs u (by
        rw [List.length_map, List.take_length]
        exact List.mem_reverse.mpr ((hfin.all u).mpr hu))
      refine ⟨_, rfl, q H6 M h c (s1.trans s6) (s1.free nM1) ?_ hc⟩
      rw [eM, List.map_map]
      rfl
def nfl : List Bool → Nat
  | [] => 0
  | false :: l => nfl l + 1
  | true :: l => nfl l
theorem nfl_le : ∀ fs : List Bool, nfl fs ≤ fs.length
  | [] => Nat.le_refl 0
  | false :: l => Nat.succ_le_succ (nfl_le l)
  | true :: l => Nat.le_succ_of_le (nfl_le l)
theorem nfl_set : ∀ {fs : List Bool} {u : Nat}, fs[u]? = some false → nfl (fs.set u true) + 1 = nfl fs
  | [], _, h => by simp at h
  | false :: l, 0, _ => rfl
  | true :: l, 0, h => by simp at h
  | false :: l, u + 1, h => by
    have := nfl_set (fs := l) (u := u) (by simpa using h)
    show nfl (l.set u true) + 1 + 1 = nfl l + 1
    omega
  | true :: l, u + 1, h => nfl_set (fs := l) (u := u) (by simpa using h)
/-- found so far: S; still to be followed: ws; of cur the first dn have been followed -/
structure Rw (g : Gr.G) (st : List Nat) (S : Nat → Prop) (ws : List Nat) (cur : Nat) (dn : List Nat) : Prop where
  inn : ∀ u ∈ st, S u
  rc : ∀ u, S u → u < g.length ∧ ∃ s ∈ st, Gr.Rc g s u
  cl : ∀ u, S u → u ∈ ws ∨ (u = cur ∧ ∀ x ∈ dn, S x) ∨ ∀ x ∈ Gr.row g u, S x
  ws : ∀ u ∈ ws, S u
theorem Rw.pop {g : Gr.G} {st : List Nat} {S : Nat → Prop} {ws dn : List Nat} {w d : Nat} (k : Rw g st S (ws ++ [w]) d dn) (hd : dn = Gr.row g d) : Rw g st S ws w [] := by
  refine ⟨k.inn, k.rc, fun u hu => ?_, fun u hu => k.ws u (List.mem_append.mpr (.inl hu))⟩
  rcases k.cl u hu with z | ⟨z, y⟩ | z
  · rcases List.mem_append.mp z with z | z
    · exact .inl z
    · exact .inr (.inl ⟨List.mem_singleton.mp z, by simp⟩)
  · exact .inr (.inr (by rw [z, ← hd]; exact y))
  · exact .inr (.inr z)
theorem Rw.seen {g : Gr.G} {st : List Nat} {S : Nat → Prop} {ws dn : List Nat} {cur x : Nat} (k : Rw g st S ws cur dn) (hx : S x) : Rw g st S ws cur (dn ++ [x]) := by
  refine ⟨k.inn, k.rc, fun u hu => ?_, k.ws⟩
  rcases k.cl u hu with z | ⟨z, y⟩ | z
  · exact .inl z
  · refine .inr (.inl ⟨z, fun y' hy => ?_⟩)
    rcases List.mem_append.mp hy with w | w
    · exact y y' w
    · rw [List.mem_singleton.mp w]; exact hx
  · exact .inr (.inr z)
theorem Rw.push {g : Gr.G} {st : List Nat} {S S' : Nat → Prop} {ws dn : List Nat} {cur x : Nat} (k : Rw g st S ws cur dn) (hc : S cur) (hx : Gr.E g cur x) (hl : x < g.length) (e : ∀ y, S' y ↔ (y = x ∨ S y)) : Rw g st S' (ws ++ [x]) cur (dn ++ [x]) := by
  have up : ∀ y, S y → S' y := fun y h => (e y).mpr (.inr h)
  refine ⟨fun u hu => up u (k.inn u hu), fun u hu => ?_, fun u hu => ?_, fun u hu => ?_⟩
  · rcases (e u).mp hu with rfl | z
    · obtain ⟨_, s, hs, r⟩ := k.rc cur hc
      exact ⟨hl, s, hs, r.snoc hx⟩
    · exact k.rc u z
  · rcases (e u).mp hu with rfl | z
    · exact .inl (by simp)
    · rcases k.cl u z with w | ⟨w, y⟩ | w
      · exact .inl (List.mem_append.mpr (.inl w))
      · refine .inr (.inl ⟨w, fun y' hy => ?_⟩)
        rcases List.mem_append.mp hy with v | v
        · exact up _ (y y' v)
        · rw [List.mem_singleton.mp v]; exact (e x).mpr (.inl rfl)
      · exact .inr (.inr fun y hy => up _ (w y hy))
  · rcases List.mem_append.mp hu with z | z
    · exact up u (k.ws u z)
    · rw [List.mem_singleton.mp z]; exact (e x).mpr (.inl rfl)
theorem Rw.fin {g : Gr.G} {st : List Nat} {S : Nat → Prop} {dn : List Nat} {d : Nat} (k : Rw g st S [] d dn) (hd : dn = Gr.row g d) (u : Nat) : S u ↔ ∃ s ∈ st, Gr.Rc g s u := by
  refine ⟨fun h => (k.rc u h).2, fun ⟨s, hs, r⟩ => Gr.rc_sets (S := S) (fun a b ha e => ?_) r (k.inn s hs)⟩
  rcases k.cl a ha with z | ⟨z, y⟩ | z
  · cases z
  · subst z; subst hd; exact y b e
  · exact z b e
def spRch : Sp := fun vs H Q _ => ∃ (r a : Addr) (g : Gr.G) (st : List Nat), vs = [.ref r, .ref a] ∧ GrL H r g ∧ Gr.Ok g ∧ g.length ≤ 100000 ∧ (H a = some (.lst (st.map VN)) ∨ H a = some (.tup (st.map VN))) ∧ (∀ s ∈ st, s < g.length) ∧ st.length ≤ 1000000 ∧
  ∀ (H' : Hp) (y : Addr) (fs : List Bool), Same H H' → H y = none → H' y = some (.lst (fs.map V.bl)) → Fl g.length (fun u => ∃ s ∈ st, Gr.Rc g s u) fs → Q (.ref y) H'
theorem cal_rch (T : Txt K mg) : C8.Cal P w K mg base 1 "reachable" spRch [] := by
  obtain ⟨f, fd, F, hm, hb⟩ := T.h_reachable
  refine ⟨f, fd, _, [], F.ok sc_reachable (fun vs H Q E h => ?_) (fun cdv A outer s H vs Q E hr h => ?_), hm, F.kp, hb, .nil⟩
  · obtain ⟨r, a, g, st, rfl, _⟩ := h
    rfl
  · obtain ⟨r, a, g, st, rfl, hG, ok, hn, hst, hsl, hsz, q⟩ := h
    refine ⟨_, (pss_cons
      (ps_set (i := 2) sc_reachable.nd rfl (Or.inl rfl) (pe_op op_rep (pe_lst (pa_cons pe_bl pa_nil)) (pe_callB (call_lenK (K := K) rfl) (by rfl) T.z_len PySem.boot_len (pa_cons (pv 0) pa_nil))))
      (pss_cons
      (ps_set (i := 3) sc_reachable.nd rfl (Or.inl rfl) (pe_callTy (call_list_ofK (K := K) rfl) (by rfl) T.z_list (by decide +kernel) (pa_cons (pv 1) pa_nil)))
      (pss_cons
      (ps_for PassesOwn.never rfl (pi_seq (K := K) rfl (pv 1)) (pg_name (i := 4) sc_reachable.nd rfl (.inl rfl)) (pss_one
      (ps_asg pe_bl (pg_sub (pv 2) (pv 4) set_list))))
      (C8.pss_cut
      (ps_while PassesOwn.never (pt_cmpR op_gt (pe_callB (call_lenK (K := K) rfl) (by rfl) T.z_len PySem.boot_len (pa_cons (pv 3) pa_nil)) pe_int (nomark _)) (pss_one
      (ps_for PassesOwn.never rfl (pi_list (pe_ix (ix_listK (K := K) rfl) (pv 0) (pe_bm0 PySem.F.plainAttrs_list PySem.F.slot_list_pop PySem.F.type_list_pop mt_pop (pv 3)) (fun _ _ => rfl))) (pg_name (i := 5) sc_reachable.nd rfl (.inl rfl)) (pss_one
      (ps_if (pt_not (pt_val (pe_ix (ix_listK (K := K) rfl) (pv 2) (pv 5) (fun _ _ => rfl)))) (pss_cons
      (ps_asg pe_bl (pg_sub (pv 2) (pv 5) set_list))
      (pss_one
      (ps_expr (pe_bm PySem.F.plainAttrs_list PySem.F.slot_list_append PySem.F.type_list_append mt_append (pv 3) (pa_cons (pv 5) pa_nil))))) pss_nil)))))
      (pss_one
      (ps_ret (pv 2))))))), ?_⟩
    obtain ⟨as, hr0, hal, ha⟩ := id hG
    refine ⟨by show 1 ≤ sizeLine; decide, fun l nl => ?_⟩
    generalize hX : upd H l _ = H1; obtain ⟨sH1, el⟩ := nw nl hX; clear hX
    refine ⟨_, rfl, r, _, rfl, .inl (.of (sH1 _ _ hr0)), l, _, _, rfl, rfl, el, by omega, by rw [List.length_map]; omega, ?_, fun M nM => ?_⟩
    · rw [List.length_map, hal, Int.toNat_natCast]
      show 1 * g.length ≤ 16777216
      omega
    rw [List.length_map, hal, Int.toNat_natCast, show (List.replicate g.length [V.bl false]).flatten = (List.replicate g.length false).map V.bl by simp]
    have nM0 := sH1.free nM
    generalize hX : upd H1 M _ = H2; obtain ⟨sH2, eM⟩ := nw nM hX; clear hX
    have s2 := sH1.trans sH2
    have hst2 : SeqV H2 a (st.map VN) := by
      rcases hst with h | h
      · exact .inl (s2 _ _ h)
      · exact .inr (s2 _ _ h)
    refine ⟨_, rfl, a, _, rfl, hst2.sq, fun W nW => ?_⟩
    have nW0 := s2.free nW
    have nWM : W ≠ M := fun z => by rw [z, eM] at nW; cases nW
    generalize hX : upd H2 W _ = H3; obtain ⟨sH3, eW⟩ := nw nW hX; clear hX
    have s3 := s2.trans sH3
    have eM3 := sH3 _ _ eM
    have hst3 : SeqV H3 a (st.map VN) := by
      rcases hst with h | h
      · exact .inl (s3 _ _ h)
      · exact .inr (s3 _ _ h)
    clear eM
    -- the starts
    have hstH : SeqV H a (st.map VN) := hst
    refine for_sqB (H0 := H) (i := 1) (a := a) (xs := st.map VN) rfl hstH (fun i σ H' => ∃ (fs : List Bool) (v4 v5 : Option V), σ = [some (.ref r), some (.ref a), some (.ref M), some (.ref W), v4, v5] ∧ Same H H' ∧ H' M = some (.lst (fs.map V.bl)) ∧ H' W = some (.lst (st.map VN)) ∧ Fl g.length (fun u => u ∈ st.take i) fs)
      ⟨_, _, _, rfl, s3, eM3, eW, (Fl.rep _).cong (by simp)⟩ (fun i σ H' ⟨_, _, _, _, z, _⟩ => z) ?_ ?_
    · clear s3 eM3 eW hst2 hst3
      rintro i x σ H4 hx ⟨fs, v4, v5, rfl, s4, eM, eW, hfl⟩
      obtain ⟨u, hu, rfl⟩ := nats_get hx
      have hul := hsl u (List.mem_of_getElem? hu)
      refine ⟨_, rfl, _, rfl, M, _, _, u, rfl, rfl, eM, ixN_at (by rw [List.length_map, hfl.1]; exact hul), ?_⟩
      rw [show (fs.map V.bl).set u (.bl true) = (fs.set u true).map V.bl by rw [List.map_set]]
      generalize hX : upd H4 M _ = H5; have tH5 := mwt eM hX; clear eM; obtain ⟨sH5, eM, kH5⟩ := mw s4 nM0 hX; clear hX
      refine ⟨fs.set u true, _, _, rfl, sH5, eM, (kH5 W nWM).trans eW, hfl.set fun y => ?_⟩
      rw [take_succ' hu]
      simp [or_comm]
    clear s3 eM3 eW hst2 hst3
    rintro σ H4 ⟨fs, v4, v5, rfl, s4, eM, eW, hfl⟩
    rw [List.length_map, List.take_length] at hfl
    refine ⟨fun σ H' => ∃ (fs : List Bool) (v4 v5 : Option V), σ = [some (.ref r), some (.ref a), some (.ref M), some (.ref W), v4, v5] ∧ Same H H' ∧ H' M = some (.lst (fs.map V.bl)) ∧ Fl g.length (fun u => ∃ s ∈ st, Gr.Rc g s u) fs, ?_, ?_⟩
    · refine ⟨fun m σ H' => ∃ (fs : List Bool) (ws : List Nat) (S : Nat → Prop) (d : Nat) (v4 v5 : Option V), m = nfl fs + ws.length ∧ σ = [some (.ref r), some (.ref a), some (.ref M), some (.ref W), v4, v5] ∧ Same H H' ∧ H' M = some (.lst (fs.map V.bl)) ∧ H' W = some (.lst (ws.map VN)) ∧ Fl g.length S fs ∧ nfl fs + ws.length ≤ 1100000 ∧ Rw g st S ws d (Gr.row g d), ⟨_, fs, st, _, 0, _, _, rfl, rfl, s4, eM, eW, hfl, ?_, ⟨fun u hu => hu, fun u hu => ⟨hsl u hu, u, hu, .refl u⟩, fun u hu => .inl hu, fun u hu => hu⟩⟩, ?_⟩
      · have := nfl_le fs
        rw [hfl.1] at this
        omega
      clear s4 eM eW hfl fs
      rintro m σ H5 ⟨fs, ws, S, d, v4, v5, rfl, rfl, s5, eM, eW, hfl, hbd, hR⟩
      refine ⟨_, rfl, W, _, rfl, .inl (.of eW), _, _, rfl, rfl, _, rfl, ite2 (fun cc => ?_) (fun cc => ?_)⟩
      · obtain ⟨ws', w0, rfl⟩ : ∃ ws' x, ws = ws' ++ [x] := by
          rcases List.eq_nil_or_concat ws with rfl | ⟨a, b, rfl⟩
          · exact absurd cc (by decide)
          · exact ⟨a, b, List.concat_eq_append⟩
        have hw0 := hR.ws w0 (by simp)
        have hw0l := (hR.rc w0 hw0).1
        obtain ⟨b, hrb⟩ : ∃ a, as[w0]? = some a := ⟨_, List.getElem?_eq_getElem (by rw [hal]; exact hw0l)⟩
        have hrow := ha w0 _ hrb
        rw [List.length_append, List.length_singleton] at hbd
        refine ⟨_, fun σ' H'' z => ⟨nfl fs + ws'.length, by rw [List.length_append, List.length_singleton]; omega, z⟩, ?_⟩
        refine ⟨_, rfl, _, rfl, .inl ⟨rfl, _, .of eW⟩, W, _, VN w0, rfl, rfl, eW, by simp, ?_⟩
        rw [show ((ws' ++ [w0]).map VN).dropLast = ws'.map VN by simp]
        generalize hX : upd H5 W _ = H6; have tH6 := mwt eW hX; clear eW; obtain ⟨sH6, eW, kH6⟩ := mw s5 nW0 hX; clear hX
        have eM6 := (kH6 M nWM.symm).trans eM
        refine ⟨r, _, _, .ref b, rfl, rfl, .of (sH6 _ _ hr0), atN hrb, b, rfl, ⟨_, .of (sH6 _ _ hrow)⟩, ?_⟩
        refine for_list (K := K) (a := b) (xs := (Gr.row g w0).map VN) (fun j σ H' => ∃ (fs2 : List Bool) (ws2 : List Nat) (S2 : Nat → Prop) (v4 v5 : Option V), σ = [some (.ref r), some (.ref a), some (.ref M), some (.ref W), v4, v5] ∧ Same H H' ∧ H' M = some (.lst (fs2.map V.bl)) ∧ H' W = some (.lst (ws2.map VN)) ∧ Fl g.length S2 fs2 ∧ nfl fs2 + ws2.length = nfl fs + ws'.length ∧ S2 w0 ∧ Rw g st S2 ws2 w0 ((Gr.row g w0).take j))
          ⟨fs, ws', S, _, _, rfl, sH6, eM6, eW, hfl, rfl, hw0, hR.pop rfl⟩ (fun j σ H' _ ⟨_, _, _, _, _, _, z, _⟩ => .of (z _ _ hrow)) ?_ ?_
        · clear sH6 eM6 eW hfl hR hw0 eM
          rintro j v σ H7 hj ⟨fs, ws2, S2, v4, v5, rfl, s7, eM, eW, hfl, hnn, hw0, hR⟩
          obtain ⟨x, hx, rfl⟩ := nats_get hj
          have hxl := ok w0 x (List.mem_of_getElem? hx)
          obtain ⟨b2, hb1, hb2⟩ := hfl.get hxl
          refine ⟨_, rfl, _, rfl, M, _, _, .bl b2, rfl, rfl, .of eM, atN hb1, b2, rfl, ?_⟩
          cases b2 with
          | true =>
            refine iteB_f (c := !true) rfl ⟨fs, ws2, S2, _, _, rfl, s7, eM, eW, hfl, hnn, hw0, ?_⟩
            rw [take_succ' hx]
            exact hR.seen (hb2.mp rfl)
          | false =>
            refine iteB_t (c := !false) rfl ?_
            refine ⟨_, rfl, _, rfl, M, _, _, x, rfl, rfl, eM, ixN_at (by rw [List.length_map, hfl.1]; exact hxl), ?_⟩
            rw [show (fs.map V.bl).set x (.bl true) = (fs.set x true).map V.bl by rw [List.map_set]]
            generalize hX : upd H7 M _ = H8; have tH8 := mwt eM hX; clear eM; obtain ⟨sH8, eM, kH8⟩ := mw s7 nM0 hX; clear hX
            have eW8 := (kH8 W nWM).trans eW
            have hns := nfl_set hb1
            refine ⟨_, rfl, .inl ⟨rfl, _, .of eW8⟩, _, rfl, W, _, _, rfl, rfl, eW8, by rw [List.length_map]; exact Nat.lt_of_le_of_lt (show ws2.length ≤ 1100000 by omega) (by decide), ?_⟩
            generalize hX : upd H8 W _ = H9; have tH9 := mwt eW8 hX; clear eW8; obtain ⟨sH9, eW, kH9⟩ := mw sH8 nW0 hX; clear hX
            refine ⟨fs.set x true, ws2 ++ [x], fun y => y = x ∨ S2 y, _, _, rfl, sH9, (kH9 M nWM.symm).trans eM, by rw [eW, List.map_append]; rfl, hfl.set fun y => Iff.rfl, by rw [List.length_append, List.length_singleton]; omega, .inr hw0, ?_⟩
            rw [take_succ' hx]
            exact hR.push hw0 (List.mem_of_getElem? hx) hxl fun y => Iff.rfl
        · rintro σ H7 ⟨fs, ws2, S2, v4, v5, rfl, s7, eM, eW, hfl, hnn, hw0, hR⟩
          rw [List.length_map, List.take_length] at hR
          exact ⟨fs, ws2, S2, w0, _, _, hnn.symm, rfl, s7, eM, eW, hfl, by omega, hR⟩
      · have cc : ws = [] := by
          cases ws with
          | nil => rfl
          | cons x l => exact absurd (decide_eq_true (by simp)) cc
        subst cc
        exact ⟨fs, _, _, rfl, s5, eM, hfl.cong fun u => (hR.fin rfl u).symm⟩
    · rintro σ H5 ⟨fs, v4, v5, rfl, s5, eM, hfl⟩
      exact ⟨_, rfl, q H5 M fs s5 nM0 eM hfl⟩
theorem lc_seq {K : PySem.W.Frag} {i : Nat} {a : Addr} {xs : List V} {g : TG} {tt : TT} {te : TE} {vs : List Nat} {σ : L2.St} {H : Hp} {Q : VK} (hv : σ[i]? = some (some (.ref a))) (hq : SeqV H a xs) (Pv : Addr → Nat → Hp → Prop) (h0 : ∀ D, H D = none → Pv D 0 (upd H D (.lst [])))
    (hS : ∀ D j H', H D = none → Pv D j H' → Same H H')
    (hs : ∀ D, H D = none → ∀ i x H', xs[i]? = some x → Pv D i H' → g x (wipe σ vs) H' fun σ2 H2 => wipe σ2 vs = wipe σ vs ∧ tt σ2 H2 fun b H3 => if b = true then te σ2 H3 fun y H4 => ∃ acc, H4 D = some (.lst acc) ∧ acc.length < sizeLine ∧ Pv D (i + 1) (upd H4 D (.lst (acc ++ [y]))) else Pv D (i + 1) H3)
    (hd : ∀ D H', H D = none → Pv D xs.length H' → Q (.ref D) H') : tLc (iSeq K (tVar i)) g tt te vs σ H Q := by
  rcases hq with h | h
  · exact .inl ⟨_, hv, a, rfl, ⟨_, .of h⟩, fun D hD => lc_list (Pv D) (h0 D hD) (fun i H' _ p => .of (hS D i H' hD p _ _ h)) (hs D hD) (fun H' p => hd D H' hD p)⟩
  · exact .inr ⟨_, hv, a, rfl, ⟨_, .of h⟩, fun D hD => lc_tup (Pv D) (h0 D hD) (fun i H' _ p => .of (hS D i H' hD p _ _ h)) (hs D hD) (fun H' p => hd D H' hD p)⟩
theorem rowsUpd {H : Hp} {x : Addr} {o : HO} (hx : ∀ ys, H x ≠ some (.tup ys)) : ∀ {as : List Addr} {rs : List (List Int)}, RowsA .tup H as rs → RowsA .tup (upd H x o) as rs
  | [], [], _ => True.intro
  | a :: as, r :: rs, h => ⟨by
      have h1 := h.1
      rw [upd_ne (fun z => by rw [z] at h1; exact hx _ h1)]
      exact h1, rowsUpd hx h.2⟩
  | [], _ :: _, h => h.elim
  | _ :: _, [], h => h.elim
theorem refs_get {as : List Addr} {i : Nat} {v : V} (h : (as.map V.ref)[i]? = some v) : ∃ a, as[i]? = some a ∧ v = .ref a := by
  rw [List.getElem?_map] at h
  cases e : as[i]? with
  | none => rw [e] at h; cases h
  | some z => rw [e] at h; exact ⟨z, rfl, (Option.some.inj h).symm⟩
theorem ints_get {xs : List Int} {i : Nat} {v : V} (h : (xs.map V.int)[i]? = some v) : ∃ x, xs[i]? = some x ∧ v = .int x := by
  rw [List.getElem?_map] at h
  cases e : xs[i]? with
  | none => rw [e] at h; cases h
  | some z => rw [e] at h; exact ⟨z, rfl, (Option.some.inj h).symm⟩
theorem take_get {α : Type} {xs : List α} {i : Nat} {x : α} (h : xs[i]? = some x) : xs.take (i + 1) = xs.take i ++ [x] := by
  rw [List.take_add_one, h]
  rfl
theorem pl_next {f : Str} {v : V} {fs : List (Str × V)} {n : Nat} (h : fs.length ≤ n) : (putF f v fs).length ≤ n + 1 := Nat.le_trans (putF_len f v fs) (Nat.succ_le_succ h)
theorem pl_lt {fs : List (Str × V)} {n : Nat} (h : fs.length ≤ n) (k : n < 1000) : fs.length < 1000 := Nat.lt_of_le_of_lt h k
theorem pl_0 : ([] : List (Str × V)).length ≤ 0 := Nat.le_refl _
theorem fld_def {Kf : PySem.W.Frag} {ta tv : TE} {f : Str} {D : Ends} {σ : L2.St} {H : Hp} (h : tv σ H fun y H1 => ta σ H1 fun x H2 => ∃ a C dx fs, x = .ref a ∧ H2 a = some (.ins C dx fs) ∧ Cls Kf C ∧ NoAttr Kf C f ∧ fs.length < 1000 ∧ D.nx σ (upd H2 a (.ins C dx (putF f y fs)))) : sFld Kf ta tv f D σ H := h
theorem cb1_def {r : List V → Hp → VK → Prop} {te : TE} {σ : L2.St} {H : Hp} {Q : VK} (h : te σ H fun v H1 => r [v] H1 Q) : tCB r (tCons te tNil) σ H Q := h
theorem rows_some {mk : List V → HO} {H : Hp} : ∀ {as : List Addr} {rs : List (List Int)} {a : Addr}, RowsA mk H as rs → a ∈ as → ∃ o, H a = some o
  | [], _, _, _, h => by simp at h
  | b :: as, [], _, h, _ => h.elim
  | b :: as, r :: rs, a, h, m => by
    rcases List.mem_cons.mp m with z | z
    · rw [z]
      exact ⟨_, h.1⟩
    · exact rows_some h.2 z
theorem LL.same {H H' : Hp} {r : Addr} {as : List Addr} {rows : List (List Int)} (k : Same H H') (h : LL H r as rows) : LL H' r as rows := ⟨k _ _ h.1, h.2.same k⟩
def spChkMoves (cI : Addr) : Sp := fun vs H Q E => ∃ (a : Addr) (xs : List Int) (n : Int), vs = [.ref a, .int n] ∧ H a = some (.lst (xs.map V.int)) ∧ (¬ (xs ≠ [] ∧ Asc n xs) → E (.ref cI) none H) ∧ (xs ≠ [] → Asc n xs → Q .non H)
theorem cal_chkmoves {cI : Addr} (T : Txt K mg) (eI : ErrC K mg "InvalidGame" cI) : CalX P w K mg base 1 "check_moves" (spChkMoves cI) := by
  obtain ⟨f, fd, F, hm, hb⟩ := T.h_check_moves
  refine ⟨f, fd, _, F.okX sc_check_moves (fun vs H Q E h => ?_) (fun cdv A outer s H vs Q E hr h => ?_), hm, F.kp, hb⟩
  · obtain ⟨a, xs, n, rfl, _⟩ := h
    rfl
  · obtain ⟨a, xs, n, rfl, ha, q1, q2⟩ := h
    refine ⟨_, (pss_cons
      (ps_if (pt_cmpR op_eq (pe_callB (call_lenK (K := K) rfl) (by rfl) T.z_len PySem.boot_len (pa_cons (pv 0) pa_nil)) pe_int (nomark _)) (pss_one
      (ps_raise rfl (takes_of rfl rfl rfl rfl) (eI.made rfl))) pss_nil)
      (pss_cons
      (ps_set (i := 2) sc_check_moves.nd rfl (Or.inl rfl) (pe_un un_neg pe_int))
      (pss_one
      (ps_for (passes_of rfl) rfl (pi_list (pv 0)) (pg_name (i := 3) sc_check_moves.nd rfl (.inl rfl)) (pss_cons
      (ps_if (PW.pt (pw_or (pt_cmpR op_le (pv 3) (pv 2) (nomark _)) (pw_or1 (pt_cmpR op_ge (pv 3) (pv 1) (nomark _))))) (pss_one
      (ps_raise rfl (takes_of rfl rfl rfl rfl) (eI.made rfl))) pss_nil)
      (pss_one
      (ps_set (i := 2) sc_check_moves.nd rfl (Or.inl rfl) (pv 3)))))))), ?_⟩
    refine ⟨_, rfl, a, _, rfl, .inl (.of ha), rfl, _, rfl, ite_eq (fun c => q1 fun v => v.1 (List.length_eq_zero_iff.mp (by rw [List.length_map] at c; omega))) (fun c0 => ?_)⟩
    have hne : xs ≠ [] := fun z => c0 (by rw [z]; rfl)
    refine ⟨_, rfl, ?_⟩
    refine ⟨_, rfl, a, rfl, ⟨_, .of ha⟩, for_list (K := K) (a := a) (xs := xs.map V.int) (fun i σ H' => ∃ (b : Int) (v : Option V), σ = [some (.ref a), some (.int n), some (.int b), v] ∧ H' = H ∧ Asc n (xs.take i) ∧ -1 ≤ b ∧ (∀ x ∈ xs.take i, x ≤ b) ∧ (b = -1 ∨ b ∈ xs.take i))
      ⟨-1, none, rfl, rfl, ⟨by simp, by simp⟩, by omega, by simp, .inl rfl⟩ (fun i σ H' _ ⟨_, _, _, z, _⟩ => by rw [z]; exact .of ha) ?_ ?_⟩
    · rintro i y σ H' hi ⟨b, v, rfl, rfl, hA, hb1, hle, hor⟩
      obtain ⟨z, hz, rfl⟩ := ints_get hi
      have cutE : xs = xs.take i ++ z :: xs.drop (i + 1) := by
        conv => lhs; rw [← List.take_append_drop i xs]
        congr 1
        exact List.drop_eq_getElem?_toList_append.trans (by rw [hz]; rfl)
      refine ⟨_, rfl, _, rfl, _, _, rfl, rfl, _, rfl, ite2 (fun c => ?_) (fun c => ?_)⟩
      · have c := of_decide_eq_true c
        refine q1 fun ⟨_, hasc⟩ => ?_
        have hz0 := (hasc.2 z (List.mem_of_getElem? hz)).1
        rcases hor with u | u
        · omega
        · have hp := hasc.1
          rw [cutE] at hp
          have := (List.pairwise_append.mp hp).2.2 b u z List.mem_cons_self
          omega
      have c1 : ¬ z ≤ b := fun u => c (decide_eq_true u)
      refine ⟨_, rfl, _, rfl, _, _, rfl, rfl, _, rfl, ite2 (fun c => ?_) (fun c => ?_)⟩
      · have c := of_decide_eq_true c
        refine q1 fun ⟨_, hasc⟩ => ?_
        have := (hasc.2 z (List.mem_of_getElem? hz)).2
        omega
      have c2 : ¬ n ≤ z := fun u => c (decide_eq_true u)
      refine ⟨_, rfl, z, _, rfl, rfl, ⟨?_, fun x hx => ?_⟩, by omega, fun x hx => ?_, .inr (by rw [take_get hz]; simp)⟩
      · rw [take_get hz]
        refine List.pairwise_append.mpr ⟨hA.1, by simp, fun x hx y hy => ?_⟩
        rw [List.mem_singleton.mp hy]
        have := hle x hx
        omega
      · rw [take_get hz] at hx
        rcases List.mem_append.mp hx with u | u
        · exact hA.2 x u
        · rw [List.mem_singleton.mp u]
          omega
      · rw [take_get hz] at hx
        rcases List.mem_append.mp hx with u | u
        · have := hle x u
          omega
        · rw [List.mem_singleton.mp u]
          exact Int.le_refl _
    · rintro σ H' ⟨b, v, rfl, rfl, hA, _⟩
      rw [List.length_map, List.take_length] at hA
      exact q2 hne hA
def spInitG (C cI : Addr) : Sp := fun vs H Q E => ∃ (x o p r dx : Addr) (ow ps : List Int) (as : List Addr) (c : List (List Int)), vs = [.ref x, .ref o, .ref p, .ref r] ∧ H x = some (.ins C dx []) ∧ H o = some (.lst (ow.map V.int)) ∧ H p = some (.lst (ps.map V.int)) ∧ LL H r as c ∧
  ow.length ≤ 1000 ∧ ps.length ≤ 1000 ∧ c.length ≤ 1000 ∧ (∀ r ∈ c, r.length ≤ 1000) ∧ (¬ Vg ow ps c → E (.ref cI) none H) ∧ (Vg ow ps c → ∀ H', Kp x H H' → GmeAt C H' x ow ps c → Q .non H')
theorem ok_initG {cI C fI : Addr} {fdI : FuncData} (T : Txt K mg) (eI : ErrC K mg "InvalidGame" cI) (PC : GmeC K C) (F : L2.Fun K "__init__" "Game.__init__" s_Game_init fI fdI) :
    FnOk P w K mg base (L2.CX P w) 2 fI fdI ["self", "owners", "priorities", "moves"] (spInitG C cI) := by
  have X_check_moves : CalX P w K mg base 1 "check_moves" (spChkMoves cI) := cal_chkmoves T eI
  refine F.okX sc_Game_init (fun vs H Q E h => ?_) (fun cdv A outer s H vs Q E hr h => ?_)
  · obtain ⟨x, o, p, r, dx, ow, ps, as, c, rfl, _⟩ := h
    rfl
  · obtain ⟨x, o, p, r, dx, ow, ps, as, c, rfl, hx, ho, hp, hL, l1, l2, l3, l4, q1, q2⟩ := h
    refine ⟨_, (pss_cons
      (ps_if (pt_cmpR op_eq (pe_callB (call_lenK (K := K) rfl) (by rfl) T.z_len PySem.boot_len (pa_cons (pv 3) pa_nil)) pe_int (nomark _)) (pss_one
      (ps_raise rfl (takes_of rfl rfl rfl rfl) (eI.made rfl))) pss_nil)
      (pss_cons
      (ps_if (PW.pt (pw_or (pt_cmpR op_ne (pe_callB (call_lenK (K := K) rfl) (by rfl) T.z_len PySem.boot_len (pa_cons (pv 1) pa_nil)) (pe_callB (call_lenK (K := K) rfl) (by rfl) T.z_len PySem.boot_len (pa_cons (pv 3) pa_nil)) (nomark _)) (pw_or1 (pt_cmpR op_ne (pe_callB (call_lenK (K := K) rfl) (by rfl) T.z_len PySem.boot_len (pa_cons (pv 2) pa_nil)) (pe_callB (call_lenK (K := K) rfl) (by rfl) T.z_len PySem.boot_len (pa_cons (pv 3) pa_nil)) (nomark _))))) (pss_one
      (ps_raise rfl (takes_of rfl rfl rfl rfl) (eI.made rfl))) pss_nil)
      (pss_cons
      (ps_if (PW.pt (pw_or (pt_cmpR op_lt (pe_callB (call_minK (K := K) rfl rfl) (by rfl) T.z_min (by decide +kernel) (pa_cons (pv 1) pa_nil)) pe_int (nomark _)) (pw_or1 (pt_cmpR op_gt (pe_callB (call_maxK (K := K) rfl rfl) (by rfl) T.z_max (by decide +kernel) (pa_cons (pv 1) pa_nil)) pe_int (nomark _))))) (pss_one
      (ps_raise rfl (takes_of rfl rfl rfl rfl) (eI.made rfl))) pss_nil)
      (pss_cons
      (ps_if (pt_cmpR op_lt (pe_callB (call_minK (K := K) rfl rfl) (by rfl) T.z_min (by decide +kernel) (pa_cons (pv 2) pa_nil)) pe_int (nomark _)) (pss_one
      (ps_raise rfl (takes_of rfl rfl rfl rfl) (eI.made rfl))) pss_nil)
      (pss_cons
      (ps_for (passes_of rfl) rfl (pi_list (pv 3)) (pg_name (i := 4) sc_Game_init.nd rfl (.inl rfl)) (pss_one
      (ps_expr (pe_cx X_check_moves hr (by decide) (takes_of rfl rfl rfl rfl) (by rfl) (pa_cons (pv 4) (pa_cons (pe_callB (call_lenK (K := K) rfl) (by rfl) T.z_len PySem.boot_len (pa_cons (pv 3) pa_nil)) pa_nil))))))
      (pss_cons
      (ps_fld (pv 0) (pe_callTy (call_tuple_ofK (K := K) rfl) (by rfl) T.z_tuple (by decide +kernel) (pa_cons (pv 1) pa_nil)) rfl)
      (pss_cons
      (ps_fld (pv 0) (pe_callTy (call_tuple_ofK (K := K) rfl) (by rfl) T.z_tuple (by decide +kernel) (pa_cons (pv 2) pa_nil)) rfl)
      (pss_one
      (ps_fld (pv 0) (pe_callTy (call_tuple_ofK (K := K) rfl) (by rfl) T.z_tuple (by decide +kernel) (pa_cons (pe_lc (own := [("targets", 4)]) (g := gName 4) (tt := tYes) rfl sc_Game_init.nd (pi_list (pv 3)) (blkOk_by (N := N_Game_init) (sc := defScope s_Game_init) (by decide +kernel)) (fun _ _ _ _ _ => (pg_name (i := 4) sc_Game_init.nd rfl (Or.inl rfl))) (fun _ _ _ _ _ => pts_nil) (fun _ _ _ _ _ => (pe_callTy (call_tuple_ofK (K := K) rfl) (by rfl) T.z_tuple (by decide +kernel) (pa_cons (pv 4) pa_nil)))) pa_nil)) rfl))))))))), ?_⟩
    have hlen : as.length = c.length := hL.2.len
    have hl2 : (as.map V.ref).length = c.length := by rw [List.length_map, hlen]
    refine ⟨_, rfl, r, _, rfl, .inl (.of hL.1), rfl, _, rfl, ite_eq (fun k => ?_) (fun c0 => ?_)⟩
    · exact q1 fun v => v.ne (List.length_eq_zero_iff.mp (by omega))
    have hne : c ≠ [] := fun z => c0 (by rw [hl2, z]; rfl)
    have hcp := List.length_pos_iff.mpr hne
    refine ⟨_, rfl, o, _, rfl, .inl (.of ho), _, rfl, r, _, rfl, .inl (.of hL.1), rfl, _, rfl, ite_ne (fun k => ?_) (fun c1 => ?_)⟩
    · exact q1 fun v => k (by rw [hl2, List.length_map, v.lo])
    rw [hl2, List.length_map] at c1
    refine ⟨_, rfl, p, _, rfl, .inl (.of hp), _, rfl, r, _, rfl, .inl (.of hL.1), rfl, _, rfl, ite_ne (fun k => ?_) (fun c2 => ?_)⟩
    · exact q1 fun v => k (by rw [hl2, List.length_map, v.lp])
    rw [hl2, List.length_map] at c2
    refine ⟨_, rfl, o, ow, rfl, .of ho, by omega, fun m hm hmin => ⟨_, _, rfl, rfl, _, rfl, ite_lt (fun k => ?_) (fun c3 => ?_)⟩⟩
    · exact q1 fun v => by have := (v.ow1 m hm).1; omega
    refine ⟨_, rfl, o, ow, rfl, .of ho, by omega, fun M hM hmax => ⟨_, _, rfl, rfl, _, rfl, ite_lt (fun k => ?_) (fun c4 => ?_)⟩⟩
    · exact q1 fun v => by have := (v.ow1 M hM).2; omega
    refine ⟨_, rfl, p, ps, rfl, .of hp, by omega, fun m2 hm2 hmin2 => ⟨_, _, rfl, rfl, _, rfl, ite_lt (fun k => ?_) (fun c5 => ?_)⟩⟩
    · exact q1 fun v => by have := v.pr m2 hm2; omega
    refine ⟨_, rfl, r, rfl, ⟨_, .of hL.1⟩, for_list (K := K) (a := r) (xs := as.map V.ref) (fun i σ' H' => ∃ v4 : Option V, σ' = [some (.ref x), some (.ref o), some (.ref p), some (.ref r), v4] ∧ H' = H ∧ ∀ q ∈ c.take i, q ≠ [] ∧ Asc (c.length : Int) q)
      ⟨_, rfl, rfl, by simp⟩ (fun i σ' H' _ ⟨_, _, z, _⟩ => by rw [z]; exact .of hL.1) ?_ ?_⟩
    · rintro i v σ' H' hi ⟨v4, rfl, rfl, hall⟩
      obtain ⟨a, ha, rfl⟩ := refs_get hi
      obtain ⟨row, hrow, hra⟩ := hL.2.get ha
      refine ⟨_, rfl, _, rfl, r, _, rfl, .inl (.of hL.1), a, row, _, rfl, hra, fun k => ?_, fun k1 k2 => ?_⟩
      · exact q1 fun v => k (by rw [hl2]; exact v.mv row (List.mem_of_getElem? hrow))
      · rw [hl2] at k2
        refine ⟨_, rfl, rfl, fun z hz => ?_⟩
        rw [take_get hrow] at hz
        rcases List.mem_append.mp hz with y | y
        · exact hall z y
        · rw [List.mem_singleton.mp y]
          exact ⟨k1, k2⟩
    · rintro σ' H' ⟨v4, rfl, rfl, hall⟩
      rw [hl2, List.take_length] at hall
      have hv : Vg ow ps c := ⟨hne, by omega, by omega, fun z hz => ⟨by have := hmin z hz; omega, by have := hmax z hz; omega⟩, fun z hz => by have := hmin2 z hz; omega, hall⟩
      have nox : o ≠ x := fun z => by rw [z, hx] at ho; cases ho
      have npx : p ≠ x := fun z => by rw [z, hx] at hp; cases hp
      have nrx : r ≠ x := fun z => by have := hL.1; rw [z, hx] at this; cases this
      -- self.owners
      refine ⟨_, rfl, o, _, rfl, .inl ⟨.of ho, fun ot hot => ?_⟩⟩
      have nxo : x ≠ ot := fun z => by rw [z, hot] at hx; cases hx
      refine ⟨_, rfl, x, C, dx, _, rfl, by rw [upd_ne nxo]; exact hx, PC.cl, PC.no, by decide, ?_⟩
      have k2 : Kp x H' (upd (upd H' ot (.tup (ow.map V.int))) x (.ins C dx (putF "owners" (.ref ot) []))) := (Kp.new hot).trans Kp.own
      have x2 : (upd (upd H' ot (.tup (ow.map V.int))) x (.ins C dx (putF "owners" (.ref ot) []))) x = some (.ins C dx (putF "owners" (.ref ot) [])) := upd_same
      have t2 : TupI (upd (upd H' ot (.tup (ow.map V.int))) x (.ins C dx (putF "owners" (.ref ot) []))) ot ow := by
        show _ = _
        rw [upd_ne nxo.symm, upd_same]
      generalize upd (upd H' ot (.tup (ow.map V.int))) x (.ins C dx (putF "owners" (.ref ot) [])) = H2 at k2 x2 t2 ⊢
      -- self.priorities
      refine ⟨_, rfl, p, _, rfl, .inl ⟨.of (k2 _ _ npx hp), fun pt hpt => ?_⟩⟩
      have nxp : x ≠ pt := fun z => by rw [z, hpt] at x2; cases x2
      have nop : ot ≠ pt := fun z => by rw [z] at t2; rw [TupI, hpt] at t2; cases t2
      refine ⟨_, rfl, x, C, dx, _, rfl, by rw [upd_ne nxp]; exact x2, PC.cl, PC.np, pl_lt (pl_next pl_0) (by decide), ?_⟩
      have k3 : Kp x H2 (upd (upd H2 pt (.tup (ps.map V.int))) x (.ins C dx (putF "priorities" (.ref pt) (putF "owners" (.ref ot) [])))) := (Kp.new hpt).trans Kp.own
      have x3 : (upd (upd H2 pt (.tup (ps.map V.int))) x (.ins C dx (putF "priorities" (.ref pt) (putF "owners" (.ref ot) [])))) x = some (.ins C dx (putF "priorities" (.ref pt) (putF "owners" (.ref ot) []))) := upd_same
      have t3 : TupI (upd (upd H2 pt (.tup (ps.map V.int))) x (.ins C dx (putF "priorities" (.ref pt) (putF "owners" (.ref ot) [])))) pt ps := by
        show _ = _
        rw [upd_ne nxp.symm, upd_same]
      have t2' : TupI (upd (upd H2 pt (.tup (ps.map V.int))) x (.ins C dx (putF "priorities" (.ref pt) (putF "owners" (.ref ot) [])))) ot ow := by
        show _ = _
        rw [upd_ne nxo.symm, upd_ne nop]
        exact t2
      generalize upd (upd H2 pt (.tup (ps.map V.int))) x (.ins C dx (putF "priorities" (.ref pt) (putF "owners" (.ref ot) []))) = H3 at k3 x3 t3 t2' ⊢
      have k03 : Kp x H' H3 := k2.trans k3
      have hr3 : H3 r = some (.lst (as.map V.ref)) := k03 _ _ nrx hL.1
      have q3 : ∀ {b : Addr} {xs : List Int}, H' b = some (.lst (xs.map V.int)) → H3 b = some (.lst (xs.map V.int)) := fun {b xs} h => k03 _ _ (fun z => by rw [z, hx] at h; cases h) h
      -- self.moves
      dsimp only
      refine fld_def (cb1_def ?_)
      refine ⟨_, rfl, r, rfl, ⟨_, .of hr3⟩, fun D hD => lc_list (K := K) (a := r) (xs := as.map V.ref) (fun i H4 => ∃ bs : List Addr, Same H3 H4 ∧ H4 D = some (.lst (bs.map V.ref)) ∧ RowsA .tup H4 bs (c.take i))
        ⟨[], same_new hD, upd_same, True.intro⟩ (fun i H4 _ ⟨_, z, _⟩ => .of (z _ _ hr3)) ?_ ?_⟩
      · rintro i v H4 hi ⟨bs, s4, e4, R4⟩
        obtain ⟨a, ha, rfl⟩ := refs_get hi
        obtain ⟨row, hrow, sr⟩ := hL.2.get ha
        have hil : i < c.length := (List.getElem?_eq_some_iff.mp hrow).1
        refine ⟨rfl, _, rfl, ?_⟩
        dsimp only [tNil]
        refine tupq (.inl (s4 _ _ (q3 sr))) fun H5 t s5 t5 => ?_
        have bl : bs.length ≤ i := by
          have := R4.len
          rw [List.length_take] at this
          omega
        refine ⟨_, s5 _ _ e4, by rw [List.length_map]; exact Nat.lt_of_le_of_lt (show bs.length ≤ 1000 by omega) (by decide), bs ++ [t], ?_, ?_, ?_⟩
        · intro b o hb
          rw [upd_ne (ne_of_none hb hD)]
          exact s5 _ _ (s4 _ _ hb)
        · rw [upd_same, List.map_append]
          rfl
        · rw [take_get hrow]
          have nt : ∀ ys, H5 D ≠ some (.tup ys) := fun ys z => by rw [s5 _ _ e4] at z; cases z
          refine RowsA.snoc ?_ (rowsUpd nt (R4.same s5))
          rw [upd_ne (fun z => by rw [z] at t5; exact nt _ t5)]
          exact t5
      · rintro H4 ⟨bs, s4, e4, R4⟩
        rw [hl2, List.take_length] at R4
        refine ⟨D, _, rfl, .inl ⟨.of e4, fun rt hrt => ?_⟩⟩
        have nxr : x ≠ rt := fun z => by
          have y := s4 _ _ x3
          rw [z, hrt] at y
          cases y
        have npr : pt ≠ rt := fun z => by
          have y := s4 _ _ t3
          rw [z, hrt] at y
          cases y
        have nor : ot ≠ rt := fun z => by
          have y := s4 _ _ t2'
          rw [z, hrt] at y
          cases y
        have x4 : (upd H4 rt (.tup (bs.map V.ref))) x = some (.ins C dx (putF "priorities" (.ref pt) (putF "owners" (.ref ot) []))) := by
          rw [upd_ne nxr]
          exact s4 _ _ x3
        refine ⟨_, rfl, x, C, dx, _, rfl, x4, PC.cl, PC.nm, pl_lt (pl_next (pl_next pl_0)) (by decide), q2 hv _ ?_ ⟨dx, ot, pt, rt, bs, upd_same, ?_, ?_, ?_, ?_⟩⟩
        · intro b o nb hb
          rw [upd_ne nb, upd_ne (fun z => by have y := s4 _ _ (k03 _ _ nb hb); rw [z, hrt] at y; cases y)]
          exact s4 _ _ (k03 _ _ nb hb)
        · show _ = _
          rw [upd_ne nxo.symm, upd_ne nor]
          exact s4 _ _ t2'
        · show _ = _
          rw [upd_ne nxp.symm, upd_ne npr]
          exact s4 _ _ t3
        · rw [upd_ne nxr.symm, upd_same]
        · exact rowsUpd (fun ys z => by rw [x4] at z; cases z) (R4.same (same_new hrt))
def spChkPos (C cL : Addr) : Sp := fun vs H Q E => ∃ (x : Addr) (z : Int) (ow ps : List Int) (c : List (List Int)), vs = [.ref x, .int z] ∧ GmeAt C H x ow ps c ∧ (¬ (0 ≤ z ∧ z < (c.length : Int)) → E (.ref cL) none H) ∧ (0 ≤ z → z < (c.length : Int) → Q .non H)
theorem cal_chkpos {C cL : Addr} (T : Txt K mg) (eL : ErrC K mg "InvalidPosition" cL) (PC : GmeC K C) : CalX P w K mg base 1 "check_position" (spChkPos C cL) := by
  obtain ⟨f, fd, F, hm, hb⟩ := T.h_check_position
  refine ⟨f, fd, _, F.okX sc_check_position (fun vs H Q E h => ?_) (fun cdv A outer s H vs Q E hr h => ?_), hm, F.kp, hb⟩
  · obtain ⟨x, z, ow, ps, c, rfl, _⟩ := h
    rfl
  · obtain ⟨x, z, ow, ps, c, rfl, ⟨dx, ot, pt, rt, as, e1, e2, e3, e4, e5⟩, q1, q2⟩ := h
    refine ⟨_, (pss_one
      (ps_if (PW.pt (pw_or (pt_cmpR op_lt (pv 1) pe_int (nomark _)) (pw_or1 (pt_cmpR op_ge (pv 1) (pe_callB (call_lenK (K := K) rfl) (by rfl) T.z_len PySem.boot_len (pa_cons (pe_fld (pv 0) rfl) pa_nil)) (nomark _))))) (pss_one
      (ps_raise rfl (takes_of rfl rfl rfl rfl) (eL.made rfl))) pss_nil)), ?_⟩
    have hl2 : (as.map V.ref).length = c.length := by rw [List.length_map, e5.len]
    refine ⟨_, rfl, _, _, rfl, rfl, _, rfl, ite2 (fun k => q1 (fun v => by have := of_decide_eq_true k; omega)) (fun k => ?_)⟩
    have k1 : ¬ z < 0 := fun y => k (decide_eq_true y)
    refine ⟨_, rfl, _, rfl, x, C, dx, _, _, rfl, e1, PC.cl, PC.nm, gf_m _ _ _, rt, _, rfl, .inr (.of e4), _, _, rfl, rfl, _, rfl, ite2 (fun k => q1 (fun v => by have := of_decide_eq_true k; rw [hl2] at this; omega)) (fun k => ?_)⟩
    have k2 : ¬ (((as.map V.ref).length : Nat) : Int) ≤ z := fun y => k (decide_eq_true y)
    rw [hl2] at k2
    exact q2 (by omega) (by omega)
theorem RowsA.drop {H : Hp} {D : Addr} {o : HO} {as : List Addr} {rs : List (List Int)} (n : D ∉ as) (h : RowsA .lst H as rs) : RowsA .lst (upd H D o) as rs := h.keep fun b _ hb e => by rw [upd_ne (fun z => n (by rw [← z]; exact hb))]; exact e
theorem rows_upd {q : List Int} : ∀ {H : Hp} {as : List Addr} {rows : List (List Int)} {i : Nat} {a : Addr}, RowsA .lst H as rows → as.Nodup → as[i]? = some a → RowsA .lst (upd H a (.lst (q.map V.int))) as (rows.set i q)
  | _, [], _, _, _, _, _, e => by simp at e
  | _, b :: as, [], _, _, h, _, _ => h.elim
  | H, b :: as, r :: rs, 0, a, h, nd, e => by
    have : b = a := Option.some.inj e
    subst this
    exact ⟨upd_same, My.RowsA.drop (List.nodup_cons.mp nd).1 h.2⟩
  | H, b :: as, r :: rs, i + 1, a, h, nd, e => by
    have e2 : as[i]? = some a := e
    refine ⟨?_, rows_upd h.2 (List.nodup_cons.mp nd).2 e2⟩
    rw [upd_ne (fun z => (List.nodup_cons.mp nd).1 (by rw [z]; exact List.mem_of_getElem? e2))]
    exact h.1
theorem cal_take (T : Txt K mg) : C8.Cal P w K mg base 1 "_law_take" spTake [] := by
  obtain ⟨f, fd, F, hm, hb⟩ := T.h_law_take
  refine ⟨f, fd, _, [], F.ok sc_law_take (fun vs H Q E h => ?_) (fun cdv A outer s H vs Q E hr h => ?_), hm, F.kp, hb, .nil⟩
  · obtain ⟨d, n, rfl, _⟩ := h
    rfl
  · obtain ⟨d, n, rfl, ⟨ds, hd⟩, hn, q⟩ := h
    refine ⟨_, (pss_cons
      (ps_if (pt_cmpR op_eq (pe_callB (call_lenK (K := K) rfl) (by rfl) T.z_len PySem.boot_len (pa_cons (pv 0) pa_nil)) pe_int (nomark _)) (pss_one
      (ps_ret pe_int)) pss_nil)
      (pss_one
      (ps_ret (pe_op op_mod (pe_callTy call_int1 (by rfl) T.z_int (by decide +kernel) (pa_cons (pe_bm0 PySem.F.plainAttrs_list PySem.F.slot_list_pop PySem.F.type_list_pop mt_pop (pv 0)) pa_nil)) (pv 1))))), ?_⟩
    walk_at "bx"
    refine ite2 (fun e => ?_) (fun e => ?_)
    · have q0 := q 0 ds (Int.le_refl 0) hn
      rw [upd_self hd] at q0
      exact q0
    · have hne : ds ≠ [] := fun z => e (by rw [z]; rfl)
      refine ⟨_, rfl, .inl ⟨rfl, _, SqL.of hd⟩, d, _, .int (ds.getLast hne), rfl, rfl, hd, ?_, ?_⟩
      · rw [List.length_map, List.getElem?_map, ← List.getLast?_eq_getElem?, List.getLast?_eq_getLast hne]
        rfl
      · walk_at "bx"
        rw [← List.map_dropLast]
        exact q _ _ (Int.emod_nonneg _ (by omega)) (Int.emod_lt_of_pos _ hn)
theorem cal_draws (T : Txt K mg) : C8.Cal P w K mg base 1 "_law_draws" (spDraws K) [] := by
  obtain ⟨f, fd, F, hm, hb⟩ := T.h_law_draws
  refine ⟨f, fd, _, [], F.ok sc_law_draws (fun vs H Q E h => ?_) (fun cdv A outer s H vs Q E hr h => ?_), hm, F.kp, hb, .nil⟩
  · obtain ⟨a, ns, c, rfl, _⟩ := h
    rfl
  · obtain ⟨a, ns, n, rfl, hS, hn, q⟩ := h
    refine ⟨_, (pss_cons
      (ps_set (i := 2) sc_law_draws.nd rfl (Or.inl rfl) (pe_callTy (call_list_ofK (K := K) rfl) (by rfl) T.z_list (by decide +kernel) (pa_cons (pv 0) pa_nil)))
      (C8.pss_cut
      (ps_if (pt_cmpR op_eq (pe_callB (call_lenK (K := K) rfl) (by rfl) T.z_len PySem.boot_len (pa_cons (pv 2) pa_nil)) pe_int (nomark _)) (pss_one
      (ps_set (i := 2) sc_law_draws.nd rfl (Or.inl rfl) (pe_lst (pa_cons pe_int pa_nil)))) pss_nil)
      (pss_cons
      (ps_set (i := 3) sc_law_draws.nd rfl (Or.inl rfl) (pe_lst pa_nil))
      (pss_cons
      (ps_set (i := 4) sc_law_draws.nd rfl (Or.inl rfl) pe_int)
      (pss_cons
      (ps_for PassesOwn.never rfl (pi_range1 (by rfl) T.z_range (pa_cons (pv 1) pa_nil)) (pg_name (i := 5) sc_law_draws.nd rfl (.inl rfl)) (pss_cons
      (ps_set (i := 6) sc_law_draws.nd rfl (Or.inl rfl) (pe_op op_mod (pv 5) (pe_callB (call_lenK (K := K) rfl) (by rfl) T.z_len PySem.boot_len (pa_cons (pv 2) pa_nil))))
      (pss_cons
      (ps_set (i := 7) sc_law_draws.nd rfl (Or.inl rfl) (pe_ix (ix_listK (K := K) rfl) (pv 2) (pv 6) (fun _ _ => rfl)))
      (pss_cons
      (ps_set (i := 4) sc_law_draws.nd rfl (Or.inl rfl) (pe_op op_mod (pe_callTy call_int1 (by rfl) T.z_int (by decide +kernel) (pa_cons (pe_op op_add (pe_op op_add (pe_op op_add (pe_op op_mul (pv 4) pe_int) (pe_op op_mul (pe_op op_mod (pe_callTy call_int1 (by rfl) T.z_int (by decide +kernel) (pa_cons (pv 7) pa_nil)) pe_int) pe_int)) (pe_op op_mul (pv 5) pe_int)) pe_int) pa_nil)) pe_int))
      (pss_cons
      (ps_set (i := 8) sc_law_draws.nd rfl (Or.inl rfl) (pe_op op_mod (pe_callTy call_int1 (by rfl) T.z_int (by decide +kernel) (pa_cons (pe_op op_add (pe_op op_add (pe_op op_mul (pv 4) (pv 4)) (pe_op op_mul pe_int (pv 4))) (pv 5)) pa_nil)) pe_int))
      (pss_one
      (ps_if (pt_cmpR op_ge (pv 7) (pe_op op_pow pe_int pe_int) (nomark _)) (pss_cons
      (ps_expr (pe_bm PySem.F.plainAttrs_list PySem.F.slot_list_append PySem.F.type_list_append mt_append (pv 3) (pa_cons (pe_op op_mod (pe_callTy call_int1 (by rfl) T.z_int (by decide +kernel) (pa_cons (pv 7) pa_nil)) pe_int) pa_nil)))
      (pss_one
      (ps_asg (pe_op op_fdiv (pv 7) pe_int) (pg_sub (pv 2) (pv 6) set_list)))) (pss_one
      (ps_expr (pe_bm PySem.F.plainAttrs_list PySem.F.slot_list_append PySem.F.type_list_append mt_append (pv 3) (pa_cons (pe_op op_mod (pe_callTy call_int1 (by rfl) T.z_int (by decide +kernel) (pa_cons (pv 8) pa_nil)) pe_int) pa_nil)))))))))))
      (pss_cons
      (ps_expr (pe_bm0 PySem.F.plainAttrs_list PySem.F.slot_list_reverse PySem.F.type_list_reverse mt_reverse (pv 3)))
      (pss_one
      (ps_ret (pv 3))))))))), ?_⟩
    -- cells = list(script)
    refine ⟨_, rfl, a, _, rfl, .inl hS, fun l hl => ?_⟩
    -- if len(cells) == 0: cells = [7]
    refine ⟨fun σ H2 => ∃ (c : Addr) (cs : List Int), σ = [some (.ref a), some (.int n), some (.ref c), none, none, none, none, none, none] ∧ H c = none ∧ Same H H2 ∧ H2 c = some (.lst (cs.map V.int)) ∧ cs ≠ [], ?_, ?_⟩
    · have h0 : (upd H l (.lst (ns.map V.int))) l = some (.lst (ns.map V.int)) := upd_same
      walk_at "bx"
      refine ite2 (fun e => ?_) (fun e => ?_)
      · refine ⟨by show 1 ≤ sizeLine; decide, fun l2 h2 => ?_⟩
        have s1 : Same H (upd H l (.lst (ns.map V.int))) := same_new hl
        exact ⟨l2, [7], rfl, s1.free h2, s1.trans (same_new h2), upd_same, by decide⟩
      · exact ⟨l, ns, rfl, hl, same_new hl, upd_same, fun z => e (by rw [z]; rfl)⟩
    · rintro σ H2 ⟨c, cs, rfl, hc0, s2, hc, hcs⟩
      -- found = [], mixed = 12345
      refine ⟨Nat.zero_le _, fun o ho => ?_⟩
      have hco : c ≠ o := ne_of_none hc ho
      have ho0 : H o = none := s2.free ho
      -- for k in range(count)
      refine ⟨_, rfl, _, rfl, by omega, by omega, for_range (lo := 0) (n := ((n : Int)).toNat) (fun i σ H3 => ∃ (m : Int) (cs fs : List Int) (v5 v6 v7 v8 : Option V), σ = [some (.ref a), some (.int n), some (.ref c), some (.ref o), some (.int m), v5, v6, v7, v8] ∧ 0 ≤ m ∧ m < 2147483647 ∧ Same H H3 ∧ H3 c = some (.lst (cs.map V.int)) ∧ cs ≠ [] ∧ H3 o = some (.lst (fs.map V.int)) ∧ fs.length ≤ i)
        ⟨12345, cs, [], none, none, none, none, rfl, by decide, by decide, s2.trans (same_new ho), by rw [upd_ne hco]; exact hc, hcs, upd_same, Nat.le_refl _⟩ ?_ ?_⟩
      · rintro i σ H3 hi ⟨m, cs, fs, v5, v6, v7, v8, rfl, m0, m1, s3, hc, hcs, hf, hfl⟩
        have hl : 0 < cs.length := List.length_pos_iff.mpr hcs
        obtain ⟨z, hz⟩ : ∃ z, cs[i % cs.length]? = some z := ⟨_, List.getElem?_eq_getElem (Nat.mod_lt _ hl)⟩
        have ej : ((0 : Int) + (i : Int)) % (((cs.map V.int).length : Nat) : Int) = ((i % cs.length : Nat) : Int) := by
          rw [Int.zero_add, List.length_map]
          rfl
        -- j = k % len(cells)
        walk_at "bx"
        refine ⟨(show (0 : Int) < _ by rw [List.length_map]; omega), ?_⟩
        -- cell = cells[j]
        refine ⟨_, rfl, _, rfl, c, _, _, .int z, rfl, rfl, SqL.of hc, ?_, ?_⟩
        · rw [ej]
          exact atI_nat (by rw [List.getElem?_map, hz]; rfl)
        -- mixed, again
        walk_at "bx"
        have b1 : (0 : Int) ≤ z % 1000003 := Int.emod_nonneg _ (by decide)
        refine ⟨.inl ⟨?_, ?_⟩, ?_⟩
        · have := Int.emod_nonneg (m * 48271 + z % 1000003 * 69621 + (0 + (i : Int)) * 7919 + 11) (show (2147483647 : Int) ≠ 0 by decide)
          show -(2 ^ 64) < (m * 48271 + z % 1000003 * 69621 + (0 + (i : Int)) * 7919 + 11) % 2147483647
          omega
        · have := Int.emod_lt_of_pos (m * 48271 + z % 1000003 * 69621 + (0 + (i : Int)) * 7919 + 11) (show (0 : Int) < 2147483647 by decide)
          show (m * 48271 + z % 1000003 * 69621 + (0 + (i : Int)) * 7919 + 11) % 2147483647 < 2 ^ 64
          omega
        have c0 : 0 ≤ (m * 48271 + z % 1000003 * 69621 + (0 + (i : Int)) * 7919 + 11) % 2147483647 := Int.emod_nonneg _ (by decide)
        have c1 : (m * 48271 + z % 1000003 * 69621 + (0 + (i : Int)) * 7919 + 11) % 2147483647 < 2147483647 := Int.emod_lt_of_pos _ (by decide)
        walk_at "bx"
        refine ite2 (fun e => ?_) (fun e => ?_)
        · walk_at "bx"
          refine ⟨lenI (by omega), ?_⟩
          walk_at "bx"
          refine ⟨c, cs.map V.int, _, i % cs.length, rfl, rfl, by rw [upd_ne hco]; exact hc, by rw [ej]; exact ixN_at (by rw [List.length_map]; exact Nat.mod_lt _ hl), ?_⟩
          refine ⟨_, cs.set (i % cs.length) (z / 1000), fs ++ [z % 1000], _, _, _, _, rfl, c0, c1, fun b o' hb => ?_, by rw [upd_same, set_mapI], by simpa using hcs, by rw [upd_ne hco.symm, upd_same]; simp, by simp; omega⟩
          rw [upd_ne (fun z => by rw [z, hc0] at hb; cases hb), upd_ne (fun z => by rw [z, ho0] at hb; cases hb)]
          exact s3 _ _ hb
        · walk_at "bx"
          refine ⟨lenI (by omega), ?_⟩
          refine ⟨_, cs, fs ++ [_], _, _, _, _, rfl, c0, c1, fun b o' hb => ?_, by rw [upd_ne hco]; exact hc, hcs, by rw [upd_same, List.map_append]; rfl, by simp; omega⟩
          rw [upd_ne (fun z => by rw [z, ho0] at hb; cases hb)]
          exact s3 _ _ hb
      · rintro σ H3 ⟨m, cs, fs, v5, v6, v7, v8, rfl, m0, m1, s3, hc, hcs, hf, hfl⟩
        -- found.reverse()
        walk_at "bx"
        refine q _ o (fun b o' hb => ?_) ho0 ⟨fs.reverse, ?_⟩
        · rw [upd_ne (fun z => by rw [z, ho0] at hb; cases hb)]
          exact s3 _ _ hb
        · rw [upd_same, List.map_reverse]
theorem asc_snoc {i : Nat} {xs : List Int} (h : Asc (i : Int) xs) : Asc ((i + 1 : Nat) : Int) (xs ++ [(0 : Int) + (i : Int)]) := by
  refine ⟨List.pairwise_append.mpr ⟨h.1, by simp, fun x hx y hy => ?_⟩, fun x hx => ?_⟩
  · rw [List.mem_singleton.mp hy]
    have := (h.2 x hx).2
    omega
  · rcases List.mem_append.mp hx with z | z
    · have := h.2 x z
      omega
    · rw [List.mem_singleton.mp z]
      omega
theorem asc_mono {n m : Int} {xs : List Int} (h : Asc n xs) (k : n ≤ m) : Asc m xs := ⟨h.1, fun x hx => by have := h.2 x hx; omega⟩
theorem asc_nil (n : Int) : Asc n [] := ⟨by simp, by simp⟩
def spAscd : Sp := fun vs H Q _ => ∃ (d : Addr) (n sh : Int), vs = [.ref d, .int n, .int sh] ∧ Drw H d ∧ 0 ≤ n ∧ n ≤ 1000 ∧
  ∀ (H' : Hp) (t : Addr) (xs : List Int), Kp d H H' → Drw H' d → H t = none → H' t = some (.lst (xs.map V.int)) → Asc n xs → (xs.length : Int) ≤ n → Q (.ref t) H'
theorem cal_ascd (T : Txt K mg) : C8.Cal P w K mg base 2 "_law_ascending" spAscd [] := by
  have C_law_take : C8.Cal P w K mg base 1 "_law_take" spTake [] := cal_take T
  obtain ⟨f, fd, F, hm, hb⟩ := T.h_law_ascending
  refine ⟨f, fd, _, [], F.ok sc_law_ascending (fun vs H Q E h => ?_) (fun cdv A outer s H vs Q E hr h => ?_), hm, F.kp, hb, .nil⟩
  · obtain ⟨d, n, sh, rfl, _⟩ := h
    rfl
  · obtain ⟨d, n, sh, rfl, hd, n0, n1, q⟩ := h
    refine ⟨_, (pss_one
      (ps_ret (pe_lc (own := [("k", 3)]) (g := gName 3) rfl sc_law_ascending.nd (pi_range1 (by rfl) T.z_range (pa_cons (pv 1) pa_nil)) (blkOk_by (N := N_law_ascending) (sc := defScope s_law_ascending) (by decide +kernel)) (fun _ _ _ _ _ => (pg_name (i := 3) sc_law_ascending.nd rfl (Or.inl rfl))) (fun _ _ _ _ _ => (pts_one (pt_cmpR op_lt (C8.pe_c C_law_take hr (by decide) (by rfl) (pa_cons (pv 0) (pa_cons pe_int pa_nil))) (pv 2) (nomark _)))) (fun _ _ _ _ _ => (pv 3))))), ?_⟩
    refine ⟨_, rfl, _, rfl, by omega, by omega, fun D hD => ?_⟩
    have nDd : D ≠ d := fun z => by obtain ⟨o, y⟩ := hd; rw [← z, hD] at y; cases y
    refine lc_range (lo := 0) (n := n.toNat) (fun i H' => ∃ xs : List Int, Kp d H H' ∧ Drw H' d ∧ H' D = some (.lst (xs.map V.int)) ∧ Asc (i : Nat) xs ∧ xs.length ≤ i)
      ⟨[], Kp.new hD, hd.new hD, upd_same, asc_nil _, Nat.le_refl _⟩ ?_ ?_
    · rintro i H1 hi ⟨xs, k1, d1, e1, hA, xl⟩
      refine ⟨rfl, _, rfl, d, 10, rfl, d1, by decide, fun u us u0 u1 => ?_⟩
      have e2 : (upd H1 d (.lst (us.map V.int))) D = some (.lst (xs.map V.int)) := by rw [upd_ne nDd]; exact e1
      have k2 : Kp d H (upd H1 d (.lst (us.map V.int))) := k1.trans Kp.own
      have d2 : Drw (upd H1 d (.lst (us.map V.int))) d := Drw.own
      generalize upd H1 d (.lst (us.map V.int)) = H2 at *
      refine ⟨_, rfl, _, _, rfl, rfl, _, rfl, ite2 (fun c => ?_) (fun c => ⟨xs, k2, d2, e2, asc_mono hA (by omega), by omega⟩)⟩
      refine ⟨_, rfl, _, e2, lenI (by omega), xs ++ [(0 : Int) + (i : Int)], ?_, ?_, ?_, asc_snoc hA, by rw [List.length_append]; show xs.length + 1 ≤ i + 1; omega⟩
      · intro b o nb hb
        rw [upd_ne (ne_of_none hb hD)]
        exact k2 _ _ nb hb
      · obtain ⟨o, y⟩ := d2
        exact ⟨o, by rw [upd_ne nDd.symm]; exact y⟩
      · rw [upd_same, List.map_append]
        rfl
    · rintro H1 ⟨xs, k1, d1, e1, hA, xl⟩
      exact q H1 D xs k1 d1 hD e1 (asc_mono hA (by omega)) (by omega)
def Cpy (H H' : Hp) (r' : Addr) (as' : List Addr) (rows : List (List Int)) : Prop := Same H H' ∧ LL H' r' as' rows ∧ (∀ b ∈ as', H b = none) ∧ H r' = none ∧ r' ∉ as'
/-- one more row of a copy -/
theorem cpy_step {H H' : Hp} {D t : Addr} {bs : List Addr} {rs : List (List Int)} {row : List Int} (h : Cpy H H' D bs rs) (ht : H' t = none) : Cpy H (upd (upd H' t (.lst (row.map V.int))) D (.lst ((bs ++ [t]).map V.ref))) D (bs ++ [t]) (rs ++ [row]) := by
  obtain ⟨s1, ⟨e1, R1⟩, n1, d1, m1⟩ := h
  have nt : D ≠ t := fun z => by rw [z, ht] at e1; cases e1
  refine ⟨fun b o hb => ?_, ⟨upd_same, ?_⟩, fun b hb => ?_, d1, fun z => ?_⟩
  · rw [upd_ne (ne_of_none hb d1), upd_ne (ne_of_none (s1 _ _ hb) ht)]
    exact s1 _ _ hb
  · refine RowsA.snoc ?_ (My.RowsA.drop m1 (R1.same (same_new ht)))
    rw [upd_ne nt.symm, upd_same]
  · rcases List.mem_append.mp hb with z | z
    · exact n1 b z
    · rw [List.mem_singleton.mp z]
      exact s1.free ht
  · rcases List.mem_append.mp z with y | y
    · exact m1 y
    · exact nt (List.mem_singleton.mp y)
theorem cpy_zero {H : Hp} {D : Addr} (hD : H D = none) : Cpy H (upd H D (.lst [])) D [] [] := ⟨same_new hD, ⟨upd_same, True.intro⟩, (by simp), hD, by simp⟩
def spFlat : Sp := fun vs H Q _ => ∃ (r : Addr) (as : List Addr) (rows : List (List Int)), vs = [.ref r] ∧ LL H r as rows ∧ rows.length ≤ 1000 ∧ ∀ (H' : Hp) (r' : Addr) (as' : List Addr), Cpy H H' r' as' rows → Q (.ref r') H'
theorem cal_flat (T : Txt K mg) : C8.Cal P w K mg base 1 "_law_flat" spFlat [] := by
  obtain ⟨f, fd, F, hm, hb⟩ := T.h_law_flat
  refine ⟨f, fd, _, [], F.ok sc_law_flat (fun vs H Q E h => ?_) (fun cdv A outer s H vs Q E hr h => ?_), hm, F.kp, hb, .nil⟩
  · obtain ⟨r, as, rows, rfl, _⟩ := h
    rfl
  · obtain ⟨r, as, rows, rfl, hL, b1, q⟩ := h
    refine ⟨_, (pss_one
      (ps_ret (pe_lc (own := [("row", 1)]) (g := gName 1) (tt := tYes) rfl sc_law_flat.nd (pi_list (pv 0)) (blkOk_by (N := N_law_flat) (sc := defScope s_law_flat) (by decide +kernel)) (fun _ _ _ _ _ => (pg_name (i := 1) sc_law_flat.nd rfl (Or.inl rfl))) (fun _ _ _ _ _ => pts_nil) (fun _ _ _ _ _ => (pe_callTy (call_list_ofK (K := K) rfl) (by rfl) T.z_list (by decide +kernel) (pa_cons (pv 1) pa_nil)))))), ?_⟩
    have hl2 : (as.map V.ref).length = rows.length := by rw [List.length_map, hL.2.len]
    refine ⟨_, rfl, r, rfl, ⟨_, .of hL.1⟩, fun D hD => lc_list (K := K) (a := r) (xs := as.map V.ref) (fun i H' => ∃ bs, Cpy H H' D bs (rows.take i))
      ⟨[], cpy_zero hD⟩ (fun i H' _ ⟨_, z, _⟩ => .of (z _ _ hL.1)) ?_ ?_⟩
    · rintro i v H2 hi ⟨bs, c2⟩
      obtain ⟨a, ha, rfl⟩ := refs_get hi
      obtain ⟨row, hrow, sr⟩ := hL.2.get ha
      have hil : i < rows.length := (List.getElem?_eq_some_iff.mp hrow).1
      have bl := c2.2.1.2.len
      rw [List.length_take] at bl
      have nD : ∀ t, H2 t = none → D ≠ t := fun t ht z => by
        have := c2.2.1.1
        rw [z, ht] at this
        cases this
      refine ⟨rfl, _, rfl, a, _, rfl, .inl (.of (c2.1 _ _ sr)), fun t ht => ⟨_, by rw [upd_ne (nD t ht)]; exact c2.2.1.1, by rw [List.length_map]; exact Nat.lt_of_le_of_lt (show bs.length ≤ 1000 by omega) (by decide), bs ++ [t], ?_⟩⟩
      rw [take_get hrow]
      have := cpy_step (row := row) c2 ht
      rw [List.map_append] at this
      exact this
    · rintro H2 ⟨bs, c2⟩
      rw [hl2, List.take_length] at c2
      exact q _ _ _ c2
def spGame : Sp := fun vs H Q _ => ∃ (d : Addr) (m : Int), vs = [.ref d, .int m] ∧ Drw H d ∧ 1 ≤ m ∧ m ≤ 40 ∧
  ∀ (H' : Hp) (t o p r : Addr) (as : List Addr) (ow ps : List Int) (c : List (List Int)), Kp d H H' → Drw H' d → H' t = some (.tup [.ref o, .ref p, .ref r]) → H' o = some (.lst (ow.map V.int)) → H' p = some (.lst (ps.map V.int)) → LL H' r as c → o ≠ d → p ≠ d → r ≠ d → (∀ a ∈ as, a ≠ d) → Vg ow ps c → (c.length : Int) ≤ m → Q (.ref t) H'
theorem cal_game (T : Txt K mg) : C8.Cal P w K mg base 3 "_law_game" spGame [] := by
  have C_law_take : C8.Cal P w K mg base 1 "_law_take" spTake [] := cal_take T
  have C_law_ascending : C8.Cal P w K mg base 2 "_law_ascending" spAscd [] := cal_ascd T
  obtain ⟨f, fd, F, hm, hb⟩ := T.h_law_game
  refine ⟨f, fd, _, [], F.ok sc_law_game (fun vs H Q E h => ?_) (fun cdv A outer s H vs Q E hr h => ?_), hm, F.kp, hb, .nil⟩
  · obtain ⟨d, m, rfl, _⟩ := h
    rfl
  · obtain ⟨d, m, rfl, hd, m1, m2, q⟩ := h
    refine ⟨_, (pss_cons
      (ps_set (i := 2) sc_law_game.nd rfl (Or.inl rfl) (pe_op op_add pe_int (C8.pe_c C_law_take hr (by decide) (by rfl) (pa_cons (pv 0) (pa_cons (pv 1) pa_nil)))))
      (pss_cons
      (ps_set (i := 3) sc_law_game.nd rfl (Or.inr rfl) (pe_op op_add pe_int (C8.pe_c C_law_take hr (by decide) (by rfl) (pa_cons (pv 0) (pa_cons pe_int pa_nil)))))
      (pss_cons
      (ps_setLc (i := 4) (own := [("k", 8)]) (g := gName 8) (tt := tYes) rfl sc_law_game.nd rfl rfl (sw_true rfl rfl rfl (by decide +kernel)) (pi_range1 (by rfl) T.z_range (pa_cons (pv 2) pa_nil)) (blkOk_by (N := N_law_game) (sc := defScope s_law_game) (by decide +kernel)) (fun _ _ _ _ _ => (pg_name (i := 8) sc_law_game.nd rfl (Or.inl rfl))) (fun _ _ _ _ _ => pts_nil) (fun _ _ _ _ _ => (C8.pe_c C_law_take hr (by decide) (by rfl) (pa_cons (pv 0) (pa_cons pe_int pa_nil)))))
      (pss_cons
      (ps_setLc (i := 5) (own := [("k", 8)]) (g := gName 8) (tt := tYes) rfl sc_law_game.nd rfl rfl (sw_true rfl rfl rfl (by decide +kernel)) (pi_range1 (by rfl) T.z_range (pa_cons (pv 2) pa_nil)) (blkOk_by (N := N_law_game) (sc := defScope s_law_game) (by decide +kernel)) (fun _ _ _ _ _ => (pg_name (i := 8) sc_law_game.nd rfl (Or.inl rfl))) (fun _ _ _ _ _ => pts_nil) (fun _ _ _ _ _ => (C8.pe_c C_law_take hr (by decide) (by rfl) (pa_cons (pv 0) (pa_cons (pv 3) pa_nil)))))
      (pss_cons
      (ps_set (i := 6) sc_law_game.nd rfl (Or.inl rfl) (pe_op op_add pe_int (C8.pe_c C_law_take hr (by decide) (by rfl) (pa_cons (pv 0) (pa_cons pe_int pa_nil)))))
      (pss_cons
      (ps_set (i := 7) sc_law_game.nd rfl (Or.inl rfl) (pe_lst pa_nil))
      (pss_cons
      (ps_for PassesOwn.never rfl (pi_range1 (by rfl) T.z_range (pa_cons (pv 2) pa_nil)) (pg_name (i := 8) sc_law_game.nd rfl (.inl rfl)) (pss_cons
      (ps_set (i := 9) sc_law_game.nd rfl (Or.inl rfl) (C8.pe_c C_law_ascending hr (by decide) (by rfl) (pa_cons (pv 0) (pa_cons (pv 2) (pa_cons (pv 6) pa_nil)))))
      (C8.pss_cut
      (ps_if (pt_cmpR op_eq (pe_callB (call_lenK (K := K) rfl) (by rfl) T.z_len PySem.boot_len (pa_cons (pv 9) pa_nil)) pe_int (nomark _)) (pss_one
      (ps_set (i := 9) sc_law_game.nd rfl (Or.inl rfl) (pe_lst (pa_cons (C8.pe_c C_law_take hr (by decide) (by rfl) (pa_cons (pv 0) (pa_cons (pv 2) pa_nil))) pa_nil)))) pss_nil)
      (pss_one
      (ps_expr (pe_bm PySem.F.plainAttrs_list PySem.F.slot_list_append PySem.F.type_list_append mt_append (pv 7) (pa_cons (pv 9) pa_nil)))))))
      (pss_one
      (ps_ret (pe_tup (pa_cons (pv 4) (pa_cons (pv 5) (pa_cons (pv 7) pa_nil))))))))))))), ?_⟩
    refine ⟨_, rfl, _, rfl, d, m, rfl, hd, by omega, fun cn ds c0 c1 => ?_⟩
    have d1 : Drw (upd H d (.lst (ds.map V.int))) d := Drw.own
    have k1 : Kp d H (upd H d (.lst (ds.map V.int))) := Kp.own
    generalize upd H d (.lst (ds.map V.int)) = H1 at d1 k1 ⊢
    refine ⟨_, _, rfl, rfl, ?_⟩
    show gName 2 (V.int (1 + cn)) _ _ _
    obtain ⟨n, hn⟩ : ∃ n : Nat, 1 + cn = (n : Int) := ⟨(1 + cn).toNat, by omega⟩
    rw [hn]
    have hn0 : 0 < n := by omega
    have hnm : (n : Int) ≤ m := by omega
    refine ⟨_, rfl, d, 5, rfl, d1, by decide, fun tp ds2 t0 t1 => ?_⟩
    have d2 : Drw (upd H1 d (.lst (ds2.map V.int))) d := Drw.own
    have k2 : Kp d H (upd H1 d (.lst (ds2.map V.int))) := k1.trans Kp.own
    generalize upd H1 d (.lst (ds2.map V.int)) = H2 at d2 k2 ⊢
    refine ⟨_, _, rfl, rfl, ?_⟩
    show gName 3 (V.int (1 + tp)) _ _ _
    have ht1 : 1 ≤ 1 + tp := by omega
    generalize 1 + tp = top at ht1 ⊢
    clear k1 d1
    -- owners
    refine ⟨_, rfl, _, rfl, by omega, by omega, fun O hO => ?_⟩
    have nOd : O ≠ d := fun z => by obtain ⟨o, y⟩ := d2; rw [← z, hO] at y; cases y
    rw [Int.toNat_natCast]
    refine lc_range (lo := 0) (n := n) (fun i H' => ∃ xs : List Int, Kp d H2 H' ∧ Drw H' d ∧ H' O = some (.lst (xs.map V.int)) ∧ xs.length = i ∧ ∀ z ∈ xs, 0 ≤ z ∧ z ≤ 1)
      ⟨[], Kp.new hO, d2.new hO, upd_same, rfl, by simp⟩ ?_ ?_
    · rintro i H3 hi ⟨xs, k3, d3, e3, xl, hx⟩
      refine ⟨rfl, _, rfl, d, 2, rfl, d3, by decide, fun u us u0 u1 => ?_⟩
      have e4 : (upd H3 d (.lst (us.map V.int))) O = some (.lst (xs.map V.int)) := by rw [upd_ne nOd]; exact e3
      have k4 : Kp d H2 (upd H3 d (.lst (us.map V.int))) := k3.trans Kp.own
      have d4 : Drw (upd H3 d (.lst (us.map V.int))) d := Drw.own
      generalize upd H3 d (.lst (us.map V.int)) = H4 at e4 k4 d4 ⊢
      refine ⟨_, e4, lenI (by omega), xs ++ [u], fun b o nb hb => ?_, ?_, by rw [upd_same, List.map_append]; rfl, by rw [List.length_append, xl]; rfl, fun z hz => ?_⟩
      · rw [upd_ne (ne_of_none hb hO)]
        exact k4 _ _ nb hb
      · obtain ⟨o, y⟩ := d4
        exact ⟨o, by rw [upd_ne nOd.symm]; exact y⟩
      · rcases List.mem_append.mp hz with y | y
        · exact hx z y
        · rw [List.mem_singleton.mp y]; omega
    rintro H3 ⟨ow, k3, d3, eO, ol, ho⟩
    have k03 := k2.trans k3
    clear k2 d2 k3 hO
    -- priorities
    refine ⟨_, rfl, _, rfl, by omega, by omega, fun O2 hO2 => ?_⟩
    have nPd : O2 ≠ d := fun z => by obtain ⟨o, y⟩ := d3; rw [← z, hO2] at y; cases y
    rw [Int.toNat_natCast]
    refine lc_range (lo := 0) (n := n) (fun i H' => ∃ xs : List Int, Kp d H3 H' ∧ Drw H' d ∧ H' O2 = some (.lst (xs.map V.int)) ∧ xs.length = i ∧ ∀ z ∈ xs, 0 ≤ z)
      ⟨[], Kp.new hO2, d3.new hO2, upd_same, rfl, by simp⟩ ?_ ?_
    · rintro i H4 hi ⟨xs, k4, d4, e4, xl, hx⟩
      refine ⟨rfl, _, rfl, _, rfl, d, top, rfl, d4, by omega, fun u us u0 u1 => ?_⟩
      have e5 : (upd H4 d (.lst (us.map V.int))) O2 = some (.lst (xs.map V.int)) := by rw [upd_ne nPd]; exact e4
      have k5 : Kp d H3 (upd H4 d (.lst (us.map V.int))) := k4.trans Kp.own
      have d5 : Drw (upd H4 d (.lst (us.map V.int))) d := Drw.own
      generalize upd H4 d (.lst (us.map V.int)) = H5 at e5 k5 d5 ⊢
      refine ⟨_, e5, lenI (by omega), xs ++ [u], fun b o nb hb => ?_, ?_, by rw [upd_same, List.map_append]; rfl, by rw [List.length_append, xl]; rfl, fun z hz => ?_⟩
      · rw [upd_ne (ne_of_none hb hO2)]
        exact k5 _ _ nb hb
      · obtain ⟨o, y⟩ := d5
        exact ⟨o, by rw [upd_ne nPd.symm]; exact y⟩
      · rcases List.mem_append.mp hz with y | y
        · exact hx z y
        · rw [List.mem_singleton.mp y]; exact u0
    rintro H4 ⟨ps, k4, d4, eP, pl, hp⟩
    have k04 := k03.trans k4
    have eO4 := k4 _ _ nOd eO
    clear k03 d3 k4 hO2 eO
    -- share
    refine ⟨_, rfl, d, 4, rfl, d4, by decide, fun sh ds3 sh0 sh1 => ?_⟩
    have d5 : Drw (upd H4 d (.lst (ds3.map V.int))) d := Drw.own
    have k5 : Kp d H4 (upd H4 d (.lst (ds3.map V.int))) := Kp.own
    generalize upd H4 d (.lst (ds3.map V.int)) = H5 at d5 k5 ⊢
    have k05 := k04.trans k5
    have eO5 := k5 _ _ nOd eO4
    have eP5 := k5 _ _ nPd eP
    clear k04 d4 eO4 eP k5
    refine ⟨_, _, rfl, rfl, ?_⟩
    show gName 6 (V.int (2 + sh)) _ _ _
    generalize 2 + sh = share
    refine ⟨Nat.zero_le _, fun R hR => ?_⟩
    have nRd : R ≠ d := fun z => by obtain ⟨o, y⟩ := d5; rw [← z, hR] at y; cases y
    refine ⟨_, rfl, _, rfl, by omega, by omega, ?_⟩
    rw [Int.toNat_natCast]
    refine for_range (lo := 0) (n := n) (fun i σ H' => ∃ (v8 v9 : Option V) (as : List Addr) (c : List (List Int)), σ = [some (.ref d), some (.int m), some (.int (n : Int)), some (.int top), some (.ref O), some (.ref O2), some (.int share), some (.ref R), v8, v9] ∧ Kp d H5 H' ∧ Drw H' d ∧ LL H' R as c ∧ c.length = i ∧ (∀ a ∈ as, a ≠ d ∧ a ≠ R) ∧ ∀ r ∈ c, r ≠ [] ∧ Asc (n : Int) r)
      ⟨_, _, [], [], rfl, Kp.new hR, d5.new hR, ⟨upd_same, True.intro⟩, rfl, by simp, by simp⟩ ?_ ?_
    · rintro i σ H6 hi ⟨v8, v9, as, c, rfl, k6, d6, hL, cl, ha, hc⟩
      refine ⟨_, rfl, _, rfl, _, rfl, d, (n : Int), share, rfl, d6, by omega, by omega, fun H7 t xs k7 d7 ht e7 hA xl => ?_⟩
      have keepLL : ∀ {X Y : Hp}, LL X R as c → Kp d X Y → LL Y R as c := fun {X Y} h k => ⟨k _ _ nRd h.1, RowsA.keep (fun b o hb hx => k _ _ (ha b hb).1 hx) h.2⟩
      have hL7 := keepLL hL k7
      have k57 := k6.trans k7
      have ntd : t ≠ d := fun z => by obtain ⟨o, y⟩ := d6; rw [z] at ht; rw [ht] at y; cases y
      have ntR : t ≠ R := fun z => by rw [z, hL.1] at ht; cases ht
      clear hL k7 k6 d6
      refine ⟨fun σ H' => ∃ (row : List Int) (t' : Addr), σ = [some (.ref d), some (.int m), some (.int (n : Int)), some (.int top), some (.ref O), some (.ref O2), some (.int share), some (.ref R), some (.int (0 + (i : Int))), some (.ref t')] ∧ Kp d H5 H' ∧ Drw H' d ∧ LL H' R as c ∧ H' t' = some (.lst (row.map V.int)) ∧ t' ≠ d ∧ t' ≠ R ∧ row ≠ [] ∧ Asc (n : Int) row, ?_, ?_⟩
      · refine ⟨_, rfl, t, _, rfl, .inl (.of e7), rfl, _, rfl, ite_eq (fun y => ?_) (fun y => ⟨xs, t, rfl, k57, d7, hL7, e7, ntd, ntR, fun z => y (by rw [z]; rfl), hA⟩)⟩
        refine ⟨_, rfl, _, rfl, d, (n : Int), rfl, d7, by omega, fun u us u0 u1 => ?_⟩
        have k8 : Kp d H7 (upd H7 d (.lst (us.map V.int))) := Kp.own
        have d8 : Drw (upd H7 d (.lst (us.map V.int))) d := Drw.own
        have hL8 := keepLL hL7 k8
        generalize upd H7 d (.lst (us.map V.int)) = H8 at k8 d8 hL8 ⊢
        refine ⟨by show 1 ≤ sizeLine; decide, fun t2 n2 => ?_⟩
        have s9 := same_new (o := .lst [.int u]) n2
        exact ⟨[u], t2, rfl, (k57.trans k8).trans (fun b o _ hb => s9 _ _ hb), d8.same s9, hL8.same s9, upd_same, (fun z => by obtain ⟨o, y⟩ := d8; rw [z] at n2; rw [n2] at y; cases y), (fun z => by rw [z, hL8.1] at n2; cases n2), by simp, ⟨by simp, fun x hx => by rw [List.mem_singleton.mp hx]; exact ⟨u0, u1⟩⟩⟩
      · rintro σ H8 ⟨row, t', rfl, k8, d8, hL8, e8, nt1, nt2, hne, hasc⟩
        refine ⟨_, rfl, .inl ⟨rfl, _, .of hL8.1⟩, _, rfl, R, _, _, rfl, rfl, hL8.1, by rw [List.length_map, hL8.2.len]; exact Nat.lt_of_le_of_lt (show c.length ≤ 1000 by omega) (by decide), ?_⟩
        have hRm : R ∉ as := fun z => (ha R z).2 rfl
        refine ⟨_, _, as ++ [t'], c ++ [row], rfl, fun b o nb hb => ?_, ?_, ⟨by rw [upd_same, List.map_append]; rfl, RowsA.snoc (by rw [upd_ne nt2]; exact e8) (My.RowsA.drop hRm hL8.2)⟩, by rw [List.length_append, cl]; rfl, fun b hb => ?_, fun r hr => ?_⟩
        · rw [upd_ne (ne_of_none hb hR)]
          exact k8 _ _ nb hb
        · obtain ⟨o, y⟩ := d8
          exact ⟨o, by rw [upd_ne nRd.symm]; exact y⟩
        · rcases List.mem_append.mp hb with y | y
          · exact ha b y
          · rw [List.mem_singleton.mp y]; exact ⟨nt1, nt2⟩
        · rcases List.mem_append.mp hr with y | y
          · exact hc r y
          · rw [List.mem_singleton.mp y]; exact ⟨hne, hasc⟩
    rintro σ H6 ⟨v8, v9, as, c, rfl, k6, d6, hL, cl, ha, hc⟩
    refine ⟨_, rfl, _, rfl, _, rfl, by show 3 ≤ sizeLine; decide, fun t ht => ?_⟩
    have s7 := same_new (o := .tup [.ref O, .ref O2, .ref R]) ht
    exact q _ t O O2 R as ow ps c ((k05.trans k6).trans (fun b o _ hb => s7 _ _ hb)) (d6.same s7) upd_same (s7 _ _ (k6 _ _ nOd eO5)) (s7 _ _ (k6 _ _ nPd eP5)) (hL.same s7) nOd nPd nRd (fun a h => (ha a h).1) ⟨fun z => by rw [z] at cl; simp at cl; omega, by omega, by omega, ho, hp, by rw [cl]; exact hc⟩ (by omega)
/-! walks that stay within some nodes, and cycles whose greatest number is of a kind -/
inductive RS (g : Gr.G) (S : Nat → Prop) : Nat → Nat → Prop
  | refl {u : Nat} : S u → RS g S u u
  | step {u x v : Nat} : S u → Gr.E g u x → RS g S x v → RS g S u v
theorem RS.src {g : Gr.G} {S : Nat → Prop} {u v : Nat} (h : RS g S u v) : S u := by cases h <;> assumption
theorem RS.tgt {g : Gr.G} {S : Nat → Prop} {u v : Nat} (h : RS g S u v) : S v := by
  induction h with
  | refl h => exact h
  | step _ _ _ ih => exact ih
theorem RS.trans {g : Gr.G} {S : Nat → Prop} {u v x : Nat} (h : RS g S u v) (k : RS g S v x) : RS g S u x := by
  induction h with
  | refl _ => exact k
  | step a b _ ih => exact .step a b (ih k)
theorem RS.mono {g : Gr.G} {S S' : Nat → Prop} {u v : Nat} (h : RS g S u v) (m : ∀ x, S x → S' x) : RS g S' u v := by
  induction h with
  | refl a => exact .refl (m _ a)
  | step a b _ ih => exact .step (m _ a) b ih
theorem RS.rc {g : Gr.G} {S : Nat → Prop} {u v : Nat} (h : RS g S u v) : Gr.Rc g u v := by
  induction h with
  | refl _ => exact .refl _
  | step _ b _ ih => exact .step b ih
/-- closed under the edges: no walk leaves -/
theorem RS.of_rc {g : Gr.G} {S : Nat → Prop} (cl : ∀ u v, S u → Gr.E g u v → S v) {u v : Nat} (h : Gr.Rc g u v) (hu : S u) : RS g S u v := by
  induction h with
  | refl _ => exact .refl hu
  | step b _ ih => exact .step hu b (ih (cl _ _ hu b))
/-- a walk, cut to where all nodes between reach its end and are reached from its start -/
theorem RS.cut {g : Gr.G} {S : Nat → Prop} {u v : Nat} (h : RS g S u v) : RS g (fun x => S x ∧ RS g S u x ∧ RS g S x v) u v := by
  have gen : ∀ {a b : Nat}, RS g S a b → RS g S u a → b = v → RS g (fun x => S x ∧ RS g S u x ∧ RS g S x v) a b := by
    intro a b k
    induction k with
    | refl h => exact fun q e => .refl ⟨h, q, by rw [← e]; exact .refl h⟩
    | step h e r ih => exact fun q z => .step ⟨h, q, by rw [← z]; exact .step h e r⟩ e (ih (q.trans (.step h e (.refl r.src))) z)
  exact gen h (.refl h.src) rfl
def subN (g : Gr.G) (ns : List Nat) : Gr.G := ns.map fun n => ((Gr.row g n).filter fun v => decide (v ∈ ns)).map ns.idxOf
theorem subN_len (g : Gr.G) (ns : List Nat) : (subN g ns).length = ns.length := List.length_map _
theorem row_subN {g : Gr.G} {ns : List Nat} {i u : Nat} (h : ns[i]? = some u) : Gr.row (subN g ns) i = ((Gr.row g u).filter fun v => decide (v ∈ ns)).map ns.idxOf := by
  unfold Gr.row subN
  rw [List.getD_eq_getElem?_getD, List.getElem?_map, h]
  rfl
theorem idxN {us : List Nat} {u : Nat} (h : u ∈ us) : us[us.idxOf u]? = some u := by
  have hl := List.idxOf_lt_length_of_mem h
  rw [List.getElem?_eq_getElem hl, List.getElem_idxOf]
theorem row_ge {g : Gr.G} {i : Nat} (h : g.length ≤ i) : Gr.row g i = [] := by
  unfold Gr.row
  rw [List.getD_eq_getElem?_getD, List.getElem?_eq_none h]
  rfl
theorem subN_ok (g : Gr.G) (ns : List Nat) : Gr.Ok (subN g ns) := by
  intro i v hv
  rw [subN_len]
  rcases Nat.lt_or_ge i ns.length with c | c
  · rw [row_subN (List.getElem?_eq_getElem c)] at hv
    obtain ⟨x, hx, rfl⟩ := List.mem_map.mp hv
    exact List.idxOf_lt_length_of_mem (of_decide_eq_true (List.mem_filter.mp hx).2)
  · rw [row_ge (by rw [subN_len]; exact c)] at hv
    cases hv
theorem subN_E {g : Gr.G} {ns : List Nat} (nd : ns.Nodup) {i j u v : Nat} (hi : ns[i]? = some u) (hj : ns[j]? = some v) : Gr.E (subN g ns) i j ↔ Gr.E g u v := by
  unfold Gr.E
  rw [row_subN hi]
  constructor
  · intro h
    obtain ⟨x, hx, e⟩ := List.mem_map.mp h
    have hx2 : x ∈ ns := of_decide_eq_true (List.mem_filter.mp hx).2
    have e2 := idxN hx2
    rw [e, hj] at e2
    cases e2
    exact (List.mem_filter.mp hx).1
  · intro h
    have hv := List.mem_of_getElem? hj
    exact List.mem_map.mpr ⟨v, List.mem_filter.mpr ⟨h, decide_eq_true hv⟩, nd_inj nd (idxN hv) hj⟩
theorem subN_rc {g : Gr.G} {ns : List Nat} (nd : ns.Nodup) {i j u v : Nat} (hi : ns[i]? = some u) (hj : ns[j]? = some v) : Gr.Rc (subN g ns) i j ↔ RS g (· ∈ ns) u v := by
  constructor
  · intro h
    induction h generalizing u with
    | refl x =>
      rw [hi] at hj
      cases hj
      exact .refl (List.mem_of_getElem? hi)
    | step a b ih =>
      rename_i x y z
      have hy : y < ns.length := by
        have := subN_ok g ns _ _ a
        rwa [subN_len] at this
      have ey := List.getElem?_eq_getElem hy
      exact .step (List.mem_of_getElem? hi) ((subN_E nd hi ey).mp a) (ih ey hj)
  · intro h
    induction h generalizing i with
    | refl x =>
      rw [nd_inj nd hi hj]
      exact .refl _
    | step a b c ih =>
      have ey := idxN c.src
      exact .step ((subN_E nd hi ey).mpr b) (ih ey hj)
/-- the members whose number is i -/
def grpOf (ns h : List Nat) (i : Nat) : List Nat := ((ns.zip h).filter fun p => decide (p.2 = i)).map (·.1)
def grps (ns h : List Nat) (c : Nat) : List (List Nat) := (List.range c).map (grpOf ns h)
theorem grpOf_snoc {ns h : List Nat} {x y i : Nat} (hl : ns.length = h.length) : grpOf (ns ++ [x]) (h ++ [y]) i = if y = i then grpOf ns h i ++ [x] else grpOf ns h i := by
  unfold grpOf
  rw [List.zip_append hl, List.filter_append, List.map_append]
  by_cases e : y = i
  · rw [if_pos e]
    subst e
    simp
  · rw [if_neg e]
    simp [e]
theorem grpOf_mem {ns h : List Nat} {i x : Nat} : x ∈ grpOf ns h i ↔ ∃ k : Nat, ns[k]? = some x ∧ h[k]? = some i := by
  unfold grpOf
  constructor
  · intro q
    obtain ⟨p, hp, rfl⟩ := List.mem_map.mp q
    obtain ⟨hz, e⟩ := List.mem_filter.mp hp
    obtain ⟨k, hk⟩ := List.mem_iff_getElem?.mp hz
    obtain ⟨h1, h2⟩ := List.getElem?_zip_eq_some.mp hk
    exact ⟨k, h1, by rw [h2, of_decide_eq_true e]⟩
  · rintro ⟨k, h1, h2⟩
    exact List.mem_map.mpr ⟨(x, i), List.mem_filter.mpr ⟨List.mem_of_getElem? (List.getElem?_zip_eq_some.mpr ⟨h1, h2⟩), by simp⟩, rfl⟩
theorem grpOf_nodup {ns h : List Nat} (nd : ns.Nodup) (i : Nat) : (grpOf ns h i).Nodup := by
  have h1 : (grpOf ns h i).Sublist ((ns.zip h).map (·.1)) := (List.filter_sublist).map _
  have h2 : ((ns.zip h).map (·.1)).Sublist ns := by
    have : (ns.zip h).map (·.1) = ns.take (min ns.length h.length) := by
      apply List.ext_getElem?
      intro k
      rw [List.getElem?_map, List.getElem?_take]
      rcases Nat.lt_or_ge k (min ns.length h.length) with c | c
      · rw [if_pos c, List.getElem?_eq_getElem (by rw [List.length_zip]; exact c), List.getElem_zip, List.getElem?_eq_getElem (by omega)]
        rfl
      · rw [if_neg (by omega), List.getElem?_eq_none (by rw [List.length_zip]; exact c)]
        rfl
    rw [this]
    exact List.take_sublist _ _
  exact nd.sublist (h1.trans h2)
def lsum (l : List (List Nat)) : Nat := (l.map List.length).sum
theorem lsum_cons (a : List Nat) (l : List (List Nat)) : lsum (a :: l) = a.length + lsum l := rfl
theorem lsum_append (l m : List (List Nat)) : lsum (l ++ m) = lsum l + lsum m := by
  unfold lsum
  rw [List.map_append, List.sum_append]
theorem lsum_set {l : List (List Nat)} {i : Nat} {a b : List Nat} (h : l[i]? = some a) : lsum (l.set i b) + a.length = lsum l + b.length := by
  induction l generalizing i with
  | nil => simp at h
  | cons x l ih =>
    cases i with
    | zero =>
      simp at h
      subst h
      rw [List.set_cons_zero, lsum_cons, lsum_cons]
      omega
    | succ i =>
      rw [List.set_cons_succ, lsum_cons, lsum_cons]
      have := ih (i := i) (by simpa using h)
      omega
theorem grps_get {ns h : List Nat} {c i : Nat} (hi : i < c) : (grps ns h c)[i]? = some (grpOf ns h i) := by
  unfold grps
  rw [List.getElem?_map, List.getElem?_range hi]
  rfl
theorem grps_len (ns h : List Nat) (c : Nat) : (grps ns h c).length = c := by
  unfold grps
  rw [List.length_map, List.length_range]
theorem grps_snoc {ns h : List Nat} {x y c : Nat} (hl : ns.length = h.length) (hy : y < c) : grps (ns ++ [x]) (h ++ [y]) c = (grps ns h c).set y (grpOf ns h y ++ [x]) := by
  apply List.ext_getElem?
  intro k
  rcases Nat.lt_or_ge k c with z | z
  · rw [grps_get z, grpOf_snoc hl]
    by_cases e : y = k
    · subst e
      rw [if_pos rfl, List.getElem?_set_self (by rw [grps_len]; exact z)]
    · rw [if_neg e, List.getElem?_set_ne e, grps_get z]
  · rw [List.getElem?_eq_none (by rw [grps_len]; exact z), List.getElem?_eq_none (by rw [List.length_set, grps_len]; exact z)]
theorem grps_sum {c : Nat} : ∀ (k : Nat) {ns h : List Nat}, k = ns.length → ns.length = h.length → (∀ i ∈ h, i < c) → lsum (grps ns h c) = ns.length := by
  intro k
  induction k with
  | zero =>
    intro ns h e hl _
    have e1 : ns = [] := List.eq_nil_of_length_eq_zero e.symm
    subst e1
    have : grps [] h c = List.replicate c [] := by
      apply List.ext_getElem?
      intro k
      rw [List.getElem?_replicate]
      rcases Nat.lt_or_ge k c with z | z
      · rw [grps_get z, if_pos z]
        rfl
      · rw [if_neg (by omega), List.getElem?_eq_none (by rw [grps_len]; exact z)]
    rw [this]
    unfold lsum
    rw [List.map_replicate, List.sum_replicate_nat]
    simp
  | succ k ih =>
    intro ns h e hl hc
    rcases List.eq_nil_or_concat ns with e1 | ⟨ns', x, rfl⟩
    · rw [e1] at e; cases e
    rcases List.eq_nil_or_concat h with e2 | ⟨h', y, rfl⟩
    · rw [e2] at hl; simp at hl
    simp only [List.concat_eq_append] at *
    rw [List.length_append, List.length_append] at hl
    rw [List.length_append] at e
    have hl' : ns'.length = h'.length := by simpa using hl
    have hy := hc y (by simp)
    have := ih (ns := ns') (h := h') (by simpa using e) hl' (fun i hi => hc i (by simp [hi]))
    rw [grps_snoc hl' hy, List.length_append]
    have := lsum_set (l := grps ns' h' c) (i := y) (b := grpOf ns' h' y ++ [x]) (grps_get hy)
    rw [List.length_append] at this
    have e1 : [x].length = 1 := rfl
    omega
/-- the components of some nodes, those that lead to others first -/
structure Grp (g : Gr.G) (ns : List Nat) (gs : List (List Nat)) : Prop where
  mem : ∀ x, x ∈ ns ↔ ∃ G ∈ gs, x ∈ G
  ne : ∀ G ∈ gs, G ≠ []
  nd : ∀ G ∈ gs, G.Nodup
  sum : lsum gs = ns.length
  mu : ∀ G ∈ gs, ∀ x ∈ G, ∀ y ∈ ns, (y ∈ G ↔ RS g (· ∈ ns) x y ∧ RS g (· ∈ ns) y x)
  ed : ∀ (i j : Nat) (A B : List Nat), gs[i]? = some A → gs[j]? = some B → ∀ x ∈ A, ∀ y ∈ B, Gr.E g x y → i ≤ j
theorem grp_of {g : Gr.G} {ns h : List Nat} {c : Nat} (nd : ns.Nodup) (C : Gr.Comps (subN g ns) h c) : Grp g ns (grps ns h c) := by
  have hl : ns.length = h.length := by rw [C.len, subN_len]
  have hg : ∀ {G : List Nat}, G ∈ grps ns h c → ∃ i, i < c ∧ G = grpOf ns h i := fun {G} hG => by
    obtain ⟨i, hi, rfl⟩ := List.mem_map.mp hG
    exact ⟨i, List.mem_range.mp hi, rfl⟩
  refine ⟨fun x => ⟨fun hx => ?_, fun ⟨G, hG, hx⟩ => ?_⟩, fun G hG => ?_, fun G hG => ?_, grps_sum _ rfl hl C.lt, fun G hG x hx y hy => ?_, fun i j A B hA hB x hx y hy e => ?_⟩
  · obtain ⟨k, hk⟩ := List.mem_iff_getElem?.mp hx
    have hkl := lt_of_get hk
    have e := List.getElem?_eq_getElem (show k < h.length by omega)
    exact ⟨grpOf ns h h[k], List.mem_map.mpr ⟨h[k], List.mem_range.mpr (C.lt _ (List.getElem_mem _)), rfl⟩, grpOf_mem.mpr ⟨k, hk, e⟩⟩
  · obtain ⟨i, _, rfl⟩ := hg hG
    obtain ⟨k, hk, _⟩ := grpOf_mem.mp hx
    exact List.mem_of_getElem? hk
  · obtain ⟨i, hi, rfl⟩ := hg hG
    obtain ⟨k, hk⟩ := List.mem_iff_getElem?.mp (C.us i hi)
    have hkl := lt_of_get hk
    have := grpOf_mem (ns := ns) (h := h).mpr ⟨k, List.getElem?_eq_getElem (show k < ns.length by omega), hk⟩
    exact fun z => by rw [z] at this; cases this
  · obtain ⟨i, _, rfl⟩ := hg hG
    exact grpOf_nodup nd i
  · obtain ⟨i, hi, rfl⟩ := hg hG
    obtain ⟨k, hk, hk2⟩ := grpOf_mem.mp hx
    obtain ⟨l, hl1⟩ := List.mem_iff_getElem?.mp hy
    have hll := lt_of_get hl1
    have e := List.getElem?_eq_getElem (show l < h.length by omega)
    have key := C.eq k l i h[l] hk2 e
    unfold Gr.Mu at key
    rw [subN_rc nd hk hl1, subN_rc nd hl1 hk] at key
    rw [← key]
    constructor
    · intro q
      obtain ⟨l', h1, h2⟩ := grpOf_mem.mp q
      have ll := nd_inj nd hl1 h1
      subst ll
      exact (Option.some.inj (e.symm.trans h2)).symm
    · intro q
      exact grpOf_mem.mpr ⟨l, hl1, by rw [e, q]⟩
  · have hic : i < c := by have := lt_of_get hA; rwa [grps_len] at this
    have hjc : j < c := by have := lt_of_get hB; rwa [grps_len] at this
    rw [grps_get hic] at hA
    rw [grps_get hjc] at hB
    cases hA
    cases hB
    obtain ⟨k, h1, h2⟩ := grpOf_mem.mp hx
    obtain ⟨l, h3, h4⟩ := grpOf_mem.mp hy
    exact C.ed k l i j ((subN_E nd h1 h3).mpr e) h2 h4
/-- a cycle in S whose greatest number is of the kind p -/
def BadIn (g : Gr.G) (pr : Nat → Int) (p : Int) (S : Nat → Prop) : Prop := ∃ k v, S k ∧ pr k % 2 = p ∧ Gr.E g k v ∧ RS g (fun x => S x ∧ pr x ≤ pr k) v k
theorem BadIn.mono {g : Gr.G} {pr : Nat → Int} {p : Int} {S S' : Nat → Prop} (h : BadIn g pr p S) (m : ∀ x, S x → S' x) : BadIn g pr p S' := by
  obtain ⟨k, v, h1, h2, h3, h4⟩ := h
  exact ⟨k, v, m _ h1, h2, h3, h4.mono fun x q => ⟨m _ q.1, q.2⟩⟩
theorem bad_grp {g : Gr.G} {pr : Nat → Int} {p : Int} {ns : List Nat} {gs : List (List Nat)} (G : Grp g ns gs) : BadIn g pr p (· ∈ ns) ↔ ∃ A ∈ gs, BadIn g pr p (· ∈ A) := by
  constructor
  · rintro ⟨k, v, h1, h2, h3, h4⟩
    obtain ⟨A, hA, hk⟩ := (G.mem k).mp h1
    refine ⟨A, hA, k, v, hk, h2, h3, h4.cut.mono fun x ⟨⟨q1, q2⟩, q3, q4⟩ => ⟨?_, q2⟩⟩
    have q3' : RS g (· ∈ ns) v x := q3.mono fun y z => z.1
    have q4' : RS g (· ∈ ns) x k := q4.mono fun y z => z.1
    exact (G.mu A hA k hk x q1).mpr ⟨.step h1 h3 q3', q4'⟩
  · rintro ⟨A, hA, h⟩
    exact h.mono fun x hx => (G.mem x).mpr ⟨A, hA, hx⟩
theorem bad_high {g : Gr.G} {pr : Nat → Int} {p : Int} {ns : List Nat} {gs : List (List Nat)} (G : Grp g ns gs) {A : List Nat} (hA : A ∈ gs) {k : Nat} (hk : k ∈ A) (hm : ∀ x ∈ A, pr x ≤ pr k) (hp : pr k % 2 = p)
    (nt : 1 < A.length ∨ ∃ a, A[0]? = some a ∧ Gr.E g a a) : BadIn g pr p (· ∈ ns) := by
  have inn : ∀ x, x ∈ A → x ∈ ns := fun x hx => (G.mem x).mpr ⟨A, hA, hx⟩
  have two : (∃ y ∈ A, y ≠ k) ∨ Gr.E g k k := by
    by_cases c : ∃ y ∈ A, y ≠ k
    · exact .inl c
    · refine .inr ?_
      have all : ∀ y ∈ A, y = k := fun y hy => Classical.byContradiction fun z => c ⟨y, hy, z⟩
      rcases nt with nt | ⟨a, ha, he⟩
      · exfalso
        have e0 := List.getElem?_eq_getElem (show 0 < A.length by omega)
        have e1 := List.getElem?_eq_getElem nt
        have a0 := all _ (List.mem_of_getElem? e0)
        have a1 := all _ (List.mem_of_getElem? e1)
        rw [a0] at e0
        rw [a1] at e1
        have := nd_inj (G.nd A hA) e0 e1
        omega
      · rw [all a (List.mem_of_getElem? ha)] at he
        exact he
  rcases two with ⟨y, hy, hne⟩ | he
  · obtain ⟨r1, r2⟩ := (G.mu A hA k hk y (inn y hy)).mp hy
    -- the first edge of the walk to y
    have : ∃ v, Gr.E g k v ∧ RS g (· ∈ ns) v y := by
      cases r1 with
      | refl h => exact absurd rfl hne
      | step h e r => exact ⟨_, e, r⟩
    obtain ⟨v, e1, e2⟩ := this
    have e3 : RS g (· ∈ ns) v k := e2.trans r2
    refine ⟨k, v, inn k hk, hp, e1, e3.cut.mono fun x ⟨q1, q2, q3⟩ => ⟨q1, hm x ?_⟩⟩
    exact (G.mu A hA k hk x q1).mpr ⟨.step (inn k hk) e1 q2, q3⟩
  · exact ⟨k, k, inn k hk, hp, he, .refl ⟨inn k hk, Int.le_refl _⟩⟩
theorem bad_less {g : Gr.G} {pr : Nat → Int} {p m : Int} {A : List Nat} (hm : ∀ x ∈ A, pr x ≤ m) (hp : m % 2 ≠ p) : BadIn g pr p (· ∈ A) ↔ BadIn g pr p (· ∈ A.filter fun x => decide (pr x < m)) := by
  constructor
  · rintro ⟨k, v, h1, h2, h3, h4⟩
    have hk : pr k < m := by
      have := hm k h1
      have : pr k ≠ m := fun z => hp (by rw [← z]; exact h2)
      omega
    exact ⟨k, v, List.mem_filter.mpr ⟨h1, decide_eq_true hk⟩, h2, h3, h4.mono fun x q => ⟨List.mem_filter.mpr ⟨q.1, decide_eq_true (by have := q.2; omega)⟩, q.2⟩⟩
  · exact fun h => h.mono fun x hx => (List.mem_filter.mp hx).1
theorem bad_one {g : Gr.G} {pr : Nat → Int} {p : Int} {a : Nat} (h : ¬ Gr.E g a a) : ¬ BadIn g pr p (· ∈ [a]) := by
  rintro ⟨k, v, h1, h2, h3, h4⟩
  have e1 := List.mem_singleton.mp h1
  have e2 := List.mem_singleton.mp h4.src.1
  rw [e1, e2] at h3
  exact h h3
theorem row_repl (i j : Nat) : Gr.row (List.replicate i ([] : List Nat)) j = [] := by
  unfold Gr.row
  rw [List.getD_eq_getElem?_getD, List.getElem?_replicate]
  split <;> rfl
theorem NL.add {H0 H2 H3 : Hp} {D t : Addr} {bs : List Addr} {i : Nat} (s2 : Same H0 H2) (h2 : NL H0 D bs (List.replicate i []) H2) (nt : H2 t = none) (s : Same H2 H3) (et : H3 t = some (.lst [])) : NL H0 D (bs ++ [t]) (List.replicate (i + 1) []) (upd H3 D (.lst (bs.map V.ref ++ [V.ref t]))) := by
  have h3 := h2.keep s
  have hbl : bs.length = i := by rw [h2.len, List.length_replicate]
  have ntD : t ≠ D := fun z => by rw [z, h2.d] at nt; cases nt
  have ntb : t ∉ bs := fun z => by
    obtain ⟨j, hj⟩ := List.mem_iff_getElem?.mp z
    rw [h2.get j t hj] at nt
    cases nt
  refine ⟨?_, ?_, List.nodup_append.mpr ⟨h2.nd, by simp, fun a ha b hb' => by rw [List.mem_singleton.mp hb']; exact fun z => ntb (z ▸ ha)⟩, fun b hb' => ?_, fun j b hj => ?_⟩
  · rw [upd_same, List.map_append]; rfl
  · rw [List.length_append, hbl]; simp
  · rcases List.mem_append.mp hb' with z | z
    · exact h2.fr b z
    · rw [List.mem_singleton.mp z]; exact ⟨s2.free nt, ntD⟩
  · rcases snocg hj with ⟨_, z⟩ | ⟨_, z⟩
    · rw [upd_ne (h2.fr b (List.mem_of_getElem? z)).2, h3.get j b z, row_repl, row_repl]
    · rw [z, upd_ne ntD, et, row_repl]; rfl
def spPart : Sp := fun vs H Q _ => ∃ (r a : Addr) (g : Gr.G) (ns : List Nat), vs = [.ref r, .ref a] ∧ GrL H r g ∧ H a = some (.lst (ns.map VN)) ∧ ns.Nodup ∧ (∀ n ∈ ns, n < g.length) ∧ g.length ≤ 1000 ∧ (∀ n, (Gr.row g n).length ≤ 1000) ∧
  ∀ (H' : Hp) (y : Addr), Same H H' → H y = none → GrL H' y (subN g ns) → Q (.ref y) H'
theorem sub_row_snoc (ns l : List Nat) (x : Nat) : ((l ++ [x]).filter fun v => decide (v ∈ ns)).map ns.idxOf = if x ∈ ns then (l.filter fun v => decide (v ∈ ns)).map ns.idxOf ++ [ns.idxOf x] else (l.filter fun v => decide (v ∈ ns)).map ns.idxOf := by
  rw [List.filter_append, List.map_append]
  by_cases h : x ∈ ns
  · rw [if_pos h, List.filter_cons_of_pos (by simpa using h)]; rfl
  · rw [if_neg h, List.filter_cons_of_neg (by simpa using h)]; simp
abbrev pScope : Scope := { kind := ScopeKind.function, names := [(".0", NameKind.local), ("node", NameKind.local), ("graph", NameKind.cell), ("numbers", NameKind.cell)], isGenerator := false, isCoroutine := false }
theorem cal_part (T : Txt K mg) : C8.Cal P w K mg base 1 "part_of" spPart [] := by
  obtain ⟨f, fd, F, hm, hb⟩ := T.h_part_of
  refine ⟨f, fd, _, [], F.ok sc_part_of (fun vs H Q E h => ?_) (fun cdv A outer s H vs Q E hr h => ?_), hm, F.kp, hb, .nil⟩
  · obtain ⟨r, a, g, ns, rfl, _⟩ := h
    rfl
  · obtain ⟨r, U, g, ns, rfl, hG, eU, hnd, hlt, hgl, hrl, q⟩ := h
    refine ⟨_, (pss_cons
      (ps_set (i := 2) sc_part_of.nd rfl (Or.inr rfl) (pe_dc (own := [("at", 3), ("node", 4)]) (g := gTup K 2 (gCons (gName 3) (gCons (gName 4) gNil))) (tt := tYes) rfl sc_part_of.nd (pi_enum (by rfl) T.z_enumerate (pa_cons (pv 1) pa_nil)) (blkOk_by (N := N_part_of) (sc := defScope s_part_of) (by decide +kernel)) (fun _ _ _ _ _ => (pg_tup (by rfl) (pgs_cons (pg_name (i := 3) sc_part_of.nd rfl (Or.inl rfl)) (pgs_cons (pg_name (i := 4) sc_part_of.nd rfl (Or.inl rfl)) pgs_nil)))) (fun _ _ _ _ _ => pts_nil) (fun _ _ _ _ _ => (pv 4)) (fun _ _ _ _ _ => (pv 3))))
      (pss_one
      (ps_ret (pe_lc (own := [("node", 4)]) (g := gName 4) (tt := tYes) rfl sc_part_of.nd (pi_list (pv 1)) (blkOk_by (N := N_part_of) (sc := defScope s_part_of) (by decide +kernel)) (fun _ _ _ _ _ => (pg_name (i := 4) sc_part_of.nd rfl (Or.inl rfl))) (fun _ _ _ _ _ => pts_nil) (fun _ _ _ _ _ => (pe_lc (own := [("target", 5)]) (g := gName 5) rfl sc_part_of.nd (pi_listK (K := K) rfl (pe_ix (ix_listK (K := K) rfl) (pv 0) (pv 4) (fun _ _ => rfl))) (blkOk_by (N := N_part_of) (sc := pScope) (by decide +kernel)) (fun _ _ _ _ _ => (pg_name (i := 5) sc_part_of.nd rfl (Or.inl rfl))) (fun _ _ _ _ _ => (pts_one (pt_cmp (pc_din (hu_of hr) (pv 5) (pv 2))))) (fun _ _ _ _ _ => (pe_dget (hu_of hr) (pv 2) (pv 5) (fun _ _ => rfl))))))))), ?_⟩
    obtain ⟨as, hr0, hal, ha⟩ := id hG
    have hul : ns.length ≤ 1000 := by have := nd_len hnd hlt; omega
    refine ⟨_, rfl, U, _, rfl, .of eU, fun d nd => dc_it (walk_enum (K := K) (a := U) (xs := ns.map VN)) (fun i H' => Same H H' ∧ H' d = some (.dK (numK (ns.take i))))
      ⟨same_new nd, upd_same⟩ (fun i H' _ ⟨z, _⟩ => .of (z _ _ eU)) ?_ ?_⟩
    · rintro i v H3 H4 hi ⟨s3, ed⟩ ⟨p, xi, y, rfl, np, rfl, hx, hy⟩
      obtain rfl := Option.some.inj hx
      obtain ⟨u, hu, rfl⟩ := nats_get hy
      generalize hX : upd H3 p _ = H4; obtain ⟨sH4, ep⟩ := nw np hX; clear hX
      refine ⟨p, _, rfl, .of ep, rfl, _, _, rfl, _, _, rfl, rfl, rfl, ?_⟩
      have ed4 := sH4 _ _ ed
      have hil := lt_of_get hu
      have hni : u ∉ ns.take i := fun hm => by
        obtain ⟨j, hj⟩ := List.mem_iff_getElem?.mp hm
        rw [List.getElem?_take] at hj
        split at hj
        · rename_i hji
          have := nd_inj hnd hj hu
          omega
        · cases hj
      have hput := numK_put hni
      rw [List.length_take, Nat.min_eq_left (Nat.le_of_lt hil)] at hput
      refine ⟨_, rfl, _, rfl, _, Sum.inl (u : Int), rfl, ed4, by rw [numK_len, List.length_take]; exact Nat.lt_of_le_of_lt (show min i ns.length ≤ 1000 by omega) (by decide), fun a o e => by rw [upd_ne (ne_of_none e nd)]; exact (s3.trans sH4) _ _ e, ?_⟩
      show upd H4 d (.dK (putK (numK (ns.take i)) (Sum.inl (u : Int)) (VN i))) d = _
      rw [upd_same, hput, take_succ' hu]
    rintro H3 ⟨s3, ed⟩
    rw [List.length_map, List.take_length] at ed
    have eU3 := s3 _ _ eU
    refine ⟨_, rfl, U, rfl, ⟨_, .of eU3⟩, fun R nR => lc_list (K := K) (a := U) (xs := ns.map VN) (fun i H' => ∃ ys : List Addr, Same H3 H' ∧ H' R = some (.lst (ys.map V.ref)) ∧ ys.length = i ∧ ∀ (j : Nat) (y : Addr), ys[j]? = some y → y ≠ R ∧ H' y = some (.lst ((Gr.row (subN g ns) j).map VN)))
      ⟨[], same_new nR, upd_same, rfl, fun i a h => by (cases h)⟩ (fun i H' _ ⟨_, z, _⟩ => .of (z _ _ eU3)) ?_ ?_⟩
    · rintro i v H4 hi ⟨ys, s4, eR, hyl, hys⟩
      obtain ⟨u, hu, rfl⟩ := nats_get hi
      have hus := hlt u (List.mem_of_getElem? hu)
      obtain ⟨a, haa⟩ : ∃ a, as[u]? = some a := ⟨_, List.getElem?_eq_getElem (by rw [hal]; exact hus)⟩
      have hra := ha u a haa
      have s04 := s3.trans s4
      refine ⟨rfl, _, rfl, _, rfl, r, _, _, .ref a, rfl, rfl, .of (s04 _ _ hr0), atN haa, a, rfl, ⟨_, .of (s04 _ _ hra)⟩, fun D nD => ?_⟩
      have nDR : D ≠ R := fun z => by rw [z, eR] at nD; cases nD
      refine lc_list (K := K) (a := a) (xs := (Gr.row g u).map VN) (fun j H' => Same H4 H' ∧ H' D = some (.lst (((((Gr.row g u).take j).filter fun v => decide (v ∈ ns)).map ns.idxOf).map VN)))
        ⟨same_new nD, upd_same⟩ (fun j H' _ ⟨z, _⟩ => .of (z _ _ (s04 _ _ hra))) ?_ ?_
      · rintro j v H5 hj ⟨s5, eD⟩
        obtain ⟨z, hz, rfl⟩ := nats_get hj
        have ed5 := s5 _ _ (s4 _ _ ed)
        refine ⟨rfl, _, rfl, _, rfl, d, _, rfl, DGet.k (k := Sum.inl (z : Int)) ed5, _, rfl, ?_⟩
        rw [take_succ' hz, sub_row_snoc]
        by_cases hm : z ∈ ns
        · have hv : valV (numK ns) (Sum.inl (z : Int) : L2.Key) = some (VN (ns.idxOf z)) := by
            rw [numK_val, if_pos ⟨by rw [Int.toNat_natCast]; exact hm, Int.natCast_nonneg z⟩, Int.toNat_natCast]
          rw [hv, if_pos hm]
          refine iteB_t rfl ⟨_, rfl, _, rfl, d, VN (ns.idxOf z), rfl, ?_, _, eD, ?_, fun p o e => by rw [upd_ne (ne_of_none e nD)]; exact s5 _ _ e, by rw [upd_same, List.map_append]; rfl⟩
          · have := DGet.k (k := Sum.inl (z : Int)) ed5
            rw [hv] at this
            exact this
          · rw [List.length_map, List.length_map]
            have h1 := List.length_filter_le (fun v => decide (v ∈ ns)) ((Gr.row g u).take j)
            have h2 := hrl u
            rw [List.length_take] at h1
            exact Nat.lt_of_le_of_lt (show _ ≤ 1000 by omega) (by decide)
        · have hv : valV (numK ns) (Sum.inl (z : Int) : L2.Key) = none := by
            rw [numK_val, if_neg (fun q => hm (by have := q.1; rw [Int.toNat_natCast] at this; exact this))]
          rw [hv, if_neg hm]
          exact iteB_f rfl ⟨s5, eD⟩
      · rintro H5 ⟨s5, eD⟩
        rw [List.length_map, List.take_length] at eD
        have hil := lt_of_get hu
        refine ⟨_, s5 _ _ eR, by rw [List.length_map]; exact Nat.lt_of_le_of_lt (show ys.length ≤ 1000 by omega) (by decide), ys ++ [D], fun p o e => by rw [upd_ne (ne_of_none e nR)]; exact s5 _ _ (s4 _ _ e), by rw [upd_same, List.map_append]; rfl, by rw [List.length_append, hyl]; rfl, fun j y hj => ?_⟩
        rcases snocg hj with ⟨_, k⟩ | ⟨k1, k2⟩
        · obtain ⟨n1, h1⟩ := hys j y k
          exact ⟨n1, by rw [upd_ne n1]; exact s5 _ _ h1⟩
        · subst k2
          rw [hyl] at k1
          subst k1
          exact ⟨nDR, by rw [upd_ne nDR, eD, row_subN hu]⟩
    rintro H4 ⟨ys, s4, eR, hyl, hys⟩
    rw [List.length_map] at hyl
    exact q H4 R (s3.trans s4) (s3.free nR) ⟨ys, eR, by rw [hyl, subN_len], fun i a h => (hys i a h).2⟩
theorem le_of_all : ∀ {c : Nat} {h : List Nat}, (∀ i, i < c → i ∈ h) → c ≤ h.length
  | 0, _, _ => Nat.zero_le _
  | c + 1, h, k => by
    have hm := k c (Nat.lt_succ_self c)
    have := le_of_all (c := c) (h := h.erase c) fun i hi => (List.mem_erase_of_ne (by omega)).mpr (k i (by omega))
    rw [List.length_erase_of_mem hm] at this
    have := List.length_pos_of_mem hm
    omega
theorem below_le {w : Nat → Nat} {M : Nat} (h : ∀ u, w u ≤ M) : ∀ n, Gr.below w n ≤ n * M
  | 0 => by show 0 ≤ _; omega
  | n + 1 => by
    have := below_le h n
    have h2 := h n
    show Gr.below w n + w n ≤ _
    rw [Nat.add_mul, Nat.one_mul]
    omega
theorem subN_row_le {g : Gr.G} {ns : List Nat} {M : Nat} (h : ∀ n, (Gr.row g n).length ≤ M) (i : Nat) : (Gr.row (subN g ns) i).length ≤ M := by
  rcases Nat.lt_or_ge i ns.length with c | c
  · rw [row_subN (List.getElem?_eq_getElem c), List.length_map]
    exact Nat.le_trans (List.length_filter_le _ _) (h _)
  · rw [row_ge (by rw [subN_len]; exact c)]
    exact Nat.zero_le _
theorem max_c {g : Gr.G} {h : List Nat} {c : Nat} (C : Gr.Comps g h c) {m : Int} (h1 : h.map (Int.ofNat) = [] → m = -1) (h2 : h.map (Int.ofNat) ≠ [] → m ∈ h.map (Int.ofNat) ∧ ∀ y ∈ h.map (Int.ofNat), y ≤ m) : m + 1 = (c : Int) := by
  by_cases e : h = []
  · subst e
    rw [h1 rfl]
    have : c = 0 := by
      rcases Nat.eq_zero_or_pos c with z | z
      · exact z
      · have := C.us 0 z
        cases this
    omega
  · obtain ⟨k1, k2⟩ := h2 (fun z => e (List.map_eq_nil_iff.mp z))
    obtain ⟨i, hi, rfl⟩ := List.mem_map.mp k1
    have l1 := C.lt i hi
    have hc : c - 1 < c := by omega
    have l2 := k2 _ (List.mem_map.mpr ⟨_, C.us _ hc, rfl⟩)
    have e1 : Int.ofNat i = (i : Int) := rfl
    have e2 : Int.ofNat (c - 1) = ((c - 1 : Nat) : Int) := rfl
    rw [e1] at l2 ⊢
    rw [e2] at l2
    omega
theorem grps_nil (c : Nat) : grps [] [] c = List.replicate c [] := by
  apply List.ext_getElem?
  intro k
  rw [List.getElem?_replicate]
  rcases Nat.lt_or_ge k c with z | z
  · rw [grps_get z, if_pos z]
    rfl
  · rw [if_neg (by omega), List.getElem?_eq_none (by rw [grps_len]; exact z)]
def spCL : Sp := fun vs H Q _ => ∃ (r a : Addr) (g : Gr.G) (ns : List Nat), vs = [.ref r, .ref a] ∧ GrL H r g ∧ H a = some (.lst (ns.map VN)) ∧ ns.Nodup ∧ (∀ n ∈ ns, n < g.length) ∧ g.length ≤ 1000 ∧ (∀ n, (Gr.row g n).length ≤ 1000) ∧
  ∀ (H' : Hp) (y : Addr) (bs : List Addr) (gs : List (List Nat)), Same H H' → NL H y bs gs H' → H y = none → Grp g ns gs → Q (.ref y) H'
theorem cal_cl (T : Txt K mg) : C8.Cal P w K mg base 3 "component_lists" spCL [] := by
  have C_part_of : C8.Cal P w K mg base 1 "part_of" spPart [] := cal_part T
  have C_components : C8.Cal P w K mg base 2 "components" spComp [] := cal_comp T
  obtain ⟨f, fd, F, hm, hb⟩ := T.h_component_lists
  refine ⟨f, fd, _, [], F.ok sc_component_lists (fun vs H Q E h => ?_) (fun cdv A outer s H vs Q E hr h => ?_), hm, F.kp, hb, .nil⟩
  · obtain ⟨r, a, g, ns, rfl, _⟩ := h
    rfl
  · obtain ⟨r, U, g, ns, rfl, hG, eU, hnd, hlt, hgl, hrl, q⟩ := h
    refine ⟨_, (pss_cons
      (ps_set (i := 2) sc_component_lists.nd rfl (Or.inl rfl) (C8.pe_c C_components hr (by decide) (by rfl) (pa_cons (C8.pe_c C_part_of hr (by decide) (by rfl) (pa_cons (pv 0) (pa_cons (pv 1) pa_nil))) pa_nil)))
      (pss_cons
      (ps_setLc (i := 3) (own := [("_", 6)]) (g := gName 6) (tt := tYes) rfl sc_component_lists.nd rfl rfl (sw_true rfl rfl rfl (by decide +kernel)) (pi_range1 (by rfl) T.z_range (pa_cons (pe_op op_add (pe_callBK (call_maxD (K := K) rfl rfl) (by rfl) T.z_max (by decide +kernel) (pa_cons (pv 2) pa_nil) (pk_cons (pe_un un_neg pe_int) pk_nil)) pe_int) pa_nil)) (blkOk_by (N := N_component_lists) (sc := defScope s_component_lists) (by decide +kernel)) (fun _ _ _ _ _ => (pg_name (i := 6) sc_component_lists.nd rfl (Or.inl rfl))) (fun _ _ _ _ _ => pts_nil) (fun _ _ _ _ _ => (pe_lst pa_nil)))
      (pss_cons
      (ps_for PassesOwn.never rfl (pi_zip (by rfl) T.z_zip (pa_cons (pv 1) (pa_cons (pv 2) pa_nil))) (pg_tup (by rfl) (pgs_cons (pg_name (i := 4) sc_component_lists.nd rfl (.inl rfl)) (pgs_cons (pg_name (i := 5) sc_component_lists.nd rfl (.inl rfl)) pgs_nil))) (pss_one
      (ps_expr (pe_bm PySem.F.plainAttrs_list PySem.F.slot_list_append PySem.F.type_list_append mt_append (pe_ix (ix_listK (K := K) rfl) (pv 3) (pv 5) (fun _ _ => rfl)) (pa_cons (pv 4) pa_nil)))))
      (pss_one
      (ps_ret (pv 3)))))), ?_⟩
    have hul : ns.length ≤ 1000 := by have := nd_len hnd hlt; omega
    refine ⟨_, rfl, _, rfl, r, U, g, ns, rfl, hG, eU, hnd, hlt, hgl, hrl, fun H1 y s1 ny hS => ?_⟩
    have hsm : Small (subN g ns) := by
      refine ⟨by rw [subN_len]; omega, ?_⟩
      have := below_le (w := fun u => (Gr.row (subN g ns) u).length) (subN_row_le hrl) (subN g ns).length
      rw [subN_len] at this ⊢
      have h2 : ns.length * 1000 ≤ 1000 * 1000 := Nat.mul_le_mul_right _ hul
      omega
    refine ⟨y, subN g ns, rfl, hS, subN_ok g ns, hsm, fun H2 z h c s2 nz ez C => ?_⟩
    have s02 := s1.trans s2
    have hhl : h.length = ns.length := by rw [C.len, subN_len]
    have hcl : c ≤ ns.length := by
      have := le_of_all C.us
      omega
    refine ⟨_, rfl, _, rfl, z, h.map Int.ofNat, -1, rfl, rfl, .of (by rw [ez, List.map_map]; rfl), fun m h1 h2 => ⟨_, _, rfl, rfl, _, rfl, ?_⟩⟩
    have hm1 := max_c C h1 h2
    rw [hm1]
    refine ⟨by omega, by omega, fun D nD => ?_⟩
    rw [Int.toNat_natCast]
    refine lc_range (lo := 0) (n := c) (fun i H' => ∃ bs : List Addr, Same H2 H' ∧ NL H2 D bs (List.replicate i []) H')
      ⟨[], same_new nD, upd_same, rfl, by simp, by simp, by simp⟩ ?_ ?_
    · rintro i H3 hi ⟨bs, s3, h3⟩
      refine ⟨rfl, Nat.zero_le _, fun t nt => ?_⟩
      generalize hX : upd H3 t _ = H4; obtain ⟨sH4, et⟩ := nw nt hX; clear hX
      have hbl : bs.length = i := by rw [h3.len, List.length_replicate]
      refine ⟨_, sH4 _ _ h3.d, by rw [List.length_map]; exact Nat.lt_of_le_of_lt (show bs.length ≤ 1000 by omega) (by decide), bs ++ [t], fun x y e => by rw [upd_ne (ne_of_none e nD)]; exact (s3.trans sH4) _ _ e, h3.add s3 nt sH4 et⟩
    rintro H3 ⟨bs, s3, h3⟩
    rw [← grps_nil] at h3
    have s03 := s02.trans s3
    refine ⟨_, rfl, _, rfl, U, z, ns.map VN, h.map VN, rfl, .of (s03 _ _ eU), .of (s3 _ _ ez), ?_⟩
    refine for_it (walk_zip (K := K) (a := U) (b := z) (xs := ns.map VN) (ys := h.map VN) (n := ns.length) (by rw [List.length_map, List.length_map, hhl, Nat.min_self])) (fun i σ H' => ∃ v4 v5 v6 : Option V, σ = [some (.ref r), some (.ref U), some (.ref z), some (.ref D), v4, v5, v6] ∧ (∀ b o, H2 b = some o → H' b = some o) ∧ NL H2 D bs (grps (ns.take i) (h.take i) c) H')
      ⟨none, none, none, rfl, s3, h3⟩ (fun i σ H' _ ⟨_, _, _, _, s, _⟩ => ⟨.of (s _ _ (s02 _ _ eU)), .of (s _ _ ez)⟩) ?_ ?_
    · rintro i v σ H4 H5 hi ⟨v4, v5, v6, rfl, s4, h4⟩ ⟨t, y1, y2, rfl, nt, rfl, hy1, hy2⟩
      obtain ⟨u, hu, rfl⟩ := nats_get hy1
      obtain ⟨j, hj, rfl⟩ := nats_get hy2
      generalize hX : upd H4 t _ = H5; obtain ⟨sH5, et⟩ := nw nt hX; clear hX
      have h5 := h4.keep sH5
      refine ⟨t, _, rfl, .of et, rfl, _, _, rfl, _, _, rfl, rfl, ?_⟩
      have hjc := C.lt j (List.mem_of_getElem? hj)
      have hil := lt_of_get hu
      have hjb : j < bs.length := by rw [h4.len, grps_len]; exact hjc
      have hbb := List.getElem?_eq_getElem hjb
      have eb := h5.get j _ hbb
      have hrow : Gr.row (grps (ns.take i) (h.take i) c) j = grpOf (ns.take i) (h.take i) j := by
        unfold Gr.row
        rw [List.getD_eq_getElem?_getD, grps_get hjc]
        rfl
      rw [hrow] at eb
      have hgle : (grpOf (ns.take i) (h.take i) j).length ≤ 1000 := by
        unfold grpOf
        rw [List.length_map]
        refine Nat.le_trans (List.length_filter_le _ _) ?_
        rw [List.length_zip, List.length_take, List.length_take]
        omega
      refine ⟨_, rfl, _, rfl, D, _, _, .ref bs[j], rfl, rfl, .of h5.d, atN hbb, .inl ⟨rfl, _, .of eb⟩, _, rfl, bs[j], _, _, rfl, rfl, eb, by rw [List.length_map]; exact Nat.lt_of_le_of_lt hgle (by decide), ?_⟩
      rw [show (grpOf (ns.take i) (h.take i) j).map VN ++ [VN u] = (grpOf (ns.take i) (h.take i) j ++ [u]).map VN by rw [List.map_append]; rfl]
      have hfr := h4.fr bs[j] (List.mem_of_getElem? hbb)
      refine ⟨_, _, _, rfl, fun b o e => ?_, ?_⟩
      · rw [upd_ne (ne_of_none e hfr.1)]
        exact sH5 _ _ (s4 _ _ e)
      · rw [take_succ' hu, take_succ' hj, grps_snoc (by rw [List.length_take, List.length_take, hhl]) hjc]
        exact h5.put hbb
    · rintro σ H4 ⟨v4, v5, v6, rfl, s4, h4⟩
      rw [List.take_length, ← hhl, List.take_length] at h4
      exact ⟨_, rfl, q H4 D bs _ (s02.trans s4) ⟨h4.d, h4.len, h4.nd, fun b hb => ⟨s02.free (h4.fr b hb).1, (h4.fr b hb).2⟩, h4.get⟩ (s02.free nD) (grp_of hnd C)⟩
theorem op_inK {X : Cx} {K : PySem.W.Frag} (h : X.K = K) : OpR X (compareOp .In) (rIn K false) := by
  subst h
  exact op_in_seq
theorem op_notInK {X : Cx} {K : PySem.W.Frag} (h : X.K = K) : OpR X (compareOp .NotIn) (rIn K true) := by
  subst h
  exact op_notIn_seq
structure Wls (H : Hp) (W : Addr) (ws : List Addr) (Ls : List (List Nat)) : Prop where
  at_ : H W = some (.lst (ws.map V.ref))
  len : ws.length = Ls.length
  get : ∀ (i : Nat) (a : Addr), ws[i]? = some a → a ≠ W ∧ ∃ L, Ls[i]? = some L ∧ H a = some (.lst (L.map VN))
theorem Wls.snoc {H : Hp} {W a : Addr} {ws : List Addr} {Ls : List (List Nat)} {L : List Nat} (h : Wls H W ws Ls) (na : a ≠ W) (ha : H a = some (.lst (L.map VN))) : Wls (upd H W (.lst (ws.map V.ref ++ [V.ref a]))) W (ws ++ [a]) (Ls ++ [L]) := by
  refine ⟨by rw [upd_same, List.map_append]; rfl, by rw [List.length_append, List.length_append, h.len]; rfl, fun i x e => ?_⟩
  rcases snocg e with ⟨k0, k⟩ | ⟨k1, k2⟩
  · obtain ⟨n, L', h1, h2⟩ := h.get i x k
    exact ⟨n, L', by rw [List.getElem?_append_left (lt_of_get h1)]; exact h1, by rw [upd_ne n]; exact h2⟩
  · subst k2
    exact ⟨na, L, by rw [List.getElem?_append_right (by rw [k1, h.len]; exact Nat.le_refl _), show i - Ls.length = 0 by rw [k1, h.len]; omega]; rfl, by rw [upd_ne na]; exact ha⟩
theorem Wls.keep {H H' : Hp} {W : Addr} {ws : List Addr} {Ls : List (List Nat)} (s : Same H H') (h : Wls H W ws Ls) : Wls H' W ws Ls := ⟨s _ _ h.at_, h.len, fun i a e => by
  obtain ⟨n, L, h1, h2⟩ := h.get i a e
  exact ⟨n, L, h1, s _ _ h2⟩⟩
theorem Wls.pop {H H3 : Hp} {W a : Addr} {ws : List Addr} {Ls : List (List Nat)} {L : List Nat} (h : Wls H W (ws ++ [a]) (Ls ++ [L])) (e3 : H3 W = some (.lst (ws.map V.ref))) (k : ∀ q, q ≠ W → H3 q = H q) : Wls H3 W ws Ls ∧ a ≠ W ∧ H3 a = some (.lst (L.map VN)) := by
  have hl := h.len
  rw [List.length_append, List.length_append] at hl
  have hl' : ws.length = Ls.length := by simpa using hl
  refine ⟨⟨e3, hl', fun i x e => ?_⟩, ?_⟩
  · have hi := lt_of_get e
    obtain ⟨n, L', h1, h2⟩ := h.get i x (by rw [List.getElem?_append_left hi]; exact e)
    rw [List.getElem?_append_left (by omega)] at h1
    exact ⟨n, L', h1, by rw [k x n]; exact h2⟩
  · obtain ⟨n, L', h1, h2⟩ := h.get ws.length a (by rw [List.getElem?_append_right (Nat.le_refl _)]; simp)
    rw [hl', List.getElem?_append_right (Nat.le_refl _)] at h1
    simp at h1
    subst h1
    exact ⟨n, by rw [k a n]; exact h2⟩
def prF (ps : List Int) (k : Nat) : Int := ps.getD k 0
def spWG : Sp := fun vs H Q _ => ∃ (r a pa : Addr) (p : Int) (g : Gr.G) (ns : List Nat) (ps : List Int), vs = [.ref r, .ref a, .ref pa, .int p] ∧ GrL H r g ∧ H a = some (.lst (ns.map VN)) ∧ ns.Nodup ∧ (∀ n ∈ ns, n < g.length) ∧ g.length ≤ 1000 ∧ (∀ n, (Gr.row g n).length ≤ 1000) ∧ H pa = some (.tup (ps.map V.int)) ∧ ps.length = g.length ∧
  (¬ BadIn g (prF ps) p (· ∈ ns) → ∀ H', Same H H' → Q .non H') ∧ (BadIn g (prF ps) p (· ∈ ns) → ∀ (H' : Hp) (b : Addr), Same H H' → Q (.ref b) H')
theorem prf_get {ps : List Int} {k : Nat} (h : k < ps.length) : ps[k]? = some (prF ps k) := by
  unfold prF
  rw [List.getD_eq_getElem?_getD, List.getElem?_eq_getElem h]; rfl
theorem lsum_drop {gs : List (List Nat)} {i : Nat} {A : List Nat} (h : gs[i]? = some A) : lsum (gs.drop i) = A.length + lsum (gs.drop (i + 1)) := by
  rw [List.drop_eq_getElem?_toList_append, h]; rfl
theorem mem_drop {gs : List (List Nat)} {i : Nat} {A : List Nat} (h : gs[i]? = some A) (R : List Nat → Prop) : (∃ B ∈ gs.drop i, R B) ↔ (R A ∨ ∃ B ∈ gs.drop (i + 1), R B) := by
  rw [List.drop_eq_getElem?_toList_append, h]
  simp
theorem inV_nat (x : Nat) (ts : List Nat) : inV (VN x) (ts.map VN) = decide (x ∈ ts) := by
  rw [Bool.eq_iff_iff, decide_eq_true_iff]
  unfold inV
  rw [List.any_eq_true]
  constructor
  · rintro ⟨y, hy, h⟩
    obtain ⟨z, hz, rfl⟩ := List.mem_map.mp hy
    have : z = x := by
      have h' : ((z : Int) == (x : Int)) = true := by simpa [eqV, VN] using h
      have := of_decide_eq_true h'
      omega
    rw [← this]; exact hz
  · intro h
    exact ⟨VN x, List.mem_map.mpr ⟨x, h, rfl⟩, by simp [eqV, VN]⟩
theorem flat_nats {ts : List Nat} : (ts.map VN).all flatV = true := List.all_eq_true.mpr fun y hy => by obtain ⟨z, _, rfl⟩ := List.mem_map.mp hy; rfl
theorem cal_wg (T : Txt K mg) : C8.Cal P w K mg base 4 "winning_group" spWG [] := by
  have C_component_lists : C8.Cal P w K mg base 3 "component_lists" spCL [] := cal_cl T
  obtain ⟨f, fd, F, hm, hb⟩ := T.h_winning_group
  refine ⟨f, fd, _, [], F.ok sc_winning_group (fun vs H Q E h => ?_) (fun cdv A outer s H vs Q E hr h => ?_), hm, F.kp, hb, .nil⟩
  · obtain ⟨r, a, pa, p, g, ns, ps, rfl, _⟩ := h
    rfl
  · obtain ⟨r, U, pa, p, g, ns, ps, rfl, hG, eU, hnd, hlt, hgl, hrl, ePs, hpl, q1, q2⟩ := h
    refine ⟨_, (pss_cons
      (ps_set (i := 4) sc_winning_group.nd rfl (Or.inl rfl) (pe_lst (pa_cons (pv 1) pa_nil)))
      (C8.pss_cut
      (ps_while PassesOwn.never (pt_cmpR op_gt (pe_callB (call_lenK (K := K) rfl) (by rfl) T.z_len PySem.boot_len (pa_cons (pv 4) pa_nil)) pe_int (nomark _)) (pss_cons
      (ps_set (i := 5) sc_winning_group.nd rfl (Or.inl rfl) (C8.pe_c C_component_lists hr (by decide) (by rfl) (pa_cons (pv 0) (pa_cons (pe_bm0 PySem.F.plainAttrs_list PySem.F.slot_list_pop PySem.F.type_list_pop mt_pop (pv 4)) pa_nil))))
      (pss_one
      (ps_for PassesOwn.never rfl (pi_list (pv 5)) (pg_name (i := 6) sc_winning_group.nd rfl (.inl rfl)) (pss_one
      (ps_if (PW.pt (pw_or (pt_cmpR op_gt (pe_callB (call_lenK (K := K) rfl) (by rfl) T.z_len PySem.boot_len (pa_cons (pv 6) pa_nil)) pe_int (nomark _)) (pw_or1 (pt_cmpR (op_inK (K := K) rfl) (pe_ix (ix_listK (K := K) rfl) (pv 6) pe_int (fun _ _ => rfl)) (pe_ix (ix_listK (K := K) rfl) (pv 0) (pe_ix (ix_listK (K := K) rfl) (pv 6) pe_int (fun _ _ => rfl)) (fun _ _ => rfl)) (by rfl))))) (pss_cons
      (ps_set (i := 7) sc_winning_group.nd rfl (Or.inr rfl) (pe_callB (call_maxK (K := K) rfl rfl) (by rfl) T.z_max (by decide +kernel) (pa_cons (pe_lc (own := [("place", 8)]) (g := gName 8) (tt := tYes) rfl sc_winning_group.nd (pi_list (pv 6)) (blkOk_by (N := N_winning_group) (sc := defScope s_winning_group) (by decide +kernel)) (fun _ _ _ _ _ => (pg_name (i := 8) sc_winning_group.nd rfl (Or.inl rfl))) (fun _ _ _ _ _ => pts_nil) (fun _ _ _ _ _ => (pe_ix (ix_tupK (K := K) rfl) (pv 2) (pv 8) (fun _ _ => rfl)))) pa_nil)))
      (pss_cons
      (ps_if (pt_cmpR op_eq (pe_op op_mod (pv 7) pe_int) (pv 3) (nomark _)) (pss_one
      (ps_ret (pv 6))) pss_nil)
      (pss_one
      (ps_expr (pe_bm PySem.F.plainAttrs_list PySem.F.slot_list_append PySem.F.type_list_append mt_append (pv 4) (pa_cons (pe_lc (own := [("place", 8)]) (g := gName 8) rfl sc_winning_group.nd (pi_list (pv 6)) (blkOk_by (N := N_winning_group) (sc := defScope s_winning_group) (by decide +kernel)) (fun _ _ _ _ _ => (pg_name (i := 8) sc_winning_group.nd rfl (Or.inl rfl))) (fun _ _ _ _ _ => (pts_one (pt_cmpR op_lt (pe_ix (ix_tupK (K := K) rfl) (pv 2) (pv 8) (fun _ _ => rfl)) (pv 7) (nomark _)))) (fun _ _ _ _ _ => (pv 8))) pa_nil)))))) pss_nil))))))
      (pss_one
      (ps_ret pe_non)))), ?_⟩
    have hul : ns.length ≤ 1000 := by have := nd_len hnd hlt; omega
    obtain ⟨as, hr0, hal, ha⟩ := id hG
    refine ⟨_, rfl, by show 1 ≤ sizeLine; decide, fun W nW => ?_⟩
    generalize hX : upd H W _ = H1; obtain ⟨sH1, eW⟩ := nw nW hX; clear hX
    refine ⟨fun σ H' => ¬ BadIn g (prF ps) p (· ∈ ns) ∧ Same H H', ?_, fun σ H' ⟨z, s⟩ => q1 z H' s⟩
    have hW1 : Wls H1 W [U] [ns] := ⟨eW, rfl, fun i a e => by
      cases i with
      | zero =>
        simp at e
        subst e
        exact ⟨fun z => by rw [z, nW] at eU; (cases eU), ns, rfl, sH1 _ _ eU⟩
      | succ i => simp at e⟩
    refine ⟨fun m σ H' => ∃ (v5 v6 v7 v8 : Option V) (ws : List Addr) (Ls : List (List Nat)), m = lsum Ls + Ls.length ∧ σ = [some (.ref r), some (.ref U), some (.ref pa), some (.int p), some (.ref W), v5, v6, v7, v8] ∧ Same H H' ∧ Wls H' W ws Ls ∧ (∀ L ∈ Ls, L.Nodup ∧ ∀ n ∈ L, n < g.length) ∧ lsum Ls + Ls.length ≤ 1001 ∧ (BadIn g (prF ps) p (· ∈ ns) ↔ ∃ L ∈ Ls, BadIn g (prF ps) p (· ∈ L)),
      ⟨_, _, _, _, _, [U], [ns], rfl, rfl, sH1, hW1, fun L hL => by rw [List.mem_singleton.mp hL]; exact ⟨hnd, hlt⟩, by show ns.length + 0 + 1 ≤ 1001; omega, by simp⟩, ?_⟩
    clear hW1 sH1 eW
    rintro m σ H2 ⟨v5, v6, v7, v8, ws, Ls, rfl, rfl, s2, hW, hok, hbd, hiff⟩
    have hwl := hW.len
    refine ⟨_, rfl, W, _, rfl, .inl (.of hW.at_), _, _, rfl, rfl, _, rfl, ite2 (fun cc => ?_) (fun cc => ?_)⟩
    · obtain ⟨ws', wa, rfl⟩ : ∃ ws' x, ws = ws' ++ [x] := by
        rcases List.eq_nil_or_concat ws with rfl | ⟨a, b, rfl⟩
        · exact absurd cc (by decide)
        · exact ⟨a, b, List.concat_eq_append⟩
      obtain ⟨Ls', L, rfl⟩ : ∃ Ls' x, Ls = Ls' ++ [x] := by
        rcases List.eq_nil_or_concat Ls with rfl | ⟨a, b, rfl⟩
        · simp at hwl
        · exact ⟨a, b, List.concat_eq_append⟩
      rw [lsum_append, show lsum [L] = L.length from rfl, List.length_append, List.length_singleton] at hbd
      obtain ⟨hLnd, hLlt⟩ := hok L (by simp)
      refine ⟨_, fun σ' H'' z => z, ?_⟩
      refine ⟨_, rfl, _, rfl, .inl ⟨rfl, _, .of hW.at_⟩, W, _, V.ref wa, rfl, rfl, hW.at_, by simp, ?_⟩
      rw [show ((ws' ++ [wa]).map V.ref).dropLast = ws'.map V.ref by simp]
      have eW2 := hW.at_
      generalize hX : upd H2 W _ = H3; have tH3 := mwt eW2 hX; clear eW2; obtain ⟨sH3, eW, kH3⟩ := mw s2 nW hX; clear hX
      obtain ⟨hW3, nwa, eL3⟩ := hW.pop eW kH3
      refine ⟨r, wa, g, L, rfl, hG.same sH3, eL3, hLnd, hLlt, hgl, hrl, fun H4 y bs gs s4 hN ny hgrp => ?_⟩
      have s04 := sH3.trans s4
      have hW4 := hW3.keep s4
      have hiff4 : BadIn g (prF ps) p (· ∈ ns) ↔ (∃ L ∈ Ls', BadIn g (prF ps) p (· ∈ L)) ∨ ∃ A ∈ gs.drop 0, BadIn g (prF ps) p (· ∈ A) := by
        rw [hiff]
        have := bad_grp (p := p) (pr := prF ps) hgrp
        simp only [List.mem_append, List.mem_singleton]
        rw [List.drop_zero, ← this]
        constructor
        · rintro ⟨A, hA | rfl, h⟩
          · exact .inl ⟨A, hA, h⟩
          · exact .inr h
        · rintro (⟨A, hA, h⟩ | h)
          · exact ⟨A, .inl hA, h⟩
          · exact ⟨L, .inr rfl, h⟩
      have nyW : y ≠ W := fun z => by rw [z, eW] at ny; cases ny
      have nbW : ∀ b ∈ bs, b ≠ W := fun b hb z => by have := (hN.fr b hb).1; rw [z, eW] at this; cases this
      refine ⟨_, rfl, y, rfl, ⟨_, .of hN.d⟩, for_list (K := K) (a := y) (xs := bs.map V.ref) (fun i σ H' => ∃ (v6 v7 v8 : Option V) (ws : List Addr) (Ls : List (List Nat)), σ = [some (.ref r), some (.ref U), some (.ref pa), some (.int p), some (.ref W), some (.ref y), v6, v7, v8] ∧ Same H H' ∧ Kp W H4 H' ∧ Wls H' W ws Ls ∧ (∀ L ∈ Ls, L.Nodup ∧ ∀ n ∈ L, n < g.length) ∧ lsum Ls + Ls.length + lsum (gs.drop i) ≤ lsum Ls' + Ls'.length + L.length ∧ (BadIn g (prF ps) p (· ∈ ns) ↔ (∃ L ∈ Ls, BadIn g (prF ps) p (· ∈ L)) ∨ ∃ A ∈ gs.drop i, BadIn g (prF ps) p (· ∈ A)))
        ⟨_, _, _, ws', Ls', rfl, s04, Kp.refl _ _, hW4, fun L hL => hok L (by simp [hL]), by rw [List.drop_zero, hgrp.sum]; exact Nat.le_refl _, hiff4⟩ (fun i σ H' _ ⟨_, _, _, _, _, _, _, k, _⟩ => .of (k _ _ nyW hN.d)) ?_ ?_⟩
      · rintro i v σ H5 hi ⟨v6, v7, v8, ws, Ls, rfl, s5, k5, hW5, hok5, hle, hiff5⟩
        obtain ⟨b, hb, rfl⟩ := refsg hi
        have hil : i < gs.length := by rw [← hN.len]; exact lt_of_get hb
        obtain ⟨A, hA⟩ : ∃ A, gs[i]? = some A := ⟨_, List.getElem?_eq_getElem hil⟩
        have hAm := List.mem_of_getElem? hA
        have eb := k5 _ _ (nbW b (List.mem_of_getElem? hb)) (hN.get i b hb)
        rw [show Gr.row gs i = A by unfold Gr.row; rw [List.getD_eq_getElem?_getD, hA]; rfl] at eb
        have hAL : ∀ x ∈ A, x ∈ L := fun x hx => (hgrp.mem x).mpr ⟨A, hAm, hx⟩
        have hAlt : ∀ x ∈ A, x < g.length := fun x hx => hLlt x (hAL x hx)
        have hAnd := hgrp.nd A hAm
        have hAl : A.length ≤ g.length := nd_len hAnd hAlt
        rw [mem_drop hA (fun A => BadIn g (prF ps) p (· ∈ A))] at hiff5
        rw [lsum_drop hA] at hle
        obtain ⟨a0, ha0⟩ : ∃ a, A[0]? = some a := ⟨_, List.getElem?_eq_getElem (List.length_pos_iff.mpr (hgrp.ne A hAm))⟩
        have ha0l := hAlt a0 (List.mem_of_getElem? ha0)
        obtain ⟨ra, hra⟩ : ∃ a, as[a0]? = some a := ⟨_, List.getElem?_eq_getElem (by rw [hal]; exact ha0l)⟩
        have era := s5 _ _ (ha a0 ra hra)
        have at0 : atI (A.map VN) 0 = some (VN a0) := atN (i := 0) ha0
        have inI : ∀ x : Nat, inV (VN x) ((Gr.row g x).map VN) = decide (x ∈ Gr.row g x) := fun x => inV_nat x _
        refine ⟨_, rfl, b, _, rfl, .inl (.of eb), _, _, rfl, rfl, _, rfl, ite2 (fun c1 => iteB_t rfl ?_) (fun c1 => ⟨_, rfl, b, _, _, VN a0, rfl, rfl, .of eb, at0, _, rfl, _, rfl, b, _, _, VN a0, rfl, rfl, .of eb, at0, r, _, _, .ref ra, rfl, rfl, .of (s5 _ _ hr0), atN hra, ra, _, rfl, .inl (.of era), rfl, flat_nats, decide (a0 ∈ Gr.row g a0), (by rw [if_neg (by decide), inI]), ite2 (fun c2 => ?_) (fun c2 => ?_)⟩)⟩
        rotate_left 2
        · have h1 : ¬ 1 < A.length := fun z => c1 (decide_eq_true (by rw [List.length_map]; omega))
          have h2 : A = [a0] := by
            cases A with
            | nil => simp at ha0
            | cons x l =>
              cases l with
              | nil => simp at ha0; rw [ha0]
              | cons y l => simp at h1
          have h3 : ¬ Gr.E g a0 a0 := fun z => c2 (decide_eq_true z)
          have h4 : ¬ BadIn g (prF ps) p (· ∈ A) := by rw [h2]; exact bad_one h3
          exact ⟨_, _, _, ws, Ls, rfl, s5, k5, hW5, hok5, by omega, by rw [hiff5]; simp [h4]⟩
        all_goals
          have nt : 1 < A.length ∨ ∃ a, A[0]? = some a ∧ Gr.E g a a := by
            first
            | exact .inl (by have h1 : (1 : Int) < ((A.map VN).length : Int) := of_decide_eq_true c1; rw [List.length_map] at h1; omega)
            | exact .inr ⟨a0, ha0, (show a0 ∈ Gr.row g a0 from of_decide_eq_true c2)⟩
          clear ha0 ha0l hra era at0 inI c1
          refine ⟨_, rfl, b, rfl, ⟨_, .of eb⟩, fun D nD => lc_list (K := K) (a := b) (xs := A.map VN) (fun j H' => Same H5 H' ∧ H' D = some (.lst ((A.take j).map fun x => V.int (prF ps x)))) ⟨same_new nD, upd_same⟩ (fun j H' _ ⟨z, _⟩ => .of (z _ _ eb)) ?_ ?_⟩
          · rintro j v H6 hj ⟨s6, eD⟩
            obtain ⟨z, hz, rfl⟩ := nats_get hj
            have hzl := hAlt z (List.mem_of_getElem? hz)
            have hjl := lt_of_get hz
            refine ⟨rfl, _, rfl, _, rfl, pa, _, _, .int (prF ps z), rfl, rfl, .of ((s5.trans s6) _ _ ePs), atI_nat (by rw [List.getElem?_map, prf_get (by omega)]; rfl), _, eD, by rw [List.length_map, List.length_take]; exact Nat.lt_of_le_of_lt (show min j A.length ≤ 1000 by omega) (by decide), fun q o e => by rw [upd_ne (ne_of_none e nD)]; exact s6 _ _ e, by rw [upd_same, take_succ' hz, List.map_append]; rfl⟩
          rintro H6 ⟨s6, eD⟩
          rw [List.length_map, List.take_length] at eD
          refine ⟨D, A.map (prF ps), rfl, .of (by rw [eD, List.map_map]; rfl), by rw [List.length_map]; exact List.length_pos_iff.mpr (hgrp.ne A hAm), fun m hm hmx => ?_⟩
          obtain ⟨k, hkA, rfl⟩ := List.mem_map.mp hm
          have hmx' : ∀ x ∈ A, prF ps x ≤ prF ps k := fun x hx => hmx _ (List.mem_map_of_mem hx)
          refine ⟨_, rfl, _, _, rfl, rfl, (show (0 : Int) < 2 by decide), _, rfl, rfl, _, rfl, ite_eq (fun c3 => ?_) (fun c3 => ?_)⟩
          · exact ⟨_, rfl, q2 (hiff.mpr ⟨L, by simp, bad_high hgrp hAm hkA hmx' c3 nt⟩) H6 b (s5.trans s6)⟩
          have eb6 := s6 _ _ eb
          have hW6 := hW5.keep s6
          refine ⟨_, rfl, .inl ⟨rfl, _, .of hW6.at_⟩, _, rfl, b, rfl, ⟨_, .of eb6⟩, fun D2 nD2 => ?_⟩
          refine lc_list (K := K) (a := b) (xs := A.map VN) (fun j H' => Same H6 H' ∧ H' D2 = some (.lst (((A.take j).filter fun x => decide (prF ps x < prF ps k)).map VN))) ⟨same_new nD2, upd_same⟩ (fun j H' _ ⟨z, _⟩ => .of (z _ _ eb6)) ?_ ?_
          · rintro j v H7 hj ⟨s7, eD2⟩
            obtain ⟨z, hz, rfl⟩ := nats_get hj
            have hzl := hAlt z (List.mem_of_getElem? hz)
            have hjl := lt_of_get hz
            refine ⟨rfl, _, rfl, _, rfl, pa, _, _, .int (prF ps z), rfl, rfl, .of ((s5.trans s6).trans s7 _ _ ePs), atI_nat (by rw [List.getElem?_map, prf_get (by omega)]; rfl), _, rfl, _, _, rfl, rfl, _, rfl, ?_⟩
            rw [take_succ' hz, List.filter_append, List.map_append]
            by_cases c4 : prF ps z < prF ps k
            · rw [List.filter_cons_of_pos (by exact decide_eq_true c4)]
              refine iteB_t (decide_eq_true c4) ⟨_, rfl, _, eD2, ?_, fun q o e => by rw [upd_ne (ne_of_none e nD2)]; exact s7 _ _ e, by rw [upd_same]; rfl⟩
              have h1 := List.length_filter_le (fun x => decide (prF ps x < prF ps k)) (A.take j)
              rw [List.length_take] at h1
              rw [List.length_map]
              exact Nat.lt_of_le_of_lt (show _ ≤ 1000 by omega) (by decide)
            · rw [List.filter_cons_of_neg (by simpa using c4)]
              refine iteB_f (decide_eq_false c4) ⟨s7, by rw [eD2]; simp⟩
          rintro H7 ⟨s7, eD2⟩
          rw [List.length_map, List.take_length] at eD2
          have hW7 := hW6.keep s7
          have nDW : D2 ≠ W := fun z => by rw [z, hW6.at_] at nD2; cases nD2
          have hf1 := List.length_filter_lt_length_iff_exists (l := A) (p := fun x => decide (prF ps x < prF ps k)).mpr ⟨k, hkA, by simp⟩
          have hwl7 := hW7.len
          refine ⟨W, _, _, rfl, rfl, hW7.at_, by rw [List.length_map]; exact Nat.lt_of_le_of_lt (show ws.length ≤ 2000 by omega) (by decide), ?_⟩
          refine ⟨_, _, _, ws ++ [D2], Ls ++ [A.filter fun x => decide (prF ps x < prF ps k)], rfl, ?_, ?_, hW7.snoc nDW eD2, ?_, ?_, ?_⟩
          · exact fun q o e => by rw [upd_ne (ne_of_none e nW)]; exact ((s5.trans s6).trans s7) _ _ e
          · exact (k5.trans (Same.kp (s6.trans s7))).trans Kp.own
          · intro M hM
            rcases List.mem_append.mp hM with z | z
            · exact hok5 M z
            · rw [List.mem_singleton.mp z]
              exact ⟨hAnd.sublist List.filter_sublist, fun n hn => hAlt n (List.mem_filter.mp hn).1⟩
          · rw [lsum_append, List.length_append, show lsum [A.filter fun x => decide (prF ps x < prF ps k)] = (A.filter fun x => decide (prF ps x < prF ps k)).length from rfl, List.length_singleton]
            omega
          · rw [hiff5, bad_less hmx' c3]
            simp only [List.mem_append, List.mem_singleton]
            constructor
            · rintro (⟨M, hM, h⟩ | h | h)
              · exact .inl ⟨M, .inl hM, h⟩
              · exact .inl ⟨_, .inr rfl, h⟩
              · exact .inr h
            · rintro (⟨M, hM | rfl, h⟩ | h)
              · exact .inl ⟨M, hM, h⟩
              · exact .inr (.inl h)
              · exact .inr (.inr h)
      · rintro σ H5 ⟨v6, v7, v8, ws, Ls, rfl, s5, k5, hW5, hok5, hle, hiff5⟩
        rw [List.length_map, hN.len, List.drop_length] at hle hiff5
        refine ⟨lsum Ls + Ls.length, ?_, _, _, _, _, ws, Ls, rfl, rfl, s5, hW5, hok5, ?_, ?_⟩
        · rw [lsum_append, show lsum [L] = L.length from rfl, List.length_append, List.length_singleton]
          have : lsum ([] : List (List Nat)) = 0 := rfl
          omega
        · omega
        · rw [hiff5]
          simp
    · have : Ls = [] := by
        cases Ls with
        | nil => rfl
        | cons x l => rw [List.length_cons] at hwl; exact absurd (decide_eq_true (by rw [List.length_map, hwl]; omega)) cc
      subst this
      exact ⟨fun z => by obtain ⟨L, hL, _⟩ := hiff.mp z; (cases hL), s2⟩
theorem asc_len_from : ∀ (xs : List Int) (a n : Int), xs.Pairwise (· < ·) → (∀ x ∈ xs, a ≤ x ∧ x < n) → (xs.length : Int) ≤ max 0 (n - a)
  | [], a, n, _, _ => by show (0 : Int) ≤ _; omega
  | x :: xs, a, n, h, hb => by
    rw [List.pairwise_cons] at h
    have ih := asc_len_from xs (x + 1) n h.2 fun y hy => by
      have h1 := h.1 y hy
      have h2 := hb y (List.mem_cons_of_mem _ hy)
      omega
    have hx := hb x List.mem_cons_self
    rw [List.length_cons]
    omega
theorem asc_len {n : Nat} {xs : List Int} (h : Asc (n : Int) xs) : xs.length ≤ n := by
  have := asc_len_from xs 0 n h.1 h.2
  omega
theorem vn_nat {xs : List Int} (h : ∀ z ∈ xs, 0 ≤ z) : xs.map V.int = (xs.map Int.toNat).map VN := by
  rw [List.map_map]
  refine List.map_congr_left fun z hz => ?_
  show V.int z = V.int ((z.toNat : Nat) : Int)
  rw [Int.toNat_of_nonneg (h z hz)]
structure GLn (H : Hp) (D : Addr) (ys : List Addr) (g : Gr.G) (i : Nat) : Prop where
  at_ : H D = some (.lst (ys.map V.ref))
  len : ys.length = i
  get : ∀ (j : Nat) (y : Addr), ys[j]? = some y → y ≠ D ∧ H y = some (.lst ((Gr.row g j).map VN))
theorem GLn.keep {H H' : Hp} {D : Addr} {ys : List Addr} {g : Gr.G} {i : Nat} (s : Same H H') (h : GLn H D ys g i) : GLn H' D ys g i := ⟨s _ _ h.at_, h.len, fun j y e => ⟨(h.get j y e).1, s _ _ (h.get j y e).2⟩⟩
theorem GLn.snoc {H : Hp} {D y : Addr} {ys : List Addr} {g : Gr.G} {i : Nat} (h : GLn H D ys g i) (ny : y ≠ D) (ey : H y = some (.lst ((Gr.row g i).map VN))) : GLn (upd H D (.lst (ys.map V.ref ++ [V.ref y]))) D (ys ++ [y]) g (i + 1) := by
  refine ⟨by rw [upd_same, List.map_append]; rfl, by rw [List.length_append, h.len]; rfl, fun j z hj => ?_⟩
  rcases snocg hj with ⟨_, k⟩ | ⟨k1, k2⟩
  · obtain ⟨n1, h1⟩ := h.get j z k
    exact ⟨n1, by rw [upd_ne n1]; exact h1⟩
  · subst k2
    rw [h.len] at k1
    subst k1
    exact ⟨ny, by rw [upd_ne ny]; exact ey⟩
theorem GLn.grl {H : Hp} {D : Addr} {ys : List Addr} {g : Gr.G} (h : GLn H D ys g g.length) : GrL H D g := ⟨ys, h.at_, h.len, fun i a e => (h.get i a e).2⟩
def gcw (ow : List Int) (c : List (List Int)) (pl : Int) (ch : List Int) : Gr.G := (List.range c.length).map fun k => if ow.getD k 0 = pl then (if 0 ≤ ch.getD k 0 then [(ch.getD k 0).toNat] else []) else (c.getD k []).map Int.toNat
theorem gcw_len (ow : List Int) (c : List (List Int)) (pl : Int) (ch : List Int) : (gcw ow c pl ch).length = c.length := by
  unfold gcw
  rw [List.length_map, List.length_range]
theorem row_gcw {ow : List Int} {c : List (List Int)} {pl : Int} {ch : List Int} {k : Nat} (h : k < c.length) : Gr.row (gcw ow c pl ch) k = if ow.getD k 0 = pl then (if 0 ≤ ch.getD k 0 then [(ch.getD k 0).toNat] else []) else (c.getD k []).map Int.toNat := by
  unfold Gr.row gcw
  rw [List.getD_eq_getElem?_getD, List.getElem?_map, List.getElem?_range h]
  rfl
theorem getD_at {α : Type} {xs : List α} {k : Nat} {x d : α} (h : xs[k]? = some x) : xs.getD k d = x := by rw [List.getD_eq_getElem?_getD, h]; rfl
theorem gcw_ok {ow ps : List Int} {c : List (List Int)} {pl : Int} {ch : List Int} (V : Vg ow ps c) (hc : ∀ (k : Nat) (z : Int), ch[k]? = some z → z < (c.length : Int)) : Gr.Ok (gcw ow c pl ch) := by
  intro u v hv
  rw [gcw_len]
  rcases Nat.lt_or_ge u c.length with l | l
  · rw [row_gcw l] at hv
    split at hv
    · split at hv
      · rename_i h0
        rw [List.mem_singleton.mp hv]
        have hn := List.length_pos_iff.mpr V.ne
        rcases Nat.lt_or_ge u ch.length with l2 | l2
        · have := hc u _ (List.getElem?_eq_getElem l2)
          rw [getD_at (List.getElem?_eq_getElem l2)] at h0 ⊢
          omega
        · rw [List.getD_eq_getElem?_getD, List.getElem?_eq_none l2]
          exact hn
      · cases hv
    · rw [getD_at (List.getElem?_eq_getElem l)] at hv
      obtain ⟨z, hz, rfl⟩ := List.mem_map.mp hv
      have := (V.mv _ (List.getElem_mem l)).2.2 z hz
      omega
  · rw [row_ge (by rw [gcw_len]; exact l)] at hv
    cases hv
theorem gcw_row {ow ps : List Int} {c : List (List Int)} {pl : Int} {ch : List Int} (V : Vg ow ps c) (hl : c.length ≤ 1000) (n : Nat) : (Gr.row (gcw ow c pl ch) n).length ≤ 1000 := by
  rcases Nat.lt_or_ge n c.length with l | l
  · rw [row_gcw l]
    split
    · split
      · show 1 ≤ 1000
        omega
      · exact Nat.zero_le _
    · rw [getD_at (List.getElem?_eq_getElem l), List.length_map]
      have := asc_len (V.mv _ (List.getElem_mem l)).2
      omega
  · rw [row_ge (by rw [gcw_len]; exact l)]
    exact Nat.zero_le _
/-- each play from s is won by the one who loses the cycles of the kind p -/
def WinC (g : Gr.G) (pr : Nat → Int) (p : Int) (s : Nat) : Prop := (∀ u, Gr.Rc g s u → Gr.row g u ≠ []) ∧ ¬ BadIn g pr p (Gr.Rc g s)
def spCW (C cL : Addr) : Sp := fun vs H Q E => ∃ (x a : Addr) (pl pos : Int) (ow ps ch : List Int) (c : List (List Int)), vs = [.ref x, .int pl, .ref a, .int pos] ∧ GmeAt C H x ow ps c ∧ Vg ow ps c ∧ c.length ≤ 1000 ∧ H a = some (.lst (ch.map V.int)) ∧ ch.length = c.length ∧ (∀ (k : Nat) (z : Int), ch[k]? = some z → z < (c.length : Int)) ∧
  (¬ (0 ≤ pos ∧ pos < (c.length : Int)) → E (.ref cL) none H) ∧
  (0 ≤ pos → pos < (c.length : Int) → ∀ (H' : Hp) (b : Bool), Same H H' → (b = true ↔ WinC (gcw ow c pl ch) (prF ps) (1 - pl) pos.toNat) → Q (.bl b) H')
theorem cal_cw {C cL : Addr} (T : Txt K mg) (eL : ErrC K mg "InvalidPosition" cL) (PC : GmeC K C) : CalX P w K mg base 5 "choices_win" (spCW C cL) := by
  have X_check_position : CalX P w K mg base 1 "check_position" (spChkPos C cL) := cal_chkpos T eL PC
  have C_reachable : C8.Cal P w K mg base 1 "reachable" spRch [] := cal_rch T
  have C_winning_group : C8.Cal P w K mg base 4 "winning_group" spWG [] := cal_wg T
  obtain ⟨f, fd, F, hm, hb⟩ := T.h_choices_win
  refine ⟨f, fd, _, F.okX sc_choices_win (fun vs H Q E h => ?_) (fun cdv A outer s H vs Q E hr h => ?_), hm, F.kp, hb⟩
  · obtain ⟨x, a, pl, pos, ow, ps, ch, c, rfl, _⟩ := h
    rfl
  · obtain ⟨x, a, pl, pos, ow, ps, ch, c, rfl, hG, hV, hn, ha, hcl, hch, q1, q2⟩ := h
    refine ⟨_, (pss_cons
      (ps_expr (pe_cx X_check_position hr (by decide) (takes_of rfl rfl rfl rfl) (by rfl) (pa_cons (pv 0) (pa_cons (pv 3) pa_nil))))
      (pss_cons
      (ps_set (i := 4) sc_choices_win.nd rfl (Or.inr rfl) (pe_lst pa_nil))
      (pss_cons
      (ps_for (passes_of rfl) rfl (pi_enumT (by rfl) T.z_enumerate (pa_cons (pe_fld (pv 0) rfl) pa_nil)) (pg_tup (by rfl) (pgs_cons (pg_name (i := 5) sc_choices_win.nd rfl (.inl rfl)) (pgs_cons (pg_name (i := 6) sc_choices_win.nd rfl (.inl rfl)) pgs_nil))) (pss_one
      (ps_if (pt_cmpR op_ne (pe_ix (ix_tupK (K := K) rfl) (pe_fld (pv 0) rfl) (pv 5) (fun _ _ => rfl)) (pv 1) (nomark _)) (pss_one
      (ps_expr (pe_bm PySem.F.plainAttrs_list PySem.F.slot_list_append PySem.F.type_list_append mt_append (pv 4) (pa_cons (pe_callTy (call_list_ofK (K := K) rfl) (by rfl) T.z_list (by decide +kernel) (pa_cons (pv 6) pa_nil)) pa_nil)))) (pss_one
      (ps_expr (pe_bm PySem.F.plainAttrs_list PySem.F.slot_list_append PySem.F.type_list_append mt_append (pv 4) (pa_cons (pe_ifExp (pt_cmpR op_ge (pe_ix (ix_listK (K := K) rfl) (pv 2) (pv 5) (fun _ _ => rfl)) pe_int (nomark _)) (pe_lst (pa_cons (pe_ix (ix_listK (K := K) rfl) (pv 2) (pv 5) (fun _ _ => rfl)) pa_nil)) (pe_lst pa_nil)) pa_nil)))))))
      (pss_cons
      (ps_set (i := 7) sc_choices_win.nd rfl (Or.inl rfl) (C8.pe_c C_reachable hr (by decide) (by rfl) (pa_cons (pv 4) (pa_cons (pe_lst (pa_cons (pv 3) pa_nil)) pa_nil))))
      (pss_cons
      (ps_setLc (i := 8) (own := [("place", 5), ("found", 9)]) (g := gTup K 2 (gCons (gName 5) (gCons (gName 9) gNil))) rfl sc_choices_win.nd rfl rfl (sw_true rfl rfl rfl (by decide +kernel)) (pi_enum (by rfl) T.z_enumerate (pa_cons (pv 7) pa_nil)) (blkOk_by (N := N_choices_win) (sc := defScope s_choices_win) (by decide +kernel)) (fun _ _ _ _ _ => (pg_tup (by rfl) (pgs_cons (pg_name (i := 5) sc_choices_win.nd rfl (Or.inl rfl)) (pgs_cons (pg_name (i := 9) sc_choices_win.nd rfl (Or.inl rfl)) pgs_nil)))) (fun _ _ _ _ _ => (pts_one (pt_val (pv 9)))) (fun _ _ _ _ _ => (pv 5)))
      (pss_cons
      (ps_if (pt_cmpR op_eq (pe_callB (call_minK (K := K) rfl rfl) (by rfl) T.z_min (by decide +kernel) (pa_cons (pe_lc (own := [("place", 5)]) (g := gName 5) (tt := tYes) rfl sc_choices_win.nd (pi_list (pv 8)) (blkOk_by (N := N_choices_win) (sc := defScope s_choices_win) (by decide +kernel)) (fun _ _ _ _ _ => (pg_name (i := 5) sc_choices_win.nd rfl (Or.inl rfl))) (fun _ _ _ _ _ => pts_nil) (fun _ _ _ _ _ => (pe_callB (call_lenK (K := K) rfl) (by rfl) T.z_len PySem.boot_len (pa_cons (pe_ix (ix_listK (K := K) rfl) (pv 4) (pv 5) (fun _ _ => rfl)) pa_nil)))) pa_nil)) pe_int (nomark _)) (pss_one
      (ps_ret pe_bl)) pss_nil)
      (pss_one
      (ps_ret (pe_cmpR op_isN (C8.pe_c C_winning_group hr (by decide) (by rfl) (pa_cons (pv 4) (pa_cons (pv 8) (pa_cons (pe_fld (pv 0) rfl) (pa_cons (pe_op op_sub pe_int (pv 1)) pa_nil))))) pe_non (nomark _)))))))))), ?_⟩
    obtain ⟨dx, ot, pt, rt, as, e1, e2, e3, e4, e5⟩ := id hG
    refine ⟨_, rfl, _, rfl, x, pos, ow, ps, c, rfl, hG, q1, fun z0 z1 => ?_⟩
    obtain ⟨s, rfl⟩ : ∃ s : Nat, pos = (s : Int) := ⟨pos.toNat, by omega⟩
    have q := q2 z0 z1
    rw [Int.toNat_natCast] at q
    clear q1 q2 z0
    have hs : s < c.length := by omega
    generalize hg : gcw ow c pl ch = g at q
    have hgl : g.length = c.length := by rw [← hg, gcw_len]
    have hok : Gr.Ok g := by rw [← hg]; exact gcw_ok hV hch
    have hrow : ∀ n, (Gr.row g n).length ≤ 1000 := fun n => by rw [← hg]; exact gcw_row hV hn n
    refine ⟨Nat.zero_le _, fun D nD => ?_⟩
    generalize hX : upd H D _ = H1; obtain ⟨sH1, eD⟩ := nw nD hX; clear hX
    refine ⟨_, rfl, x, C, dx, _, _, rfl, sH1 _ _ e1, PC.cl, PC.nm, gf_m _ _ _, rt, _, rfl, .of (sH1 _ _ e4), ?_⟩
    refine for_it (walk_enumT (K := K) (a := rt) (xs := as.map V.ref)) (fun i σ H' => ∃ (v5 v6 : Option V) (ys : List Addr), σ = [some (.ref x), some (.int pl), some (.ref a), some (.int (s : Int)), some (.ref D), v5, v6, none, none, none] ∧ Same H H' ∧ GLn H' D ys g i)
      ⟨none, none, [], rfl, sH1, ⟨eD, rfl, fun j y e => by (cases e)⟩⟩ (fun i σ H' _ ⟨_, _, _, _, z, _⟩ => .of (z _ _ e4)) ?_ ?_
    · rintro i v σ H2 H3 hi ⟨v5, v6, ys, rfl, s2, hL⟩ ⟨p, xi, y, rfl, np, rfl, hx, hy⟩
      obtain rfl := Option.some.inj hx
      obtain ⟨r, hr1, rfl⟩ := refsg hy
      generalize hX : upd H2 p _ = H3; obtain ⟨sH3, ep⟩ := nw np hX; clear hX
      have s3 := s2.trans sH3
      have hL3 := hL.keep sH3
      refine ⟨p, _, rfl, .of ep, rfl, _, _, rfl, _, _, rfl, rfl, ?_⟩
      obtain ⟨row, hc1, hra⟩ := RowsA.get e5 hr1
      have hil := lt_of_get hc1
      have hVr := hV.mv row (List.mem_of_getElem? hc1)
      have hol := hV.lo
      obtain ⟨o, ho⟩ : ∃ o, ow[i]? = some o := ⟨_, List.getElem?_eq_getElem (by omega)⟩
      obtain ⟨z, hz⟩ : ∃ z, ch[i]? = some z := ⟨_, List.getElem?_eq_getElem (by omega)⟩
      have hrw : Gr.row g i = if o = pl then (if 0 ≤ z then [z.toNat] else []) else row.map Int.toNat := by rw [← hg, row_gcw hil, getD_at ho, getD_at hz, getD_at hc1]
      have nDD : ∀ {q : Addr} {H4 : Hp}, H4 q = none → H4 D = some (.lst (ys.map V.ref)) → q ≠ D := fun n e z => by rw [z, e] at n; cases n
      have hyl : (ys.map V.ref).length < sizeLine := by rw [List.length_map, hL.len]; exact Nat.lt_of_le_of_lt (show i ≤ 1000 by omega) (by decide)
      refine ⟨_, rfl, x, C, dx, _, _, rfl, s3 _ _ e1, PC.cl, PC.no, gf_o _ _ _, _, rfl, ot, _, _, .int o, rfl, rfl, .of (s3 _ _ e2), atI_nat (by rw [List.getElem?_map, ho]; rfl), _, rfl, rfl, _, rfl, ?_⟩
      by_cases c0 : o = pl
      · rw [if_pos c0] at hrw
        rw [decide_eq_true (by rw [c0])]
        refine iteB_f rfl ⟨_, rfl, .inl ⟨rfl, _, .of hL3.at_⟩, _, rfl, _, rfl, a, _, _, .int z, rfl, rfl, .of (s3 _ _ ha), atI_nat (by rw [List.getElem?_map, hz]; rfl), _, _, rfl, rfl, _, rfl, ?_⟩
        by_cases c4 : 0 ≤ z
        · rw [if_pos c4] at hrw
          refine iteB_t (decide_eq_true c4) ⟨_, rfl, _, rfl, a, _, _, .int z, rfl, rfl, .of (s3 _ _ ha), atI_nat (by rw [List.getElem?_map, hz]; rfl), by show 1 ≤ sizeLine; decide, fun t nt => ?_⟩
          have nt3 := nt
          generalize hX : upd H3 t _ = H4; obtain ⟨sH4, et⟩ := nw nt hX; clear hX
          refine ⟨D, _, _, rfl, rfl, (hL3.keep sH4).at_, hyl, ?_⟩
          refine ⟨_, _, ys ++ [t], rfl, fun q o e => by rw [upd_ne (ne_of_none e nD)]; exact (s3.trans sH4) _ _ e, (hL3.keep sH4).snoc (nDD nt hL3.at_) ?_⟩
          rw [et, hrw]
          show _ = some (HO.lst [V.int ((z.toNat : Nat) : Int)])
          rw [Int.toNat_of_nonneg c4]
        · rw [if_neg c4] at hrw
          refine iteB_f (decide_eq_false c4) ⟨Nat.zero_le _, fun t nt => ?_⟩
          generalize hX : upd H3 t _ = H4; obtain ⟨sH4, et⟩ := nw nt hX; clear hX
          refine ⟨D, _, _, rfl, rfl, (hL3.keep sH4).at_, hyl, ?_⟩
          exact ⟨_, _, ys ++ [t], rfl, fun q o e => by rw [upd_ne (ne_of_none e nD)]; exact (s3.trans sH4) _ _ e, (hL3.keep sH4).snoc (nDD nt hL3.at_) (by rw [et, hrw]; rfl)⟩
      · rw [if_neg c0] at hrw
        rw [decide_eq_false (fun z => c0 (by injection z))]
        refine iteB_t rfl ⟨_, rfl, .inl ⟨rfl, _, .of hL3.at_⟩, _, rfl, r, _, rfl, .inr (.of (s3 _ _ hra)), fun t nt => ?_⟩
        generalize hX : upd H3 t _ = H4; obtain ⟨sH4, et⟩ := nw nt hX; clear hX
        refine ⟨D, _, _, rfl, rfl, (hL3.keep sH4).at_, hyl, ?_⟩
        exact ⟨_, _, ys ++ [t], rfl, fun q o e => by rw [upd_ne (ne_of_none e nD)]; exact (s3.trans sH4) _ _ e, (hL3.keep sH4).snoc (nDD nt hL3.at_) (by rw [et, hrw, vn_nat fun z hz => (hVr.2.2 z hz).1])⟩
    rintro σ H2 ⟨v5, v6, ys, rfl, s2, hL⟩
    have hal : (as.map V.ref).length = g.length := by rw [List.length_map, e5.len, hgl]
    rw [hal] at hL
    have hGr := hL.grl
    refine ⟨_, rfl, _, rfl, by show 1 ≤ sizeLine; decide, fun t nt => ?_⟩
    generalize hX : upd H2 t _ = H3; obtain ⟨sH3, et⟩ := nw nt hX; clear hX
    have s3 := s2.trans sH3
    refine ⟨D, t, g, [s], rfl, hGr.same sH3, hok, by omega, .inl et, fun z hz => by rw [List.mem_singleton.mp hz]; omega, by show 1 ≤ 1000000; decide, fun H4 y fs s4 ny ey hfl => ?_⟩
    have hfl2 : Fl g.length (Gr.Rc g s) fs := hfl.cong fun u => by simp
    have s04 := s3.trans s4
    have hGr4 := (hGr.same sH3).same s4
    clear s3 s4 hfl nt et hL
    have hfs := hfl2.1
    -- reached
    refine ⟨_, rfl, y, _, rfl, .of ey, fun R nR => ?_⟩
    refine lc_it (walk_enum (K := K) (a := y) (xs := fs.map V.bl)) (fun i H' => Same H4 H' ∧ ∃ rs : List Nat, H' R = some (.lst (rs.map VN)) ∧ rs.length ≤ i ∧ rs.Pairwise (· < ·) ∧ ∀ u, u ∈ rs ↔ u < i ∧ u < g.length ∧ Gr.Rc g s u)
      ⟨same_new nR, [], upd_same, Nat.le_refl _, List.Pairwise.nil, fun u => ⟨fun h => (by cases h), fun h => absurd h.1 (Nat.not_lt_zero _)⟩⟩ (fun i H' _ ⟨z, _⟩ => .of (z _ _ ey)) ?_ ?_
    · rintro i v H5 H6 hi ⟨s5, rs, eR, hrl, hpw, hmem⟩ ⟨p, xi, y, rfl, np, rfl, hx, hy⟩
      obtain rfl := Option.some.inj hx
      obtain ⟨b, hb, rfl⟩ := mapg hy
      have hil := lt_of_get hb
      rw [hfs] at hil
      have hbs := hfl2.2 i b hb
      generalize hX : upd H5 p _ = H6; obtain ⟨sH6, ep⟩ := nw np hX; clear hX
      refine ⟨p, _, rfl, .of ep, rfl, _, _, rfl, _, _, rfl, rfl, rfl, _, rfl, ?_⟩
      refine ⟨_, rfl, ?_⟩
      cases b with
      | true =>
        have hrc := hbs.mp rfl
        refine iteB_t rfl ⟨_, rfl, _, sH6 _ _ eR, by rw [List.length_map]; exact Nat.lt_of_le_of_lt (show rs.length ≤ 1000 by omega) (by decide), fun q o e => by rw [upd_ne (ne_of_none e nR)]; exact (s5.trans sH6) _ _ e, rs ++ [i], by rw [upd_same, List.map_append]; rfl, by rw [List.length_append, List.length_singleton]; omega, ?_, fun u => ?_⟩
        · exact List.pairwise_append.mpr ⟨hpw, by simp, fun u hu v hv => by rw [List.mem_singleton.mp hv]; exact ((hmem u).mp hu).1⟩
        · rw [List.mem_append, List.mem_singleton, hmem u]
          constructor
          · rintro (⟨h1, h2, h3⟩ | rfl)
            · exact ⟨by omega, h2, h3⟩
            · exact ⟨by omega, hil, hrc⟩
          · rintro ⟨h1, h2, h3⟩
            rcases Nat.lt_or_ge u i with k | k
            · exact .inl ⟨k, h2, h3⟩
            · exact .inr (by omega)
      | false =>
        refine iteB_f rfl ⟨s5.trans sH6, rs, sH6 _ _ eR, by omega, hpw, fun u => ?_⟩
        rw [hmem u]
        constructor
        · rintro ⟨h1, h2, h3⟩
          exact ⟨by omega, h2, h3⟩
        · rintro ⟨h1, h2, h3⟩
          refine ⟨?_, h2, h3⟩
          rcases Nat.lt_or_ge u i with k | k
          · exact k
          · have : u = i := by omega
            subst this
            exact absurd (hbs.mpr h3) (by decide)
    rintro H5 ⟨s5, rs, eR, hrl, hpw, hmem0⟩
    rw [List.length_map, hfs] at hrl hmem0
    have hmem : ∀ u, u ∈ rs ↔ Gr.Rc g s u := fun u => ⟨fun h => ((hmem0 u).mp h).2.2, fun h => have l := Gr.Ok.rc hok h (by omega); (hmem0 u).mpr ⟨l, l, h⟩⟩
    have hlt : ∀ u ∈ rs, u < g.length := fun u h => ((hmem0 u).mp h).1
    clear hmem0
    have s05 := s04.trans s5
    have hGr5 := hGr4.same s5
    obtain ⟨gs, eD5, hgsl, hgs⟩ := id hGr5
    -- the shortest row
    refine ⟨_, rfl, R, rfl, ⟨_, .of eR⟩, fun M nM => ?_⟩
    refine lc_list (K := K) (a := R) (xs := rs.map VN) (fun j H' => Same H5 H' ∧ H' M = some (.lst ((rs.take j).map fun u => V.int ((Gr.row g u).length : Int)))) ⟨same_new nM, upd_same⟩ (fun j H' _ ⟨z, _⟩ => .of (z _ _ eR)) ?_ ?_
    · rintro j v H6 hj ⟨s6, eM⟩
      obtain ⟨u, hu, rfl⟩ := nats_get hj
      have hul := hlt u (List.mem_of_getElem? hu)
      obtain ⟨ra, hra⟩ : ∃ a, gs[u]? = some a := ⟨_, List.getElem?_eq_getElem (by rw [hgsl]; exact hul)⟩
      have hjl := lt_of_get hu
      refine ⟨rfl, _, rfl, _, rfl, D, _, _, .ref ra, rfl, rfl, .of (s6 _ _ eD5), atN hra, ra, _, rfl, .inl (.of (s6 _ _ (hgs u ra hra))), _, eM, by rw [List.length_map, List.length_take]; exact Nat.lt_of_le_of_lt (show min j rs.length ≤ 1000 by omega) (by decide), fun q o e => by rw [upd_ne (ne_of_none e nM)]; exact s6 _ _ e, by rw [upd_same, take_succ' hu, List.map_append, List.length_map]; rfl⟩
    rintro H6 ⟨s6, eM⟩
    rw [List.length_map, List.take_length] at eM
    have s06 := s05.trans s6
    have hsr : s ∈ rs := (hmem s).mpr (.refl s)
    refine ⟨M, rs.map (fun u => ((Gr.row g u).length : Int)), rfl, .of (by rw [eM, List.map_map]; rfl), by rw [List.length_map]; exact List.length_pos_of_mem hsr, fun m hm hmx => ⟨rfl, _, rfl, ite_eq (fun c0 => ?_) (fun c0 => ?_)⟩⟩
    · obtain ⟨u, hu, hum⟩ := List.mem_map.mp hm
      refine q H6 false s06 ⟨fun z => (by cases z), fun z => absurd ?_ (z.1 u ((hmem u).mp hu))⟩
      exact List.eq_nil_of_length_eq_zero (by omega)
    · have hpos : ∀ u, Gr.Rc g s u → Gr.row g u ≠ [] := fun u hu z => by
        have h1 := hmx _ (List.mem_map_of_mem ((hmem u).mpr hu))
        obtain ⟨u2, hu2, hum⟩ := List.mem_map.mp hm
        rw [z] at h1
        have e0 : (([] : List Nat).length : Int) = 0 := rfl
        rw [e0] at h1
        omega
      have hbad : BadIn g (prF ps) (1 - pl) (· ∈ rs) ↔ BadIn g (prF ps) (1 - pl) (Gr.Rc g s) := ⟨fun h => h.mono fun u hu => (hmem u).mp hu, fun h => h.mono fun u hu => (hmem u).mpr hu⟩
      refine ⟨_, rfl, _, rfl, _, rfl, x, C, dx, _, _, rfl, s06 _ _ e1, PC.cl, PC.np, gf_p _ _ _, _, rfl, _, _, rfl, rfl, D, R, pt, 1 - pl, g, rs, ps, rfl, hGr5.same s6, s6 _ _ eR, (by rw [List.nodup_iff_pairwise_ne]; exact hpw.imp (fun h => Nat.ne_of_lt h)), hlt, by omega, hrow, s06 _ _ e3, by rw [hgl]; exact hV.lp, fun hno H7 s7 => ⟨rfl, ?_⟩, fun hyes H7 b s7 => ⟨rfl, ?_⟩⟩
      · rw [decide_eq_true rfl]
        exact q H7 true (s06.trans s7) ⟨fun _ => ⟨hpos, fun z => hno (hbad.mpr z)⟩, fun _ => rfl⟩
      · rw [decide_eq_false (by simp)]
        exact q H7 false (s06.trans s7) ⟨fun z => (by cases z), fun z => absurd (hbad.mp hyes) z.2⟩
def subG (al : List Bool) (g : Gr.G) : Gr.G := g.map fun r => r.filter fun v => al.getD v false
theorem row_sub (al : List Bool) (g : Gr.G) (u : Nat) : Gr.row (subG al g) u = (Gr.row g u).filter fun v => al.getD v false := by
  unfold Gr.row subG
  rw [List.getD_eq_getElem?_getD, List.getD_eq_getElem?_getD, List.getElem?_map]
  cases g[u]? with
  | none => rfl
  | some r => rfl
theorem sub_E {al : List Bool} {g : Gr.G} {u v : Nat} : Gr.E (subG al g) u v ↔ Gr.E g u v ∧ al.getD v false = true := by
  unfold Gr.E
  rw [row_sub, List.mem_filter]
theorem getD_b {al : List Bool} {v : Nat} {b : Bool} (h : al[v]? = some b) : al.getD v false = b := by
  rw [List.getD_eq_getElem?_getD, h]; rfl
theorem Rw.popf {g : Gr.G} {st : List Nat} {S : Nat → Prop} {ws dn : List Nat} {w d : Nat} (k : Rw g st S (w :: ws) d dn) (hd : dn = Gr.row g d) : Rw g st S ws w [] := by
  refine ⟨k.inn, k.rc, fun u hu => ?_, fun u hu => k.ws u (List.mem_cons_of_mem _ hu)⟩
  rcases k.cl u hu with z | ⟨z, y⟩ | z
  · rcases List.mem_cons.mp z with z | z
    · exact .inr (.inl ⟨z, by simp⟩)
    · exact .inl z
  · exact .inr (.inr (by rw [z, ← hd]; exact y))
  · exact .inr (.inr z)
theorem drop_get {l : List Nat} {i w : Nat} (h : l[i]? = some w) : l.drop i = w :: l.drop (i + 1) := List.drop_eq_getElem?_toList_append.trans (by rw [h]; rfl)
theorem filter_snoc (p : Nat → Bool) (l : List Nat) (x : Nat) : (l ++ [x]).filter p = if p x = true then l.filter p ++ [x] else l.filter p := by
  rw [List.filter_append]
  by_cases h : p x = true
  · rw [if_pos h, List.filter_cons_of_pos h]; rfl
  · rw [if_neg h, List.filter_cons_of_neg h]; simp
def spLrch : Sp := fun vs H Q _ => ∃ (r a A : Addr) (g : Gr.G) (st : List Nat) (al : List Bool), vs = [.ref r, .ref a, .ref A] ∧ GrL H r g ∧ Gr.Ok g ∧ g.length ≤ 100000 ∧ H a = some (.lst (st.map VN)) ∧ (∀ s ∈ st, s < g.length) ∧ H A = some (.lst (al.map V.bl)) ∧ al.length = g.length ∧
  ∀ (H' : Hp) (y : Addr) (fs : List Bool), Same H H' → H y = none → H' y = some (.lst (fs.map V.bl)) → Fl g.length (fun u => ∃ s ∈ st, al.getD s false = true ∧ Gr.Rc (subG al g) s u) fs → Q (.ref y) H'
theorem cal_lrch (T : Txt K mg) : C8.Cal P w K mg base 1 "_law_reached" spLrch [] := by
  obtain ⟨f, fd, F, hm, hb⟩ := T.h_law_reached
  refine ⟨f, fd, _, [], F.ok sc_law_reached (fun vs H Q E h => ?_) (fun cdv A outer s H vs Q E hr h => ?_), hm, F.kp, hb, .nil⟩
  · obtain ⟨r, a, A, g, st, al, rfl, _⟩ := h
    rfl
  · obtain ⟨r, a, B, g, st, al, rfl, hG, ok, hn, hst, hsl, hB, hal', q⟩ := h
    refine ⟨_, (pss_cons
      (ps_set (i := 3) sc_law_reached.nd rfl (Or.inl rfl) (pe_op op_rep (pe_lst (pa_cons pe_bl pa_nil)) (pe_callB (call_lenK (K := K) rfl) (by rfl) T.z_len PySem.boot_len (pa_cons (pv 0) pa_nil))))
      (pss_cons
      (ps_set (i := 4) sc_law_reached.nd rfl (Or.inl rfl) (pe_lst pa_nil))
      (pss_cons
      (ps_for PassesOwn.never rfl (pi_list (pv 1)) (pg_name (i := 5) sc_law_reached.nd rfl (.inl rfl)) (pss_one
      (ps_if (PW.pt (pw_and (pt_val (pe_ix (ix_listK (K := K) rfl) (pv 2) (pv 5) (fun _ _ => rfl))) (pw_and1 (pt_not (pt_val (pe_ix (ix_listK (K := K) rfl) (pv 3) (pv 5) (fun _ _ => rfl))))))) (pss_cons
      (ps_asg pe_bl (pg_sub (pv 3) (pv 5) set_list))
      (pss_one
      (ps_expr (pe_bm PySem.F.plainAttrs_list PySem.F.slot_list_append PySem.F.type_list_append mt_append (pv 4) (pa_cons (pv 5) pa_nil))))) pss_nil)))
      (pss_cons
      (ps_for PassesOwn.never rfl (pi_range1 (by rfl) T.z_range (pa_cons (pe_callB (call_lenK (K := K) rfl) (by rfl) T.z_len PySem.boot_len (pa_cons (pv 0) pa_nil)) pa_nil)) (pg_name (i := 6) sc_law_reached.nd rfl (.inl rfl)) (pss_one
      (ps_if (pt_cmpR op_lt (pv 6) (pe_callB (call_lenK (K := K) rfl) (by rfl) T.z_len PySem.boot_len (pa_cons (pv 4) pa_nil)) (nomark _)) (pss_one
      (ps_for PassesOwn.never rfl (pi_list (pe_ix (ix_listK (K := K) rfl) (pv 0) (pe_ix (ix_listK (K := K) rfl) (pv 4) (pv 6) (fun _ _ => rfl)) (fun _ _ => rfl))) (pg_name (i := 7) sc_law_reached.nd rfl (.inl rfl)) (pss_one
      (ps_if (PW.pt (pw_and (pt_val (pe_ix (ix_listK (K := K) rfl) (pv 2) (pv 7) (fun _ _ => rfl))) (pw_and1 (pt_not (pt_val (pe_ix (ix_listK (K := K) rfl) (pv 3) (pv 7) (fun _ _ => rfl))))))) (pss_cons
      (ps_asg pe_bl (pg_sub (pv 3) (pv 7) set_list))
      (pss_one
      (ps_expr (pe_bm PySem.F.plainAttrs_list PySem.F.slot_list_append PySem.F.type_list_append mt_append (pv 4) (pa_cons (pv 7) pa_nil))))) pss_nil)))) pss_nil)))
      (pss_one
      (ps_ret (pv 3))))))), ?_⟩
    obtain ⟨as, hr0, hal, ha⟩ := id hG
    have sok : Gr.Ok (subG al g) := fun u v hv => by
      have := ok u v (sub_E.mp hv).1
      unfold subG
      rw [List.length_map]; exact this
    have sgl : (subG al g).length = g.length := by unfold subG; rw [List.length_map]
    refine ⟨by show 1 ≤ sizeLine; decide, fun l nl => ?_⟩
    generalize hX : upd H l _ = H1; obtain ⟨sH1, el⟩ := nw nl hX; clear hX
    refine ⟨_, rfl, r, _, rfl, .inl (.of (sH1 _ _ hr0)), l, _, _, rfl, rfl, el, by omega, by rw [List.length_map]; omega, ?_, fun M nM => ?_⟩
    · rw [List.length_map, hal, Int.toNat_natCast]
      show 1 * g.length ≤ 16777216
      omega
    rw [List.length_map, hal, Int.toNat_natCast, show (List.replicate g.length [V.bl false]).flatten = (List.replicate g.length false).map V.bl by simp]
    have nM0 := sH1.free nM
    generalize hX : upd H1 M _ = H2; obtain ⟨sH2, eM⟩ := nw nM hX; clear hX
    have s2 := sH1.trans sH2
    refine ⟨Nat.zero_le _, fun W nW => ?_⟩
    have nW0 := s2.free nW
    have nWM : W ≠ M := fun z => by rw [z, eM] at nW; cases nW
    generalize hX : upd H2 W _ = H3; obtain ⟨sH3, eW⟩ := nw nW hX; clear hX
    have s3 := s2.trans sH3
    have eM3 := sH3 _ _ eM
    clear eM
    obtain ⟨S0, hS0⟩ : ∃ S0 : List Nat → List Nat, S0 = fun l => l.filter fun v => al.getD v false := ⟨_, rfl⟩
    -- adding a node that is allowed and not seen
    refine ⟨_, rfl, a, rfl, ⟨_, .of (s3 _ _ hst)⟩, for_list (K := K) (a := a) (xs := st.map VN) (fun i σ H' => ∃ (fs : List Bool) (ws : List Nat) (v5 v6 v7 : Option V), σ = [some (.ref r), some (.ref a), some (.ref B), some (.ref M), some (.ref W), v5, v6, v7] ∧ Same H H' ∧ H' M = some (.lst (fs.map V.bl)) ∧ H' W = some (.lst (ws.map VN)) ∧ ws.Nodup ∧ (∀ u, u ∈ ws ↔ u ∈ S0 (st.take i)) ∧ Fl g.length (fun u => u ∈ ws) fs)
      ⟨_, [], _, _, _, rfl, s3, eM3, eW, List.nodup_nil, fun u => by rw [hS0]; simp, (Fl.rep _).cong (by simp)⟩ (fun i σ H' _ ⟨_, _, _, _, _, _, z, _⟩ => .of (z _ _ hst)) ?_ ?_⟩
    · clear s3 eM3 eW
      rintro i x σ H4 hx ⟨fs, ws, v5, v6, v7, rfl, s4, eM, eW, hnd, hws, hfl⟩
      obtain ⟨u, hu, rfl⟩ := nats_get hx
      have hul := hsl u (List.mem_of_getElem? hu)
      have hws' := hws
      rw [hS0] at hws'
      have hab : al[u]? = some al[u] := List.getElem?_eq_getElem (by rw [hal']; exact hul)
      obtain ⟨b, hb1, hb2⟩ := hfl.get hul
      have hgd := getD_b hab
      generalize al[u] = ab at hab hgd
      have hst1 : S0 (st.take (i + 1)) = if ab = true then S0 (st.take i) ++ [u] else S0 (st.take i) := by
        rw [hS0, take_succ' hu]
        show List.filter _ _ = _
        rw [filter_snoc, hgd]
      refine ⟨_, rfl, _, rfl, B, _, _, .bl ab, rfl, rfl, .of (s4 _ _ hB), atN hab, ab, rfl, ?_⟩
      cases ab with
      | false =>
        refine iteB_f rfl (iteB_f rfl ⟨fs, ws, _, _, _, rfl, s4, eM, eW, hnd, fun y => ?_, hfl⟩)
        rw [hst1, if_neg Bool.false_ne_true]
        exact hws y
      | true =>
        rw [if_pos rfl] at hst1
        refine iteB_t rfl ⟨_, rfl, _, rfl, M, _, _, .bl b, rfl, rfl, .of eM, atN hb1, b, rfl, ?_⟩
        cases b with
        | true =>
          refine iteB_f (c := !true) rfl ⟨fs, ws, _, _, _, rfl, s4, eM, eW, hnd, fun y => ?_, hfl⟩
          rw [hst1, List.mem_append, ← hws y]
          exact ⟨.inl, fun z => z.elim id fun z => by rw [List.mem_singleton.mp z]; exact hb2.mp rfl⟩
        | false =>
          refine iteB_t (c := !false) rfl ?_
          refine ⟨_, rfl, _, rfl, M, _, _, u, rfl, rfl, eM, ixN_at (by rw [List.length_map, hfl.1]; exact hul), ?_⟩
          rw [show (fs.map V.bl).set u (.bl true) = (fs.set u true).map V.bl by rw [List.map_set]]
          generalize hX : upd H4 M _ = H5; have tH5 := mwt eM hX; clear eM; obtain ⟨sH5, eM, kH5⟩ := mw s4 nM0 hX; clear hX
          have eW5 := (kH5 W nWM).trans eW
          have hwl := nd_len (n := g.length) hnd fun y hy => by
            have h1 := (hws' y).mp hy
            exact hsl y (List.mem_of_mem_take (List.mem_filter.mp h1).1)
          have hnu : u ∉ ws := fun z => by have := hb2.mpr z; cases this
          refine ⟨_, rfl, .inl ⟨rfl, _, .of eW5⟩, _, rfl, W, _, _, rfl, rfl, eW5, by rw [List.length_map]; exact Nat.lt_of_le_of_lt (show ws.length ≤ 100000 by omega) (by decide), ?_⟩
          generalize hX : upd H5 W _ = H6; have tH6 := mwt eW5 hX; clear eW5; obtain ⟨sH6, eW, kH6⟩ := mw sH5 nW0 hX; clear hX
          refine ⟨fs.set u true, ws ++ [u], _, _, _, rfl, sH6, (kH6 M nWM.symm).trans eM, by rw [eW, List.map_append]; rfl, List.nodup_append.mpr ⟨hnd, by simp, fun p hp p' hp' => by rw [List.mem_singleton.mp hp']; exact fun z => hnu (z ▸ hp)⟩, fun y => ?_, hfl.set fun y => ?_⟩
          · rw [hst1, List.mem_append, List.mem_append, hws y]
          · rw [List.mem_append, List.mem_singleton, or_comm]
    clear s3 eM3 eW
    rintro σ H4 ⟨fs, ws, v5, v6, v7, rfl, s4, eM, eW, hnd, hws, hfl⟩
    rw [List.length_map, List.take_length] at hws
    have hS : ∀ u, u ∈ S0 st ↔ u ∈ st ∧ al.getD u false = true := fun u => by rw [hS0]; exact List.mem_filter
    refine ⟨_, rfl, r, _, rfl, .inl (.of (s4 _ _ hr0)), _, rfl, by omega, by rw [List.length_map]; omega, ?_⟩
    rw [List.length_map, hal, Int.toNat_natCast]
    refine for_range (lo := 0) (n := g.length) (fun i σ H' => ∃ (fs : List Bool) (qs : List Nat) (d : Nat) (v5 v6 v7 : Option V), σ = [some (.ref r), some (.ref a), some (.ref B), some (.ref M), some (.ref W), v5, v6, v7] ∧ Same H H' ∧ H' M = some (.lst (fs.map V.bl)) ∧ H' W = some (.lst (qs.map VN)) ∧ qs.Nodup ∧ Fl g.length (fun u => u ∈ qs) fs ∧ Rw (subG al g) (S0 st) (fun u => u ∈ qs) (qs.drop i) d (Gr.row (subG al g) d))
      ⟨fs, ws, 0, _, _, _, rfl, s4, eM, eW, hnd, hfl, ⟨fun u hu => (hws u).mpr hu, fun u hu => ⟨by rw [sgl]; exact hsl u ((hS u).mp ((hws u).mp hu)).1, u, (hws u).mp hu, .refl u⟩, fun u hu => .inl hu, fun u hu => hu⟩⟩ ?_ ?_
    · clear s4 eM eW hnd hfl hws ws fs
      rintro i σ H5 hi ⟨fs, qs, d, v5, v6, v7, rfl, s5, eM, eW, hnd, hfl, hR⟩
      rw [Int.zero_add]
      refine ⟨_, rfl, _, rfl, W, _, rfl, .inl (.of eW), _, _, rfl, rfl, _, rfl, ite2 (fun cc => ?_) (fun cc => ?_)⟩
      · have cc : i < qs.length := by have := of_decide_eq_true cc; rw [List.length_map] at this; omega
        obtain ⟨w0, hw0⟩ : ∃ x, qs[i]? = some x := ⟨_, List.getElem?_eq_getElem cc⟩
        have hwm := List.mem_of_getElem? hw0
        have hw0l := (hR.rc w0 hwm).1
        rw [sgl] at hw0l
        obtain ⟨b, hrb⟩ : ∃ a, as[w0]? = some a := ⟨_, List.getElem?_eq_getElem (by rw [hal]; exact hw0l)⟩
        have hrow := ha w0 _ hrb
        rw [drop_get hw0] at hR
        refine ⟨_, rfl, _, rfl, _, rfl, W, _, _, VN w0, rfl, rfl, .of eW, atN hw0, r, _, _, .ref b, rfl, rfl, .of (s5 _ _ hr0), atN hrb, b, rfl, ⟨_, .of (s5 _ _ hrow)⟩, ?_⟩
        refine for_list (K := K) (a := b) (xs := (Gr.row g w0).map VN) (fun j σ H' => ∃ (fs2 : List Bool) (qs2 : List Nat) (v5 v6 v7 : Option V), σ = [some (.ref r), some (.ref a), some (.ref B), some (.ref M), some (.ref W), v5, v6, v7] ∧ Same H H' ∧ H' M = some (.lst (fs2.map V.bl)) ∧ H' W = some (.lst (qs2.map VN)) ∧ qs2.Nodup ∧ i < qs2.length ∧ Fl g.length (fun u => u ∈ qs2) fs2 ∧ w0 ∈ qs2 ∧ Rw (subG al g) (S0 st) (fun u => u ∈ qs2) (qs2.drop (i + 1)) w0 (((Gr.row g w0).take j).filter fun v => al.getD v false))
          ⟨fs, qs, _, _, _, rfl, s5, eM, eW, hnd, cc, hfl, hwm, hR.popf rfl⟩ (fun j σ H' _ ⟨_, _, _, _, _, _, z, _⟩ => .of (z _ _ hrow)) ?_ ?_
        · clear s5 eM eW hnd hfl hR hwm cc hw0
          rintro j v σ H7 hj ⟨fs, qs, v5, v6, v7, rfl, s7, eM, eW, hnd, hiq, hfl, hwm, hR⟩
          obtain ⟨x, hx, rfl⟩ := nats_get hj
          have hxl := ok w0 x (List.mem_of_getElem? hx)
          have hab : al[x]? = some al[x] := List.getElem?_eq_getElem (by rw [hal']; exact hxl)
          obtain ⟨b2, hb1, hb2⟩ := hfl.get hxl
          have hgd := getD_b hab
          generalize al[x] = ab at hab hgd
          refine ⟨_, rfl, _, rfl, B, _, _, .bl ab, rfl, rfl, .of (s7 _ _ hB), atN hab, ab, rfl, ?_⟩
          cases ab with
          | false =>
            refine iteB_f rfl (iteB_f rfl ⟨fs, qs, _, _, _, rfl, s7, eM, eW, hnd, hiq, hfl, hwm, ?_⟩)
            rw [take_succ' hx, filter_snoc, hgd, if_neg Bool.false_ne_true]
            exact hR
          | true =>
            have hrow2 : ((Gr.row g w0).take (j + 1)).filter (fun v => al.getD v false) = ((Gr.row g w0).take j).filter (fun v => al.getD v false) ++ [x] := by rw [take_succ' hx, filter_snoc, hgd, if_pos rfl]
            refine iteB_t rfl ⟨_, rfl, _, rfl, M, _, _, .bl b2, rfl, rfl, .of eM, atN hb1, b2, rfl, ?_⟩
            cases b2 with
            | true =>
              refine iteB_f (c := !true) rfl ?_
              exact ⟨fs, qs, _, _, _, rfl, s7, eM, eW, hnd, hiq, hfl, hwm, by rw [hrow2]; exact hR.seen (hb2.mp rfl)⟩
            | false =>
              refine iteB_t (c := !false) rfl ?_
              refine ⟨_, rfl, _, rfl, M, _, _, x, rfl, rfl, eM, ixN_at (by rw [List.length_map, hfl.1]; exact hxl), ?_⟩
              rw [show (fs.map V.bl).set x (.bl true) = (fs.set x true).map V.bl by rw [List.map_set]]
              generalize hX : upd H7 M _ = H8; have tH8 := mwt eM hX; clear eM; obtain ⟨sH8, eM, kH8⟩ := mw s7 nM0 hX; clear hX
              have eW8 := (kH8 W nWM).trans eW
              have hwl := nd_len (n := g.length) hnd fun y hy => by have := (hR.rc y hy).1; rw [sgl] at this; exact this
              have hnu : x ∉ qs := fun z => by have := hb2.mpr z; cases this
              refine ⟨_, rfl, .inl ⟨rfl, _, .of eW8⟩, _, rfl, W, _, _, rfl, rfl, eW8, by rw [List.length_map]; exact Nat.lt_of_le_of_lt (show qs.length ≤ 100000 by omega) (by decide), ?_⟩
              generalize hX : upd H8 W _ = H9; have tH9 := mwt eW8 hX; clear eW8; obtain ⟨sH9, eW, kH9⟩ := mw sH8 nW0 hX; clear hX
              refine ⟨fs.set x true, qs ++ [x], _, _, _, rfl, sH9, (kH9 M nWM.symm).trans eM, by rw [eW, List.map_append]; rfl, List.nodup_append.mpr ⟨hnd, by simp, fun p hp p' hp' => by rw [List.mem_singleton.mp hp']; exact fun z => hnu (z ▸ hp)⟩, by rw [List.length_append]; omega, hfl.set fun y => by rw [List.mem_append, List.mem_singleton, or_comm], by simp [hwm], ?_⟩
              rw [List.drop_append_of_le_length (by omega), hrow2]
              exact hR.push hwm (sub_E.mpr ⟨List.mem_of_getElem? hx, hgd⟩) (by rw [sgl]; exact hxl) fun y => by rw [List.mem_append, List.mem_singleton, or_comm]
        · rintro σ H7 ⟨fs, qs, v5, v6, v7, rfl, s7, eM, eW, hnd, hiq, hfl, hwm, hR⟩
          rw [List.length_map, List.take_length, ← row_sub] at hR
          exact ⟨fs, qs, w0, _, _, _, rfl, s7, eM, eW, hnd, hfl, hR⟩
      · have cc : qs.length ≤ i := by
          rcases Nat.lt_or_ge i qs.length with k | k
          · exact absurd (decide_eq_true (by rw [List.length_map]; omega)) cc
          · exact k
        rw [List.drop_eq_nil_of_le cc] at hR
        exact ⟨fs, qs, d, _, _, _, rfl, s5, eM, eW, hnd, hfl, by rw [List.drop_eq_nil_of_le (by omega)]; exact hR⟩
    · clear s4 eM eW hnd hfl hws ws fs
      rintro σ H5 ⟨fs, qs, d, v5, v6, v7, rfl, s5, eM, eW, hnd, hfl, hR⟩
      have hwl := nd_len (n := g.length) hnd fun y hy => by have := (hR.rc y hy).1; rw [sgl] at this; exact this
      rw [List.drop_eq_nil_of_le hwl] at hR
      refine ⟨_, rfl, q H5 M fs s5 nM0 eM (hfl.cong fun u => ?_)⟩
      rw [hR.fin rfl u]
      exact ⟨fun ⟨s, h1, h2, h3⟩ => ⟨s, (hS s).mpr ⟨h1, h2⟩, h3⟩, fun ⟨s, h1, h2⟩ => ⟨s, ((hS s).mp h1).1, ((hS s).mp h1).2, h2⟩⟩
def spLeft : Sp := fun vs H Q _ => ∃ (o r a : Addr) (pl : Int) (ow ps ch : List Int) (as : List Addr) (c : List (List Int)), vs = [.ref o, .ref r, .int pl, .ref a] ∧ H o = some (.lst (ow.map V.int)) ∧ LL H r as c ∧ Vg ow ps c ∧ c.length ≤ 1000 ∧ H a = some (.lst (ch.map V.int)) ∧ ch.length = c.length ∧
  ∀ (H' : Hp) (y : Addr), Same H H' → H y = none → GrL H' y (gcw ow c pl ch) → Q (.ref y) H'
theorem cal_left (T : Txt K mg) : C8.Cal P w K mg base 1 "_law_left" spLeft [] := by
  obtain ⟨f, fd, F, hm, hb⟩ := T.h_law_left
  refine ⟨f, fd, _, [], F.ok sc_law_left (fun vs H Q E h => ?_) (fun cdv A outer s H vs Q E hr h => ?_), hm, F.kp, hb, .nil⟩
  · obtain ⟨o, r, a, pl, ow, ps, ch, as, c, rfl, _⟩ := h
    rfl
  · obtain ⟨oa, r, a, pl, ow, ps, ch, as, c, rfl, e2, ⟨e4, e5⟩, hV, hn, ha, hcl, q⟩ := h
    refine ⟨_, (pss_cons
      (ps_set (i := 4) sc_law_left.nd rfl (Or.inl rfl) (pe_lst pa_nil))
      (pss_cons
      (ps_for PassesOwn.never rfl (pi_range1 (by rfl) T.z_range (pa_cons (pe_callB (call_lenK (K := K) rfl) (by rfl) T.z_len PySem.boot_len (pa_cons (pv 1) pa_nil)) pa_nil)) (pg_name (i := 5) sc_law_left.nd rfl (.inl rfl)) (pss_one
      (ps_if (pt_cmpR op_ne (pe_ix (ix_listK (K := K) rfl) (pv 0) (pv 5) (fun _ _ => rfl)) (pv 2) (nomark _)) (pss_one
      (ps_expr (pe_bm PySem.F.plainAttrs_list PySem.F.slot_list_append PySem.F.type_list_append mt_append (pv 4) (pa_cons (pe_callTy (call_list_ofK (K := K) rfl) (by rfl) T.z_list (by decide +kernel) (pa_cons (pe_ix (ix_listK (K := K) rfl) (pv 1) (pv 5) (fun _ _ => rfl)) pa_nil)) pa_nil)))) (pss_one
      (ps_if (pt_cmpR op_lt (pe_ix (ix_listK (K := K) rfl) (pv 3) (pv 5) (fun _ _ => rfl)) pe_int (nomark _)) (pss_one
      (ps_expr (pe_bm PySem.F.plainAttrs_list PySem.F.slot_list_append PySem.F.type_list_append mt_append (pv 4) (pa_cons (pe_lst pa_nil) pa_nil)))) (pss_one
      (ps_expr (pe_bm PySem.F.plainAttrs_list PySem.F.slot_list_append PySem.F.type_list_append mt_append (pv 4) (pa_cons (pe_lst (pa_cons (pe_ix (ix_listK (K := K) rfl) (pv 3) (pv 5) (fun _ _ => rfl)) pa_nil)) pa_nil)))))))))
      (pss_one
      (ps_ret (pv 4))))), ?_⟩
    generalize hg : gcw ow c pl ch = g at q
    have hgl : g.length = c.length := by rw [← hg, gcw_len]
    have hal : (as.map V.ref).length = c.length := by rw [List.length_map, e5.len]
    refine ⟨Nat.zero_le _, fun D nD => ?_⟩
    generalize hX : upd H D _ = H1; obtain ⟨sH1, eD⟩ := nw nD hX; clear hX
    refine ⟨_, rfl, r, _, rfl, .inl (.of (sH1 _ _ e4)), _, rfl, by omega, by rw [hal]; omega, ?_⟩
    rw [hal, Int.toNat_natCast]
    refine for_range (lo := 0) (n := c.length) (fun i σ H' => ∃ (v5 : Option V) (ys : List Addr), σ = [some (.ref oa), some (.ref r), some (.int pl), some (.ref a), some (.ref D), v5] ∧ Same H H' ∧ GLn H' D ys g i)
      ⟨none, [], rfl, sH1, ⟨eD, rfl, fun j y e => by (cases e)⟩⟩ ?_ ?_
    · rintro i σ H3 hil ⟨v5, ys, rfl, s3, hL3⟩
      rw [Int.zero_add]
      obtain ⟨b, hb1⟩ : ∃ b, as[i]? = some b := ⟨_, List.getElem?_eq_getElem (by rw [e5.len]; exact hil)⟩
      obtain ⟨row, hc1, hra⟩ := RowsA.get e5 hb1
      have hVr := hV.mv row (List.mem_of_getElem? hc1)
      have hol := hV.lo
      obtain ⟨o, ho⟩ : ∃ o, ow[i]? = some o := ⟨_, List.getElem?_eq_getElem (by omega)⟩
      obtain ⟨z, hz⟩ : ∃ z, ch[i]? = some z := ⟨_, List.getElem?_eq_getElem (by omega)⟩
      have hrw : Gr.row g i = if o = pl then (if 0 ≤ z then [z.toNat] else []) else row.map Int.toNat := by rw [← hg, row_gcw hil, getD_at ho, getD_at hz, getD_at hc1]
      have nDD : ∀ {q : Addr} {H4 : Hp}, H4 q = none → H4 D = some (.lst (ys.map V.ref)) → q ≠ D := fun n e z => by rw [z, e] at n; cases n
      have hyl : (ys.map V.ref).length < sizeLine := by rw [List.length_map, hL3.len]; exact Nat.lt_of_le_of_lt (show i ≤ 1000 by omega) (by decide)
      refine ⟨_, rfl, _, rfl, oa, _, _, .int o, rfl, rfl, .of (s3 _ _ e2), atI_nat (by rw [List.getElem?_map, ho]; rfl), _, rfl, rfl, _, rfl, ?_⟩
      by_cases c0 : o = pl
      · rw [if_pos c0] at hrw
        rw [decide_eq_true (by rw [c0])]
        refine iteB_f rfl ⟨_, rfl, _, rfl, a, _, _, .int z, rfl, rfl, .of (s3 _ _ ha), atI_nat (by rw [List.getElem?_map, hz]; rfl), _, _, rfl, rfl, _, rfl, ?_⟩
        by_cases c4 : 0 ≤ z
        · rw [if_pos c4] at hrw
          refine iteB_f (decide_eq_false (by omega)) ⟨_, rfl, .inl ⟨rfl, _, .of hL3.at_⟩, _, rfl, _, rfl, a, _, _, .int z, rfl, rfl, .of (s3 _ _ ha), atI_nat (by rw [List.getElem?_map, hz]; rfl), by show 1 ≤ sizeLine; decide, fun t nt => ?_⟩
          generalize hX : upd H3 t _ = H4; obtain ⟨sH4, et⟩ := nw nt hX; clear hX
          refine ⟨D, _, _, rfl, rfl, (hL3.keep sH4).at_, hyl, ?_⟩
          refine ⟨_, ys ++ [t], rfl, fun q o e => by rw [upd_ne (ne_of_none e nD)]; exact (s3.trans sH4) _ _ e, (hL3.keep sH4).snoc (nDD nt hL3.at_) ?_⟩
          rw [et, hrw]
          show _ = some (HO.lst [V.int ((z.toNat : Nat) : Int)])
          rw [Int.toNat_of_nonneg c4]
        · rw [if_neg c4] at hrw
          refine iteB_t (decide_eq_true (by omega)) ⟨_, rfl, .inl ⟨rfl, _, .of hL3.at_⟩, Nat.zero_le _, fun t nt => ?_⟩
          generalize hX : upd H3 t _ = H4; obtain ⟨sH4, et⟩ := nw nt hX; clear hX
          refine ⟨D, _, _, rfl, rfl, (hL3.keep sH4).at_, hyl, ?_⟩
          exact ⟨_, ys ++ [t], rfl, fun q o e => by rw [upd_ne (ne_of_none e nD)]; exact (s3.trans sH4) _ _ e, (hL3.keep sH4).snoc (nDD nt hL3.at_) (by rw [et, hrw]; rfl)⟩
      · rw [if_neg c0] at hrw
        rw [decide_eq_false (fun z => c0 (by injection z))]
        refine iteB_t rfl ⟨_, rfl, .inl ⟨rfl, _, .of hL3.at_⟩, _, rfl, _, rfl, r, _, _, .ref b, rfl, rfl, .of (s3 _ _ e4), atN hb1, b, _, rfl, .inl (.of (s3 _ _ hra)), fun t nt => ?_⟩
        generalize hX : upd H3 t _ = H4; obtain ⟨sH4, et⟩ := nw nt hX; clear hX
        refine ⟨D, _, _, rfl, rfl, (hL3.keep sH4).at_, hyl, ?_⟩
        exact ⟨_, ys ++ [t], rfl, fun q o e => by rw [upd_ne (ne_of_none e nD)]; exact (s3.trans sH4) _ _ e, (hL3.keep sH4).snoc (nDD nt hL3.at_) (by rw [et, hrw, vn_nat fun z hz => (hVr.2.2 z hz).1])⟩
    rintro σ H2 ⟨v5, ys, rfl, s2, hL⟩
    rw [← hgl] at hL
    exact ⟨_, rfl, q H2 D s2 nD hL.grl⟩
theorem sub_all {al : List Bool} {g : Gr.G} (h : ∀ u, u < g.length → al.getD u false = true) (ok : Gr.Ok g) {u v : Nat} (hu : u < g.length) : Gr.Rc (subG al g) u v ↔ Gr.Rc g u v := by
  constructor
  · intro r
    induction r with
    | refl _ => exact .refl _
    | step a _ ih =>
      have e := (sub_E.mp a).1
      exact .step e (ih (ok _ _ e))
  · intro r
    induction r with
    | refl _ => exact .refl _
    | step a _ ih =>
      have l := ok _ _ a
      exact .step (sub_E.mpr ⟨a, h _ l⟩) (ih l)
theorem sub_rs {al : List Bool} {g : Gr.G} {u v : Nat} : (al.getD u false = true ∧ Gr.Rc (subG al g) u v) ↔ RS g (fun x => al.getD x false = true) u v := by
  constructor
  · rintro ⟨h, r⟩
    induction r with
    | refl _ => exact .refl h
    | step a _ ih =>
      obtain ⟨e1, e2⟩ := sub_E.mp a
      exact .step h e1 (ih e2)
  · intro r
    induction r with
    | refl h => exact ⟨h, .refl _⟩
    | step h e r ih => exact ⟨h, .step (sub_E.mpr ⟨e, ih.1⟩) ih.2⟩
/-- the law's test at k is a cycle of the kind p through k -/
theorem bad_low {g : Gr.G} {pr : Nat → Int} {p : Int} {s : Nat} : BadIn g pr p (Gr.Rc g s) ↔ ∃ k, Gr.Rc g s k ∧ pr k % 2 = p ∧ ∃ v, Gr.E g k v ∧ RS g (fun x => pr x ≤ pr k) v k := by
  constructor
  · rintro ⟨k, v, h1, h2, h3, h4⟩
    exact ⟨k, h1, h2, v, h3, h4.mono fun x h => h.2⟩
  · rintro ⟨k, h1, h2, v, h3, h4⟩
    refine ⟨k, v, h1, h2, h3, ?_⟩
    have gen : ∀ {a b : Nat}, RS g (fun x => pr x ≤ pr k) a b → Gr.Rc g s a → RS g (fun x => Gr.Rc g s x ∧ pr x ≤ pr k) a b := by
      intro a b r
      induction r with
      | refl h => exact fun q => .refl ⟨q, h⟩
      | step h e _ ih => exact fun q => .step ⟨q, h⟩ e (ih (q.snoc e))
    exact gen h4 (h1.snoc h3)
theorem rs_lt {g : Gr.G} {S : Nat → Prop} (ok : Gr.Ok g) {u v : Nat} (r : RS g S u v) (hu : u < g.length) : RS g (fun x => S x ∧ x < g.length) u v := by
  induction r with
  | refl h => exact .refl ⟨h, hu⟩
  | step h e _ ih => exact .step ⟨h, hu⟩ e (ih (ok _ _ e))
def spWins : Sp := fun vs H Q _ => ∃ (pa r : Addr) (pl : Int) (s : Nat) (ps : List Int) (g : Gr.G), vs = [.ref pa, .ref r, .int pl, VN s] ∧ H pa = some (.lst (ps.map V.int)) ∧ GrL H r g ∧ Gr.Ok g ∧ g.length ≤ 1000 ∧ ps.length = g.length ∧ s < g.length ∧ (pl = 0 ∨ pl = 1) ∧
  ∀ (H' : Hp) (b : Bool), Same H H' → (b = true ↔ WinC g (prF ps) (1 - pl) s) → Q (.bl b) H'
theorem cal_wins (T : Txt K mg) : C8.Cal P w K mg base 2 "_law_wins" spWins [] := by
  have C_law_reached : C8.Cal P w K mg base 1 "_law_reached" spLrch [] := cal_lrch T
  obtain ⟨f, fd, F, hm, hb⟩ := T.h_law_wins
  refine ⟨f, fd, _, [], F.ok sc_law_wins (fun vs H Q E h => ?_) (fun cdv A outer s H vs Q E hr h => ?_), hm, F.kp, hb, .nil⟩
  · obtain ⟨pa, r, pl, s, ps, g, rfl, _⟩ := h
    rfl
  · obtain ⟨pa, r, pl, s, ps, g, rfl, ePs, hG, hok, hn, hpl, hs, hpl1, q⟩ := h
    refine ⟨_, (pss_cons
      (ps_set (i := 4) sc_law_wins.nd rfl (Or.inl rfl) (pe_callB (call_lenK (K := K) rfl) (by rfl) T.z_len PySem.boot_len (pa_cons (pv 1) pa_nil)))
      (pss_cons
      (ps_set (i := 5) sc_law_wins.nd rfl (Or.inl rfl) (C8.pe_c C_law_reached hr (by decide) (by rfl) (pa_cons (pv 1) (pa_cons (pe_lst (pa_cons (pv 3) pa_nil)) (pa_cons (pe_op op_rep (pe_lst (pa_cons pe_bl pa_nil)) (pv 4)) pa_nil)))))
      (pss_cons
      (ps_for PassesOwn.never rfl (pi_range1 (by rfl) T.z_range (pa_cons (pv 4) pa_nil)) (pg_name (i := 6) sc_law_wins.nd rfl (.inr rfl)) (pss_one
      (ps_if (PW.pt (pw_and (pt_val (pe_ix (ix_listK (K := K) rfl) (pv 5) (pv 6) (fun _ _ => rfl))) (pw_and1 (pt_cmpR op_eq (pe_callB (call_lenK (K := K) rfl) (by rfl) T.z_len PySem.boot_len (pa_cons (pe_ix (ix_listK (K := K) rfl) (pv 1) (pv 6) (fun _ _ => rfl)) pa_nil)) pe_int (nomark _))))) (pss_one
      (ps_ret pe_bl)) pss_nil)))
      (pss_cons
      (ps_for PassesOwn.never rfl (pi_range1 (by rfl) T.z_range (pa_cons (pv 4) pa_nil)) (pg_name (i := 6) sc_law_wins.nd rfl (.inr rfl)) (pss_one
      (ps_if (PW.pt (pw_and (pt_val (pe_ix (ix_listK (K := K) rfl) (pv 5) (pv 6) (fun _ _ => rfl))) (pw_and1 (pt_cmpR op_ne (pe_op op_mod (pe_callTy call_int1 (by rfl) T.z_int (by decide +kernel) (pa_cons (pe_ix (ix_listK (K := K) rfl) (pv 0) (pv 6) (fun _ _ => rfl)) pa_nil)) pe_int) (pv 2) (nomark _))))) (pss_cons
      (ps_setLc (i := 7) (own := [("j", 8)]) (g := gName 8) (tt := tYes) rfl sc_law_wins.nd rfl rfl (sw_true rfl rfl rfl (by decide +kernel)) (pi_range1 (by rfl) T.z_range (pa_cons (pv 4) pa_nil)) (blkOk_by (N := N_law_wins) (sc := defScope s_law_wins) (by decide +kernel)) (fun _ _ _ _ _ => (pg_name (i := 8) sc_law_wins.nd rfl (Or.inl rfl))) (fun _ _ _ _ _ => pts_nil) (fun _ _ _ _ _ => (pe_cmpR op_le (pe_ix (ix_listK (K := K) rfl) (pv 0) (pv 8) (fun _ _ => rfl)) (pe_ix (ix_listK (K := K) rfl) (pv 0) (pv 6) (fun _ _ => rfl)) (nomark _))))
      (pss_one
      (ps_if (pt_val (pe_ix (ix_listK (K := K) rfl) (C8.pe_c C_law_reached hr (by decide) (by rfl) (pa_cons (pv 1) (pa_cons (pe_ix (ix_listK (K := K) rfl) (pv 1) (pv 6) (fun _ _ => rfl)) (pa_cons (pv 7) pa_nil)))) (pv 6) (fun _ _ => rfl))) (pss_one
      (ps_ret pe_bl)) pss_nil))) pss_nil)))
      (pss_one
      (ps_ret pe_bl)))))), ?_⟩
    obtain ⟨gs, e4, hgsl, hgs⟩ := id hG
    have hal : (gs.map V.ref).length = g.length := by rw [List.length_map, hgsl]
    refine ⟨_, rfl, r, _, rfl, .inl (.of e4), ?_⟩
    rw [hal]
    refine ⟨_, rfl, _, rfl, by show 1 ≤ sizeLine; decide, fun t nt => ?_⟩
    generalize hX : upd H t _ = H1; obtain ⟨sH1, et⟩ := nw nt hX; clear hX
    refine ⟨by show 1 ≤ sizeLine; decide, fun l nl => ?_⟩
    generalize hX : upd H1 l _ = H2; obtain ⟨sH2, el⟩ := nw nl hX; clear hX
    refine ⟨_, rfl, l, _, _, rfl, rfl, el, by omega, by omega, by show 1 * ((g.length : Nat) : Int).toNat ≤ 16777216; omega, fun M nM => ?_⟩
    rw [Int.toNat_natCast, show (List.replicate g.length [V.bl true]).flatten = (List.replicate g.length true).map V.bl by simp]
    generalize hX : upd H2 M _ = H3; obtain ⟨sH3, eM⟩ := nw nM hX; clear hX
    have s3 := (sH1.trans sH2).trans sH3
    refine ⟨r, t, M, g, [s], List.replicate g.length true, rfl, hG.same s3, hok, by omega, sH3 _ _ (sH2 _ _ et), fun z hz => by rw [List.mem_singleton.mp hz]; exact hs, eM, List.length_replicate, fun H4 y fs s4 ny ey hfl => ?_⟩
    have hfl2 : Fl g.length (Gr.Rc g s) fs := hfl.cong fun u => by
      have h1 : ∀ u, u < g.length → (List.replicate g.length true).getD u false = true := fun u hu => by rw [List.getD_eq_getElem?_getD, List.getElem?_replicate, if_pos hu]; rfl
      constructor
      · exact fun h => ⟨s, by simp, h1 s hs, (sub_all h1 hok hs).mpr h⟩
      · rintro ⟨z, hz, _, h⟩
        rw [List.mem_singleton.mp hz] at h
        exact (sub_all h1 hok hs).mp h
    have s04 := s3.trans s4
    clear s3 s4 hfl nt nl nM et el eM sH1 sH2 sH3
    have hfs := hfl2.1
    -- dead ends
    refine ⟨_, rfl, _, rfl, by omega, by omega, ?_⟩
    rw [Int.toNat_natCast]
    refine for_range (lo := 0) (n := g.length) (fun i σ H' => ∃ v6 : Option V, σ = [some (.ref pa), some (.ref r), some (.int pl), some (VN s), some (.int (g.length : Int)), some (.ref y), v6, none, none] ∧ Same H H' ∧ H' y = some (.lst (fs.map V.bl)) ∧ ∀ u, u < i → Gr.Rc g s u → Gr.row g u ≠ [])
      ⟨_, rfl, s04, ey, fun u h => absurd h (Nat.not_lt_zero _)⟩ ?_ ?_
    · rintro i σ H5 hi ⟨v6, rfl, s5, ey5, hd⟩
      rw [Int.zero_add]
      obtain ⟨b, hb1, hb2⟩ := hfl2.get hi
      obtain ⟨ra, hra⟩ : ∃ a, gs[i]? = some a := ⟨_, List.getElem?_eq_getElem (by rw [hgsl]; exact hi)⟩
      refine ⟨_, rfl, _, rfl, y, _, _, .bl b, rfl, rfl, .of ey5, atN hb1, b, rfl, ?_⟩
      cases b with
      | false =>
        refine iteB_f rfl ⟨_, rfl, s5, ey5, fun u hu hr => ?_⟩
        rcases Nat.lt_or_ge u i with k | k
        · exact hd u k hr
        · have : u = i := by omega
          rw [this] at hr
          exact absurd (hb2.mpr hr) (by decide)
      | true =>
        refine iteB_t rfl ⟨_, rfl, _, rfl, r, _, _, .ref ra, rfl, rfl, .of (s5 _ _ e4), atN hra, ra, _, rfl, .inl (.of (s5 _ _ (hgs i ra hra))), rfl, _, rfl, ite_eq (fun c0 => ?_) (fun c0 => ?_)⟩
        · rw [List.length_map] at c0
          refine q H5 false s5 ⟨fun z => (by cases z), fun z => absurd (List.eq_nil_of_length_eq_zero (by omega)) (z.1 i (hb2.mp rfl))⟩
        · rw [List.length_map] at c0
          refine ⟨_, rfl, s5, ey5, fun u hu hr => ?_⟩
          rcases Nat.lt_or_ge u i with k | k
          · exact hd u k hr
          · have : u = i := by omega
            rw [this]
            exact fun z => c0 (by rw [z]; rfl)
    rintro σ H5 ⟨v6, rfl, s5, ey5, hd⟩
    have hdead : ∀ u, Gr.Rc g s u → Gr.row g u ≠ [] := fun u hu => hd u (Gr.Ok.rc hok hu hs) hu
    clear hd
    -- cycles
    refine ⟨_, rfl, _, rfl, by omega, by omega, ?_⟩
    rw [Int.toNat_natCast]
    refine for_range (lo := 0) (n := g.length) (fun i σ H' => ∃ v6 v7 : Option V, σ = [some (.ref pa), some (.ref r), some (.int pl), some (VN s), some (.int (g.length : Int)), some (.ref y), v6, v7, none] ∧ Same H H' ∧ H' y = some (.lst (fs.map V.bl)) ∧ ∀ k, k < i → Gr.Rc g s k → prF ps k % 2 = 1 - pl → ¬ ∃ v, Gr.E g k v ∧ RS g (fun x => prF ps x ≤ prF ps k) v k)
      ⟨_, _, rfl, s5, ey5, fun u h => absurd h (Nat.not_lt_zero _)⟩ ?_ ?_
    · clear s5 ey5 s04 ey
      rintro i σ H6 hi ⟨v6, v7, rfl, s6, ey6, hd⟩
      rw [Int.zero_add]
      obtain ⟨b, hb1, hb2⟩ := hfl2.get hi
      obtain ⟨ra, hra⟩ : ∃ a, gs[i]? = some a := ⟨_, List.getElem?_eq_getElem (by rw [hgsl]; exact hi)⟩
      have hnext : ¬ (Gr.Rc g s i ∧ prF ps i % 2 = 1 - pl ∧ ∃ v, Gr.E g i v ∧ RS g (fun x => prF ps x ≤ prF ps i) v i) → ∀ k, k < i + 1 → Gr.Rc g s k → prF ps k % 2 = 1 - pl → ¬ ∃ v, Gr.E g k v ∧ RS g (fun x => prF ps x ≤ prF ps k) v k := fun h k hk h1 h2 h3 => by
        rcases Nat.lt_or_ge k i with l | l
        · exact hd k l h1 h2 h3
        · have : k = i := by omega
          subst this
          exact h ⟨h1, h2, h3⟩
      refine ⟨_, rfl, _, rfl, y, _, _, .bl b, rfl, rfl, .of ey6, atN hb1, b, rfl, ?_⟩
      cases b with
      | false => exact iteB_f rfl ⟨_, _, rfl, s6, ey6, hnext fun z => absurd (hb2.mpr z.1) (by decide)⟩
      | true =>
        have hrc := hb2.mp rfl
        refine iteB_t rfl ⟨_, rfl, _, rfl, pa, _, _, .int (prF ps i), rfl, rfl, .of (s6 _ _ ePs), atI_nat (by rw [List.getElem?_map, prf_get (by omega)]; rfl), .inl ⟨_, rfl, _, _, rfl, rfl, (show (0 : Int) < 2 by decide), _, rfl, rfl, _, rfl, ?_⟩⟩
        by_cases c1 : prF ps i % 2 = pl
        · rw [show (!decide (V.int (prF ps i % 2) = V.int pl)) = false by rw [decide_eq_true (by rw [c1])]; rfl]
          refine iteB_f rfl ⟨_, _, rfl, s6, ey6, hnext fun z => ?_⟩
          have := z.2.1
          omega
        have c2 : prF ps i % 2 = 1 - pl := by omega
        rw [show (!decide (V.int (prF ps i % 2) = V.int pl)) = true by rw [decide_eq_false (fun z => c1 (by injection z))]; rfl]
        refine iteB_t rfl ⟨_, rfl, _, rfl, by omega, by omega, fun L nL => ?_⟩
        rw [Int.toNat_natCast]
        refine lc_range (lo := 0) (n := g.length) (fun j H' => Same H6 H' ∧ H' L = some (.lst ((List.range j).map fun u => V.bl (decide (prF ps u ≤ prF ps i))))) ⟨same_new nL, upd_same⟩ ?_ ?_
        · rintro j H7 hj ⟨s7, eL⟩
          rw [Int.zero_add]
          have ePs7 := (s6.trans s7) _ _ ePs
          refine ⟨rfl, _, rfl, _, rfl, pa, _, _, .int (prF ps j), rfl, rfl, .of ePs7, atI_nat (by rw [List.getElem?_map, prf_get (by omega)]; rfl), _, rfl, _, rfl, pa, _, _, .int (prF ps i), rfl, rfl, .of ePs7, atI_nat (by rw [List.getElem?_map, prf_get (by omega)]; rfl), _, _, rfl, rfl, _, eL, by rw [List.length_map, List.length_range]; exact Nat.lt_of_le_of_lt (show j ≤ 1000 by omega) (by decide), fun q o e => by rw [upd_ne (ne_of_none e nL)]; exact s7 _ _ e, by rw [upd_same, List.range_succ, List.map_append]; rfl⟩
        rintro H7 ⟨s7, eL⟩
        have s07 := s6.trans s7
        have eL' : H7 L = some (.lst (((List.range g.length).map fun u => decide (prF ps u ≤ prF ps i)).map V.bl)) := by rw [eL, List.map_map]; rfl
        have hrow : ∀ z ∈ Gr.row g i, z < g.length := fun z hz => hok i z hz
        refine ⟨_, rfl, _, rfl, _, rfl, r, _, _, .ref ra, rfl, rfl, .of (s07 _ _ e4), atN hra, _, rfl, r, ra, L, g, Gr.row g i, _, rfl, hG.same s07, hok, by omega, s07 _ _ (hgs i ra hra), hrow, eL', by rw [List.length_map, List.length_range], fun H8 y2 fs2 s8 ny2 ey2 hfl3 => ?_⟩
        obtain ⟨b, hc1, hc2⟩ := hfl3.get hi
        have hlow : ∀ u, u < g.length → ((List.range g.length).map fun u => decide (prF ps u ≤ prF ps i)).getD u false = decide (prF ps u ≤ prF ps i) := fun u hu => by rw [List.getD_eq_getElem?_getD, List.getElem?_map, List.getElem?_range hu]; rfl
        have hkey : b = true ↔ ∃ v, Gr.E g i v ∧ RS g (fun x => prF ps x ≤ prF ps i) v i := by
          rw [hc2]
          constructor
          · rintro ⟨v, h1, h2⟩
            have h3 := sub_rs.mp h2
            refine ⟨v, h1, h3.mono fun x hx => ?_⟩
            rcases Nat.lt_or_ge x g.length with k | k
            · rw [hlow x k] at hx
              exact of_decide_eq_true hx
            · rw [List.getD_eq_getElem?_getD, List.getElem?_eq_none (by rw [List.length_map, List.length_range]; exact k)] at hx
              cases hx
          · rintro ⟨v, h1, h2⟩
            exact ⟨v, h1, sub_rs.mpr ((rs_lt hok h2 (hok i v h1)).mono fun x hx => by rw [hlow x hx.2]; exact decide_eq_true hx.1)⟩
        refine ⟨_, rfl, y2, _, _, .bl b, rfl, rfl, .of ey2, atN hc1, b, rfl, ?_⟩
        cases b with
        | true => exact iteB_t rfl (q H8 false (s07.trans s8) ⟨fun z => (by cases z), fun z => absurd (bad_low.mpr ⟨i, hrc, c2, hkey.mp rfl⟩) z.2⟩)
        | false => exact iteB_f rfl ⟨_, _, rfl, s07.trans s8, s8 _ _ (s7 _ _ ey6), hnext fun z => absurd (hkey.mpr z.2.2) (by decide)⟩
    · rintro σ H6 ⟨v6, v7, rfl, s6, ey6, hd⟩
      refine q H6 true s6 ⟨fun _ => ⟨hdead, fun z => ?_⟩, fun _ => rfl⟩
      obtain ⟨k, h1, h2, h3⟩ := bad_low.mp z
      exact hd k (Gr.Ok.rc hok h1 hs) h1 h2 h3
def spCO (C : Addr) : Sp := fun vs H Q _ => ∃ (x a : Addr) (pl pos : Int) (ow ps ch : List Int) (c : List (List Int)), vs = [.ref x, .int pl, .ref a, .int pos] ∧ GmeAt C H x ow ps c ∧ Vg ow ps c ∧ c.length ≤ 1000 ∧ H a = some (.lst (ch.map V.int)) ∧ ch.length = c.length ∧ (∀ (k : Nat) (z : Int), ch[k]? = some z → z < (c.length : Int)) ∧
  (¬ (0 ≤ pos ∧ pos < (c.length : Int)) → Q .non H) ∧
  (0 ≤ pos → pos < (c.length : Int) → ∀ (H' : Hp) (b : Bool), Same H H' → (b = true ↔ WinC (gcw ow c pl ch) (prF ps) (1 - pl) pos.toNat) → Q (.bl b) H')
theorem cal_cout {cL C : Addr} (T : Txt K mg) (eL : ErrC K mg "InvalidPosition" cL) (PC : GmeC K C) : C8.Cal P w K mg base 6 "_law_outcome" (spCO C) [] := by
  have X_choices_win : CalX P w K mg base 5 "choices_win" (spCW C cL) := cal_cw T eL PC
  obtain ⟨f, fd, F, hm, hb⟩ := T.h_law_outcome
  refine ⟨f, fd, _, [], F.ok sc_law_outcome (fun vs H Q E h => ?_) (fun cdv A outer s H vs Q E hr h => ?_), hm, F.kp, hb, .nil⟩
  · obtain ⟨x, a, pl, pos, ow, ps, ch, c, rfl, _⟩ := h
    rfl
  · obtain ⟨x, a, pl, pos, ow, ps, ch, c, rfl, hG, hV, b1, hta, b2, b3, q1, q2⟩ := h
    refine ⟨_, (pss_one
      (ps_try_only rfl rfl ⟨rfl, by decide, .inl eL.g⟩ takes0 (fun W pn xe tk _ => (pss_one (ps_ret (pe_cx X_choices_win hr (by decide) tk (by rfl) (pa_cons (pv 0) (pa_cons (pv 1) (pa_cons (pv 2) (pa_cons (pv 3) pa_nil)))))))) (fun a oe cls d pn hz hf => (pss_one
      (ps_ret pe_non))))), ?_⟩
    exact ⟨_, rfl, _, rfl, _, rfl, _, rfl, x, a, pl, pos, ow, ps, ch, c, rfl, hG, hV, b1, hta, b2, b3, fun k => ⟨true, eL.me, fun _ a ha => q1 k, fun y => by (cases y)⟩, q2⟩
theorem same_madeG {C x dx : Addr} {H1 H2 : Hp} (hx : H1 x = none) (hd : H1 dx = none) (k : Kp x (upd (upd H1 dx (.own x)) x (.ins C dx [])) H2) : Same H1 H2 := fun b o hb => by
  have n1 : b ≠ x := fun z => by rw [z, hx] at hb; cases hb
  have n2 : b ≠ dx := fun z => by rw [z, hd] at hb; cases hb
  refine k _ _ n1 ?_
  rw [upd_ne n1, upd_ne n2]
  exact hb
theorem same_freshG {C x dx : Addr} {H1 : Hp} (hx : H1 x = none) (hd : H1 dx = none) : Same H1 (upd (upd H1 dx (.own x)) x (.ins C dx [])) := same_madeG hx hd (Kp.refl _ _)
theorem nd_of {H : Hp} {b d : Addr} (hd : Drw H d) (h : H b = none) : b ≠ d := fun z => by
  obtain ⟨o, y⟩ := hd
  rw [← z, h] at y
  cases y
theorem gme_kp {H H' : Hp} {C d x : Addr} {ow ps : List Int} {c : List (List Int)} (hd : Drw H d) (k : Kp d H H') (h : GmeAt C H x ow ps c) : GmeAt C H' x ow ps c := by
  obtain ⟨dx, ot, pt, rt, as, e1, e2, e3, e4, e5⟩ := h
  obtain ⟨ds, ed⟩ := hd
  have nt : ∀ {b : Addr} {xs : List V}, H b = some (.tup xs) → b ≠ d := fun e z => by rw [z, ed] at e; cases e
  have nx : x ≠ d := fun z => by rw [z, ed] at e1; cases e1
  refine ⟨dx, ot, pt, rt, as, k _ _ nx e1, k _ _ (nt e2) e2, k _ _ (nt e3) e3, k _ _ (nt e4) e4, RowsA.keep (fun b o hb hx => ?_) e5⟩
  obtain ⟨i, hi⟩ := List.mem_iff_getElem?.mp hb
  obtain ⟨r, _, hr⟩ := RowsA.get e5 hi
  exact k _ _ (nt hr) hx
theorem gcw_congr {ow : List Int} {c : List (List Int)} {pl : Int} {ch ot : List Int} (h : ∀ k, k < c.length → ow.getD k 0 = pl → ot.getD k 0 = ch.getD k 0) : gcw ow c pl ot = gcw ow c pl ch := by
  unfold gcw
  refine List.map_congr_left fun k hk => ?_
  by_cases e : ow.getD k 0 = pl
  · rw [if_pos e, if_pos e, h k (List.mem_range.mp hk) e]
  · rw [if_neg e, if_neg e]
theorem ok_law {f : Addr} {fd : FuncData} (F : L2.Fun K "law" "law" s_law f fd) (T : Txt K mg) : FnOk P w K mg base CX0 8 f fd ["script"] (spLaw K) := by
  obtain ⟨cI, cL, C, fI, fdI, eI, eL, PC, hM, gC, F0, hB⟩ := T.er
  have MK : MakX P w K mg base 2 "Game" C (spInitG C cI) := ⟨fI, fdI, _, hM, ok_initG T eI PC F0, gC, hB⟩
  have C_law_draws : C8.Cal P w K mg base 1 "_law_draws" (spDraws K) [] := cal_draws T
  have C_law_take : C8.Cal P w K mg base 1 "_law_take" spTake [] := cal_take T
  have C_law_game : C8.Cal P w K mg base 3 "_law_game" spGame [] := cal_game T
  have C_law_flat : C8.Cal P w K mg base 1 "_law_flat" spFlat [] := cal_flat T
  have C_law_outcome : C8.Cal P w K mg base 6 "_law_outcome" (spCO C) [] := cal_cout T eL PC
  have C_law_left : C8.Cal P w K mg base 1 "_law_left" spLeft [] := cal_left T
  have C_law_wins : C8.Cal P w K mg base 2 "_law_wins" spWins [] := cal_wins T
  refine F.ok sc_law (fun vs H Q E h => ?_) (fun cdv A outer s H vs Q E hr h => ?_)
  · obtain ⟨a, ns, rfl, _⟩ := h
    rfl
  · obtain ⟨sa, ns, rfl, hS, hlen, q⟩ := h
    refine ⟨_, (pss_cons
      (ps_set (i := 1) sc_law.nd rfl (Or.inl rfl) (C8.pe_c C_law_draws hr (by decide) (by rfl) (pa_cons (pv 0) (pa_cons pe_int pa_nil))))
      (pss_cons
      (ps_asg (C8.pe_c C_law_game hr (by decide) (by rfl) (pa_cons (pv 1) (pa_cons pe_int pa_nil))) (pg_tup (by rfl) (pgs_cons (pg_name (i := 2) sc_law.nd rfl (.inl rfl)) (pgs_cons (pg_name (i := 3) sc_law.nd rfl (.inl rfl)) (pgs_cons (pg_name (i := 4) sc_law.nd rfl (.inl rfl)) pgs_nil)))))
      (pss_cons
      (ps_set (i := 5) sc_law.nd rfl (Or.inl rfl) (pe_makeN MK hr (by decide) (by rfl) (pa_cons (pe_callTy (call_list_ofK (K := K) rfl) (by rfl) T.z_list (by decide +kernel) (pa_cons (pv 2) pa_nil)) (pa_cons (pe_callTy (call_list_ofK (K := K) rfl) (by rfl) T.z_list (by decide +kernel) (pa_cons (pv 3) pa_nil)) (pa_cons (C8.pe_c C_law_flat hr (by decide) (by rfl) (pa_cons (pv 4) pa_nil)) pa_nil)))))
      (pss_cons
      (ps_set (i := 6) sc_law.nd rfl (Or.inl rfl) (C8.pe_c C_law_take hr (by decide) (by rfl) (pa_cons (pv 1) (pa_cons pe_int pa_nil))))
      (pss_cons
      (ps_set (i := 7) sc_law.nd rfl (Or.inl rfl) (pe_lst pa_nil))
      (pss_cons
      (ps_set (i := 8) sc_law.nd rfl (Or.inl rfl) (pe_lst pa_nil))
      (pss_cons
      (ps_for PassesOwn.never rfl (pi_range1 (by rfl) T.z_range (pa_cons (pe_callB (call_lenK (K := K) rfl) (by rfl) T.z_len PySem.boot_len (pa_cons (pv 4) pa_nil)) pa_nil)) (pg_name (i := 9) sc_law.nd rfl (.inl rfl)) (pss_cons
      (ps_set (i := 10) sc_law.nd rfl (Or.inl rfl) (pe_ix (ix_listK (K := K) rfl) (pe_ix (ix_listK (K := K) rfl) (pv 4) (pv 9) (fun _ _ => rfl)) (C8.pe_c C_law_take hr (by decide) (by rfl) (pa_cons (pv 1) (pa_cons (pe_callB (call_lenK (K := K) rfl) (by rfl) T.z_len PySem.boot_len (pa_cons (pe_ix (ix_listK (K := K) rfl) (pv 4) (pv 9) (fun _ _ => rfl)) pa_nil)) pa_nil))) (fun _ _ => rfl)))
      (C8.pss_cut
      (ps_if (pt_cmpR op_eq (C8.pe_c C_law_take hr (by decide) (by rfl) (pa_cons (pv 1) (pa_cons pe_int pa_nil))) pe_int (nomark _)) (pss_one
      (ps_set (i := 10) sc_law.nd rfl (Or.inl rfl) (pe_un un_neg pe_int))) pss_nil)
      (pss_cons
      (ps_expr (pe_bm PySem.F.plainAttrs_list PySem.F.slot_list_append PySem.F.type_list_append mt_append (pv 7) (pa_cons (pv 10) pa_nil)))
      (C8.pss_cut
      (ps_if (pt_cmpR op_ne (pe_ix (ix_listK (K := K) rfl) (pv 2) (pv 9) (fun _ _ => rfl)) (pv 6) (nomark _)) (pss_one
      (ps_set (i := 10) sc_law.nd rfl (Or.inl rfl) (pe_ix (ix_listK (K := K) rfl) (pe_ix (ix_listK (K := K) rfl) (pv 4) (pv 9) (fun _ _ => rfl)) (C8.pe_c C_law_take hr (by decide) (by rfl) (pa_cons (pv 1) (pa_cons (pe_callB (call_lenK (K := K) rfl) (by rfl) T.z_len PySem.boot_len (pa_cons (pe_ix (ix_listK (K := K) rfl) (pv 4) (pv 9) (fun _ _ => rfl)) pa_nil)) pa_nil))) (fun _ _ => rfl)))) pss_nil)
      (pss_one
      (ps_expr (pe_bm PySem.F.plainAttrs_list PySem.F.slot_list_append PySem.F.type_list_append mt_append (pv 8) (pa_cons (pv 10) pa_nil)))))))))
      (pss_cons
      (ps_set (i := 11) sc_law.nd rfl (Or.inl rfl) (C8.pe_c C_law_take hr (by decide) (by rfl) (pa_cons (pv 1) (pa_cons (pe_callB (call_lenK (K := K) rfl) (by rfl) T.z_len PySem.boot_len (pa_cons (pv 4) pa_nil)) pa_nil))))
      (pss_cons
      (ps_if (pt_cmpR op_eq (C8.pe_c C_law_take hr (by decide) (by rfl) (pa_cons (pv 1) (pa_cons pe_int pa_nil))) pe_int (nomark _)) (pss_one
      (ps_ret (pe_cmpR op_isN (C8.pe_c C_law_outcome hr (by decide) (by rfl) (pa_cons (pv 5) (pa_cons (pv 6) (pa_cons (pe_callTy (call_list_ofK (K := K) rfl) (by rfl) T.z_list (by decide +kernel) (pa_cons (pv 7) pa_nil)) (pa_cons (pe_ix (ix_listK (K := K) rfl) (pe_lst (pa_cons (pe_un un_neg pe_int) (pa_cons (pe_callB (call_lenK (K := K) rfl) (by rfl) T.z_len PySem.boot_len (pa_cons (pv 4) pa_nil)) pa_nil))) (C8.pe_c C_law_take hr (by decide) (by rfl) (pa_cons (pv 1) (pa_cons pe_int pa_nil))) (fun _ _ => rfl)) pa_nil))))) pe_non (nomark _)))) pss_nil)
      (pss_cons
      (ps_set (i := 12) sc_law.nd rfl (Or.inl rfl) (pe_callTy (call_list_ofK (K := K) rfl) (by rfl) T.z_list (by decide +kernel) (pa_cons (pv 7) pa_nil)))
      (pss_cons
      (ps_set (i := 13) sc_law.nd rfl (Or.inl rfl) (C8.pe_c C_law_outcome hr (by decide) (by rfl) (pa_cons (pv 5) (pa_cons (pv 6) (pa_cons (pv 12) (pa_cons (pv 11) pa_nil))))))
      (pss_cons
      (ps_if (PW.pt (pw_or (pt_not (pt_val (pe_callB (call_isiK' (K := K) rfl) (by rfl) T.z_isinstance (by decide +kernel) (pa_cons (pv 13) (pa_cons (pe_bltn (v := .ty "bool") (by rfl) T.z_bool (by decide +kernel) rfl) pa_nil))))) (pw_or1 (pt_cmpR (op_neDK (K := K) rfl hr.units) (pv 12) (pv 7) (nomark _))))) (pss_one
      (ps_ret pe_bl)) pss_nil)
      (pss_cons
      (ps_set (i := 14) sc_law.nd rfl (Or.inl rfl) (C8.pe_c C_law_wins hr (by decide) (by rfl) (pa_cons (pv 3) (pa_cons (C8.pe_c C_law_left hr (by decide) (by rfl) (pa_cons (pv 2) (pa_cons (pv 4) (pa_cons (pv 6) (pa_cons (pv 7) pa_nil))))) (pa_cons (pv 6) (pa_cons (pv 11) pa_nil))))))
      (pss_one
      (ps_ret (pe_and (pe_cmpR op_eq (pv 13) (pv 14) (nomark _)) (pe_one (pe_cmpR op_eq (C8.pe_c C_law_outcome hr (by decide) (by rfl) (pa_cons (pv 5) (pa_cons (pv 6) (pa_cons (pe_callTy (call_list_ofK (K := K) rfl) (by rfl) T.z_list (by decide +kernel) (pa_cons (pv 8) pa_nil)) (pa_cons (pv 11) pa_nil))))) (pv 14) (nomark _))))))))))))))))))), ?_⟩
    refine ⟨_, rfl, sa, ns, 150, rfl, hS, by decide, fun H1 d s1 hd0 d1 => ?_⟩
    refine ⟨_, rfl, d, 6, rfl, d1, by decide, by decide, fun H2 t o p r as ow ps c k2 d2 et ho hp hL n1 n2 n3 n4 hV hc => ?_⟩
    refine ⟨t, _, rfl, .of et, rfl, _, _, rfl, _, _, rfl, _, _, rfl, rfl, ?_⟩
    clear k2 et d1 s1 hd0
    have hl2 : (as.map V.ref).length = c.length := by rw [List.length_map, hL.2.len]
    have hcp := List.length_pos_iff.mpr hV.ne
    have hc6 : c.length ≤ 6 := by omega
    have lo := hV.lo
    have lp := hV.lp
    have hrow : ∀ q ∈ c, q.length ≤ 6 := fun q hq => by
      have := asc_len (hV.mv q hq).2
      omega
    -- the game
    refine ⟨_, rfl, o, _, rfl, .inl (.of ho), fun a1 na1 => ?_⟩
    generalize hX : upd H2 a1 _ = H3; obtain ⟨sH3, ea1⟩ := nw na1 hX; clear hX
    refine ⟨_, rfl, p, _, rfl, .inl (.of (sH3 _ _ hp)), fun a2 na2 => ?_⟩
    generalize hX : upd H3 a2 _ = H4; obtain ⟨sH4, ea2⟩ := nw na2 hX; clear hX
    have s4 := sH3.trans sH4
    refine ⟨_, rfl, r, as, c, rfl, hL.same s4, by omega, fun H5 r2 as2 hcpy => ?_⟩
    obtain ⟨s5, hL5, _, _, _⟩ := hcpy
    refine fun x dx hx hdx hne => ?_
    have s6 := same_freshG (C := C) hx hdx
    refine ⟨x, a1, a2, r2, dx, ow, ps, as2, c, rfl, upd_same, s6 _ _ (s5 _ _ (sH4 _ _ ea1)), s6 _ _ (s5 _ _ ea2), hL5.same s6, by omega, by omega, by omega, fun q hq => by have := hrow q hq; omega, fun z => absurd hV z, fun _ H7 k7 hG => ⟨rfl, ?_⟩⟩
    have s7 := (s4.trans s5).trans (same_madeG hx hdx k7)
    have d7 := d2.same s7
    have ho7 := s7 _ _ ho
    have hp7 := s7 _ _ hp
    have hL7 := hL.same s7
    clear s6 s7 k7 hx hdx hne hL5 s5 s4 ea1 ea2 na1 na2 sH3 sH4 ho hp hL d2
    -- the player
    refine ⟨_, rfl, d, 2, rfl, d7, by decide, fun pl us pl0 pl1 => ?_⟩
    have k8 : Kp d H7 (upd H7 d (.lst (us.map V.int))) := Kp.own
    have d8 : Drw (upd H7 d (.lst (us.map V.int))) d := Drw.own
    have hG8 := gme_kp d7 k8 hG
    have ho8 := k8 _ _ n1 ho7
    have hp8 := k8 _ _ n2 hp7
    have keepLL : ∀ {X Y : Hp}, LL X r as c → Kp d X Y → LL Y r as c := fun {X Y} h k => ⟨k _ _ n3 h.1, RowsA.keep (fun b o hb hx => k _ _ (n4 b hb) hx) h.2⟩
    have hL8 := keepLL hL7 k8
    generalize upd H7 d (.lst (us.map V.int)) = H8 at d8 hG8 ho8 hp8 hL8 ⊢
    clear k8 d7 hG ho7 hp7 hL7
    refine ⟨Nat.zero_le _, fun X nX => ?_⟩
    generalize hX : upd H8 X _ = H9; obtain ⟨sH9, eX⟩ := nw nX hX; clear hX
    refine ⟨Nat.zero_le _, fun Y nY => ?_⟩
    generalize hX : upd H9 Y _ = H10; obtain ⟨sH10, eY⟩ := nw nY hX; clear hX
    have s10 := sH9.trans sH10
    have nY8 := sH9.free nY
    have nXY : X ≠ Y := fun z => by rw [← z, eX] at nY; cases nY
    have nXd := nd_of d8 nX
    have nYd := nd_of d8 nY8
    refine ⟨_, rfl, r, _, rfl, .inl (.of (s10 _ _ hL8.1)), _, rfl, by omega, by omega, ?_⟩
    rw [hl2, Int.toNat_natCast]
    refine for_range (lo := 0) (n := c.length) (fun i σ H' => ∃ (v9 v10 : Option V) (ch ot : List Int), σ = [some (.ref sa), some (.ref d), some (.ref o), some (.ref p), some (.ref r), some (.ref x), some (.int pl), some (.ref X), some (.ref Y), v9, v10, none, none, none, none] ∧ Kp d H8 H' ∧ Drw H' d ∧ H' X = some (.lst (ch.map V.int)) ∧ H' Y = some (.lst (ot.map V.int)) ∧ ch.length = i ∧ ot.length = i ∧ (∀ (k : Nat) (z : Int), ch[k]? = some z → z < (c.length : Int)) ∧ (∀ (k : Nat) (z : Int), ot[k]? = some z → z < (c.length : Int)) ∧ ∀ k, k < i → ow.getD k 0 = pl → ot.getD k 0 = ch.getD k 0)
      ⟨none, none, [], [], rfl, Same.kp s10, d8.same s10, sH10 _ _ eX, eY, rfl, rfl, fun k z h => by (cases h), fun k z h => by (cases h), fun k h => absurd h (Nat.not_lt_zero _)⟩ ?_ ?_
    · rintro i σ H11 hi ⟨v9, v10, ch, ot, rfl, k11, d11, eX, eY, cl, ol, hch, hot, hag⟩
      rw [Int.zero_add]
      obtain ⟨b, hb1⟩ : ∃ b, as[i]? = some b := ⟨_, List.getElem?_eq_getElem (by rw [hL8.2.len]; exact hi)⟩
      obtain ⟨row, hc1, hra⟩ := RowsA.get hL8.2 hb1
      have hVr := hV.mv row (List.mem_of_getElem? hc1)
      have hrl := hrow row (List.mem_of_getElem? hc1)
      have nbd := n4 b (List.mem_of_getElem? hb1)
      have hrp := List.length_pos_iff.mpr hVr.1
      obtain ⟨w0, hw⟩ : ∃ o, ow[i]? = some o := ⟨_, List.getElem?_eq_getElem (by omega)⟩
      have hL11 := keepLL hL8 k11
      have hra11 := k11 _ _ nbd hra
      refine ⟨_, rfl, _, rfl, r, _, _, .ref b, rfl, rfl, .of hL11.1, atN hb1, _, rfl, _, rfl, _, rfl, r, _, _, .ref b, rfl, rfl, .of hL11.1, atN hb1, b, _, rfl, .inl (.of hra11), d, _, rfl, d11, by rw [List.length_map]; omega, fun u us u0 u1 => ?_⟩
      rw [List.length_map] at u1
      obtain ⟨un, rfl⟩ : ∃ n : Nat, u = (n : Int) := ⟨u.toNat, by omega⟩
      obtain ⟨z0, hz0⟩ : ∃ z, row[un]? = some z := ⟨_, List.getElem?_eq_getElem (by omega)⟩
      have hz0l := (hVr.2.2 z0 (List.mem_of_getElem? hz0)).2
      have k12 : Kp d H8 (upd H11 d (.lst (us.map V.int))) := k11.trans Kp.own
      have d12 : Drw (upd H11 d (.lst (us.map V.int))) d := Drw.own
      have eX12 : (upd H11 d (.lst (us.map V.int))) X = some (.lst (ch.map V.int)) := by rw [upd_ne nXd]; exact eX
      have eY12 : (upd H11 d (.lst (us.map V.int))) Y = some (.lst (ot.map V.int)) := by rw [upd_ne nYd]; exact eY
      generalize upd H11 d (.lst (us.map V.int)) = H12 at k12 d12 eX12 eY12 ⊢
      clear k11 d11 eX eY hL11 hra11
      refine ⟨b, _, _, .int z0, rfl, rfl, .of (k12 _ _ nbd hra), atI_nat (by rw [List.getElem?_map, hz0]; rfl), ?_⟩
      -- minus one
      refine ⟨fun σ H' => ∃ z : Int, σ = [some (.ref sa), some (.ref d), some (.ref o), some (.ref p), some (.ref r), some (.ref x), some (.int pl), some (.ref X), some (.ref Y), some (.int (i : Int)), some (.int z), none, none, none, none] ∧ Kp d H8 H' ∧ Drw H' d ∧ H' X = some (.lst (ch.map V.int)) ∧ H' Y = some (.lst (ot.map V.int)) ∧ z < (c.length : Int), ?_, ?_⟩
      · refine ⟨_, rfl, d, 6, rfl, d12, by decide, fun u2 us2 _ _ => ?_⟩
        have k13 : Kp d H8 (upd H12 d (.lst (us2.map V.int))) := k12.trans Kp.own
        have d13 : Drw (upd H12 d (.lst (us2.map V.int))) d := Drw.own
        have eX13 : (upd H12 d (.lst (us2.map V.int))) X = some (.lst (ch.map V.int)) := by rw [upd_ne nXd]; exact eX12
        have eY13 : (upd H12 d (.lst (us2.map V.int))) Y = some (.lst (ot.map V.int)) := by rw [upd_ne nYd]; exact eY12
        exact ⟨rfl, _, rfl, ite_eq (fun _ => ⟨_, rfl, _, rfl, k13, d13, eX13, eY13, by omega⟩) (fun _ => ⟨_, rfl, k13, d13, eX13, eY13, hz0l⟩)⟩
      rintro σ H13 ⟨z, rfl, k13, d13, eX13, eY13, hzl⟩
      clear k12 d12 eX12 eY12
      have snoc_lt : ∀ {xs : List Int} {v : Int}, (∀ (k : Nat) (z : Int), xs[k]? = some z → z < (c.length : Int)) → v < (c.length : Int) → ∀ (k : Nat) (z : Int), (xs ++ [v])[k]? = some z → z < (c.length : Int) := fun h hv k z e => by
        rcases snocg e with ⟨_, y⟩ | ⟨_, y⟩
        · exact h k z y
        · rw [y]; exact hv
      refine ⟨_, rfl, .inl ⟨rfl, _, .of eX13⟩, _, rfl, X, _, _, rfl, rfl, eX13, by rw [List.length_map]; exact Nat.lt_of_le_of_lt (show ch.length ≤ 1000 by omega) (by decide), ?_⟩
      have k14 : Kp d H8 (upd H13 X (.lst (ch.map V.int ++ [V.int z]))) := fun b o nb hb => by rw [upd_ne (ne_of_none hb nX)]; exact k13 _ _ nb hb
      have d14 : Drw (upd H13 X (.lst (ch.map V.int ++ [V.int z]))) d := by
        obtain ⟨ds, e⟩ := d13
        exact ⟨ds, by rw [upd_ne nXd.symm]; exact e⟩
      have eX14 : (upd H13 X (.lst (ch.map V.int ++ [V.int z]))) X = some (.lst ((ch ++ [z]).map V.int)) := by rw [upd_same, List.map_append]; rfl
      have eY14 : (upd H13 X (.lst (ch.map V.int ++ [V.int z]))) Y = some (.lst (ot.map V.int)) := by rw [upd_ne nXY.symm]; exact eY13
      generalize upd H13 X (.lst (ch.map V.int ++ [V.int z])) = H14 at k14 d14 eX14 eY14 ⊢
      clear k13 d13 eX13 eY13
      refine ⟨fun σ H' => ∃ z2 : Int, σ = [some (.ref sa), some (.ref d), some (.ref o), some (.ref p), some (.ref r), some (.ref x), some (.int pl), some (.ref X), some (.ref Y), some (.int (i : Int)), some (.int z2), none, none, none, none] ∧ Kp d H8 H' ∧ Drw H' d ∧ H' X = some (.lst ((ch ++ [z]).map V.int)) ∧ H' Y = some (.lst (ot.map V.int)) ∧ z2 < (c.length : Int) ∧ (w0 = pl → z2 = z), ?_, ?_⟩
      · refine ⟨_, rfl, _, rfl, o, _, _, .int w0, rfl, rfl, .of (k14 _ _ n1 ho8), atI_nat (by rw [List.getElem?_map, hw]; rfl), _, rfl, rfl, _, rfl, ?_⟩
        by_cases c0 : w0 = pl
        · rw [decide_eq_true (by rw [c0])]
          exact iteB_f rfl ⟨_, rfl, k14, d14, eX14, eY14, hzl, fun _ => rfl⟩
        rw [decide_eq_false (fun z => c0 (by injection z))]
        have hL14 := keepLL hL8 k14
        have hra14 := k14 _ _ nbd hra
        refine iteB_t rfl ⟨_, rfl, _, rfl, r, _, _, .ref b, rfl, rfl, .of hL14.1, atN hb1, _, rfl, _, rfl, _, rfl, r, _, _, .ref b, rfl, rfl, .of hL14.1, atN hb1, b, _, rfl, .inl (.of hra14), d, _, rfl, d14, by rw [List.length_map]; omega, fun u us u0 u1 => ?_⟩
        rw [List.length_map] at u1
        obtain ⟨un, rfl⟩ : ∃ n : Nat, u = (n : Int) := ⟨u.toNat, by omega⟩
        obtain ⟨z3, hz3⟩ : ∃ z, row[un]? = some z := ⟨_, List.getElem?_eq_getElem (by omega)⟩
        have hz3l := (hVr.2.2 z3 (List.mem_of_getElem? hz3)).2
        have k15 : Kp d H8 (upd H14 d (.lst (us.map V.int))) := k14.trans Kp.own
        exact ⟨b, _, _, .int z3, rfl, rfl, .of (k15 _ _ nbd hra), atI_nat (by rw [List.getElem?_map, hz3]; rfl), z3, rfl, k15, Drw.own, by rw [upd_ne nXd]; exact eX14, by rw [upd_ne nYd]; exact eY14, hz3l, fun y => absurd y c0⟩
      rintro σ H15 ⟨z2, rfl, k15, d15, eX15, eY15, hz2, hz2e⟩
      refine ⟨_, rfl, .inl ⟨rfl, _, .of eY15⟩, _, rfl, Y, _, _, rfl, rfl, eY15, by rw [List.length_map]; exact Nat.lt_of_le_of_lt (show ot.length ≤ 1000 by omega) (by decide), ?_⟩
      refine ⟨_, _, ch ++ [z], ot ++ [z2], rfl, fun b o nb hb => by rw [upd_ne (ne_of_none hb nY8)]; exact k15 _ _ nb hb, ?_, by rw [upd_ne nXY]; exact eX15, by rw [upd_same, List.map_append]; rfl, by rw [List.length_append, cl]; rfl, by rw [List.length_append, ol]; rfl, snoc_lt hch hzl, snoc_lt hot hz2, fun k hk e => ?_⟩
      · obtain ⟨ds, e⟩ := d15
        exact ⟨ds, by rw [upd_ne nYd.symm]; exact e⟩
      · rcases Nat.lt_or_ge k i with l | l
        · have := hag k l e
          rw [List.getD_eq_getElem?_getD, List.getD_eq_getElem?_getD, List.getElem?_append_left (by omega), List.getElem?_append_left (by omega), ← List.getD_eq_getElem?_getD, ← List.getD_eq_getElem?_getD]
          exact this
        · have hki : k = i := by omega
          subst hki
          rw [getD_at hw] at e
          rw [List.getD_eq_getElem?_getD, List.getD_eq_getElem?_getD, List.getElem?_append_right (by omega), List.getElem?_append_right (by omega), ol, cl, Nat.sub_self]
          show z2 = z
          exact hz2e e
    rintro σ H11 ⟨v9, v10, ch, ot, rfl, k11, d11, eX, eY, cl, ol, hch, hot, hag⟩
    have hgg := gcw_congr (c := c) hag
    have hG11 := gme_kp d8 k11 hG8
    have ho11 := k11 _ _ n1 ho8
    have hp11 := k11 _ _ n2 hp8
    have hL11 := keepLL hL8 k11
    clear hag hG8 ho8 hp8 hL8 k11 d8
    -- the position
    refine ⟨_, rfl, _, rfl, r, _, rfl, .inl (.of hL11.1), d, _, rfl, d11, by rw [hl2]; omega, fun pos us pos0 pos1 => ?_⟩
    rw [hl2] at pos1
    have k12 : Kp d H11 (upd H11 d (.lst (us.map V.int))) := Kp.own
    have d12 : Drw (upd H11 d (.lst (us.map V.int))) d := Drw.own
    have hG12 := gme_kp d11 k12 hG11
    have ho12 := k12 _ _ n1 ho11
    have hp12 := k12 _ _ n2 hp11
    have hL12 := keepLL hL11 k12
    have eX12 := k12 _ _ nXd eX
    have eY12 := k12 _ _ nYd eY
    generalize upd H11 d (.lst (us.map V.int)) = H12 at d12 hG12 ho12 hp12 hL12 eX12 eY12 ⊢
    clear k12 d11 hG11 ho11 hp11 hL11 eX eY
    refine ⟨_, rfl, d, 8, rfl, d12, by decide, fun u us _ _ => ?_⟩
    have k13 : Kp d H12 (upd H12 d (.lst (us.map V.int))) := Kp.own
    have d13 : Drw (upd H12 d (.lst (us.map V.int))) d := Drw.own
    have hG13 := gme_kp d12 k13 hG12
    have ho13 := k13 _ _ n1 ho12
    have hp13 := k13 _ _ n2 hp12
    have hL13 := keepLL hL12 k13
    have eX13 := k13 _ _ nXd eX12
    have eY13 := k13 _ _ nYd eY12
    generalize upd H12 d (.lst (us.map V.int)) = H13 at d13 hG13 ho13 hp13 hL13 eX13 eY13 ⊢
    clear k13 d12 hG12 ho12 hp12 hL12 eX12 eY12
    refine ⟨rfl, _, rfl, ite_eq (fun _ => ?_) (fun _ => ?_)⟩
    · refine ⟨_, rfl, _, rfl, _, rfl, X, _, rfl, .inl (.of eX13), fun a na => ?_⟩
      generalize hX : upd H13 a _ = H14; obtain ⟨sH14, ea⟩ := nw na hX; clear hX
      refine ⟨_, rfl, _, rfl, r, _, rfl, .inl (.of (sH14 _ _ hL13.1)), by show 2 ≤ sizeLine; decide, fun b nb => ?_⟩
      generalize hX : upd H14 b _ = H15; obtain ⟨sH15, eb⟩ := nw nb hX; clear hX
      have s15 := sH14.trans sH15
      have d15 := d13.same s15
      have nad := nd_of d13 na
      have nbd := nd_of (d13.same sH14) nb
      refine ⟨_, rfl, d, 2, rfl, d15, by decide, fun u us u0 u1 => ?_⟩
      have k16 : Kp d H15 (upd H15 d (.lst (us.map V.int))) := Kp.own
      have hG16 := gme_kp d13 ((Same.kp s15).trans k16) hG13
      have ea16 := k16 _ _ nad (sH15 _ _ ea)
      have eb16 := k16 _ _ nbd eb
      generalize upd H15 d (.lst (us.map V.int)) = H16 at hG16 ea16 eb16 ⊢
      rw [hl2] at eb16
      obtain ⟨v, hv, hbad⟩ : ∃ v : Int, atI [V.int (-1), V.int (c.length : Int)] u = some (.int v) ∧ ¬ (0 ≤ v ∧ v < (c.length : Int)) := by
        rcases (show u = 0 ∨ u = 1 by omega) with rfl | rfl
        · exact ⟨-1, rfl, by omega⟩
        · exact ⟨(c.length : Int), rfl, by omega⟩
      refine ⟨b, _, _, .int v, rfl, rfl, .of eb16, hv, x, a, pl, v, ow, ps, ch, c, rfl, hG16, hV, by omega, ea16, cl, hch, fun _ => ⟨rfl, ?_⟩, fun h0 h1 => absurd ⟨h0, h1⟩ hbad⟩
      rw [decide_eq_true rfl]
      exact q _
    refine ⟨_, rfl, X, _, rfl, .inl (.of eX13), fun Ha nHa => ?_⟩
    generalize hX : upd H13 Ha _ = H14; obtain ⟨sH14, eHa⟩ := nw nHa hX; clear hX
    have eX14 := sH14 _ _ eX13
    have hG14 : GmeAt C H14 x ow ps c := by
      obtain ⟨dx, ot', pt, rt, as', e1, e2, e3, e4, e5⟩ := hG13
      exact ⟨dx, ot', pt, rt, as', sH14 _ _ e1, sH14 _ _ e2, sH14 _ _ e3, sH14 _ _ e4, e5.same sH14⟩
    have gsame : ∀ {X Y : Hp}, Same X Y → GmeAt C X x ow ps c → GmeAt C Y x ow ps c := fun {X Y} s h => by
      obtain ⟨dx, ot', pt, rt, as', e1, e2, e3, e4, e5⟩ := h
      exact ⟨dx, ot', pt, rt, as', s _ _ e1, s _ _ e2, s _ _ e3, s _ _ e4, e5.same s⟩
    refine ⟨_, rfl, _, rfl, _, rfl, _, rfl, x, Ha, pl, pos, ow, ps, ch, c, rfl, hG14, hV, by omega, eHa, cl, hch, fun h => absurd ⟨pos0, pos1⟩ h, fun _ _ H15 bf s15 hbf => ?_⟩
    have s13 := sH14.trans s15
    have hcond : pl = 0 ∨ pl = 1 := by omega
    have hps : ps.length = (gcw ow c pl ch).length := by rw [gcw_len]; exact lp
    have hok := gcw_ok hV hch (pl := pl)
    refine ⟨_, rfl, _, _, _, _, true, rfl, .ty "bool", .base (.bl _), kit_ty (by decide +kernel), true, rfl, iteB_f (c := !true) rfl ?_⟩
    refine ⟨_, rfl, _, rfl, _, _, dp_lst (s15 _ _ eHa), dp_lst (s13 _ _ eX13), shaped_lst _, shaped_lst _, _, rfl, iteB_f (by rw [eqv_lst, decide_eq_true rfl]; rfl) ?_⟩
    refine ⟨_, rfl, _, rfl, _, rfl, _, rfl, _, rfl, o, r, X, pl, ow, ps, ch, as, c, rfl, s13 _ _ ho13, hL13.same s13, hV, by omega, s13 _ _ eX13, cl, fun H16 G s16 nG hGr => ?_⟩
    have s136 := s13.trans s16
    obtain ⟨pn, rfl⟩ : ∃ n : Nat, pos = (n : Int) := ⟨pos.toNat, by omega⟩
    refine ⟨_, rfl, _, rfl, p, G, pl, pn, ps, gcw ow c pl ch, rfl, s136 _ _ hp13, hGr, hok, by rw [gcw_len]; omega, hps, by rw [gcw_len]; omega, hcond, fun H17 bw s17 hbw => ?_⟩
    rw [Int.toNat_natCast] at hbf
    have hbb : bf = bw := by rw [Bool.eq_iff_iff, hbf, hbw]
    subst hbb
    have s137 := s136.trans s17
    refine ⟨_, rfl, _, rfl, rfl, true, by rw [decide_eq_true rfl], iteB_t rfl ?_⟩
    refine ⟨_, rfl, _, rfl, _, rfl, Y, _, rfl, .inl (.of (s137 _ _ eY13)), fun Hb nHb => ?_⟩
    generalize hX : upd H17 Hb _ = H18; obtain ⟨sH18, eHb⟩ := nw nHb hX; clear hX
    have s138 := s137.trans sH18
    refine ⟨_, rfl, x, Hb, pl, (pn : Int), ow, ps, ot, c, rfl, gsame s138 hG13, hV, by omega, eHb, ol, hot, fun h => absurd ⟨pos0, pos1⟩ h, fun _ _ H19 b2 s19 hb2 => ?_⟩
    rw [Int.toNat_natCast, hgg] at hb2
    have hbb : b2 = bf := by rw [Bool.eq_iff_iff, hb2, hbw]
    subst hbb
    refine ⟨_, rfl, rfl, ?_⟩
    rw [decide_eq_true rfl]
    exact q _
end

theorem all_mk {l : PySem.W.OpenLaw} {w : World} {K : PySem.W.Frag} {h : Heap} {mg : Str → Option Value} {fa : Addr} {f0 f1 f2 f3 f4 f5 f6 f7 f8 f9 f10 f11 f12 f13 f14 f15 f16 f17 f18 f19 cI cL C fI : Addr} (X : K.In h) (G : h.Ns mainGlobals mg) (hfa : mg "law" = some (.ref fa))
    {od0 an0 od1 an1 od2 an2 od3 an3 od4 an4 od5 an5 od6 an6 od7 an7 od8 an8 od9 an9 od10 an10 od11 an11 od12 an12 od13 an13 od14 an14 od15 an15 od16 an16 od17 an17 od18 an18 od19 an19 : Option Addr} {sl0 sl1 sl2 sl3 sl4 sl5 sl6 sl7 sl8 sl9 sl10 sl11 sl12 sl13 sl14 sl15 sl16 sl17 sl18 sl19 : Array (Option Value)} {oc0 kV0 dc0 pm0 cd0 ct0 oc1 kV1 dc1 pm1 cd1 ct1 oc2 kV2 dc2 pm2 cd2 ct2 oc3 kV3 dc3 pm3 cd3 ct3 oc4 kV4 dc4 pm4 cd4 ct4 oc5 kV5 dc5 pm5 cd5 ct5 oc6 kV6 dc6 pm6 cd6 ct6 oc7 kV7 dc7 pm7 cd7 ct7 oc8 kV8 dc8 pm8 cd8 ct8 oc9 kV9 dc9 pm9 cd9 ct9 oc10 kV10 dc10 pm10 cd10 ct10 oc11 kV11 dc11 pm11 cd11 ct11 oc12 kV12 dc12 pm12 cd12 ct12 oc13 kV13 dc13 pm13 cd13 ct13 oc14 kV14 dc14 pm14 cd14 ct14 oc15 kV15 dc15 pm15 cd15 ct15 oc16 kV16 dc16 pm16 cd16 ct16 oc17 kV17 dc17 pm17 cd17 ct17 oc18 kV18 dc18 pm18 cd18 ct18 oc19 kV19 dc19 pm19 cd19 ct19 : Value} {odI anI : Option Addr} {slI : Array (Option Value)} {ocI kVI dcI pmI cdI ctI : Value}
    (a0 : PySem.W.nsIn K mainGlobals "reachable" = some (some (.ref f0))) (l0 : K.lookup f0 = some ⟨oc0, od0, .func (PySem.W.fnOf "reachable" "reachable" (defArgs s_reachable) (defBody s_reachable) (defScope s_reachable) .none kV0 dc0 pm0 an0 cd0 ct0), sl0⟩) (c0 : PySem.W.codeIn K cd0 "reachable" = true) (k0 : PySem.W.keepIn K (.ref f0) = true)
    (a1 : PySem.W.nsIn K mainGlobals "reversed_graph" = some (some (.ref f1))) (l1 : K.lookup f1 = some ⟨oc1, od1, .func (PySem.W.fnOf "reversed_graph" "reversed_graph" (defArgs s_reversed_graph) (defBody s_reversed_graph) (defScope s_reversed_graph) .none kV1 dc1 pm1 an1 cd1 ct1), sl1⟩) (c1 : PySem.W.codeIn K cd1 "reversed_graph" = true) (k1 : PySem.W.keepIn K (.ref f1) = true)
    (a2 : PySem.W.nsIn K mainGlobals "finishing_order" = some (some (.ref f2))) (l2 : K.lookup f2 = some ⟨oc2, od2, .func (PySem.W.fnOf "finishing_order" "finishing_order" (defArgs s_finishing_order) (defBody s_finishing_order) (defScope s_finishing_order) .none kV2 dc2 pm2 an2 cd2 ct2), sl2⟩) (c2 : PySem.W.codeIn K cd2 "finishing_order" = true) (k2 : PySem.W.keepIn K (.ref f2) = true)
    (a3 : PySem.W.nsIn K mainGlobals "components" = some (some (.ref f3))) (l3 : K.lookup f3 = some ⟨oc3, od3, .func (PySem.W.fnOf "components" "components" (defArgs s_components) (defBody s_components) (defScope s_components) .none kV3 dc3 pm3 an3 cd3 ct3), sl3⟩) (c3 : PySem.W.codeIn K cd3 "components" = true) (k3 : PySem.W.keepIn K (.ref f3) = true)
    (a4 : PySem.W.nsIn K mainGlobals "part_of" = some (some (.ref f4))) (l4 : K.lookup f4 = some ⟨oc4, od4, .func (PySem.W.fnOf "part_of" "part_of" (defArgs s_part_of) (defBody s_part_of) (defScope s_part_of) .none kV4 dc4 pm4 an4 cd4 ct4), sl4⟩) (c4 : PySem.W.codeIn K cd4 "part_of" = true) (k4 : PySem.W.keepIn K (.ref f4) = true)
    (a5 : PySem.W.nsIn K mainGlobals "component_lists" = some (some (.ref f5))) (l5 : K.lookup f5 = some ⟨oc5, od5, .func (PySem.W.fnOf "component_lists" "component_lists" (defArgs s_component_lists) (defBody s_component_lists) (defScope s_component_lists) .none kV5 dc5 pm5 an5 cd5 ct5), sl5⟩) (c5 : PySem.W.codeIn K cd5 "component_lists" = true) (k5 : PySem.W.keepIn K (.ref f5) = true)
    (a6 : PySem.W.nsIn K mainGlobals "check_moves" = some (some (.ref f6))) (l6 : K.lookup f6 = some ⟨oc6, od6, .func (PySem.W.fnOf "check_moves" "check_moves" (defArgs s_check_moves) (defBody s_check_moves) (defScope s_check_moves) .none kV6 dc6 pm6 an6 cd6 ct6), sl6⟩) (c6 : PySem.W.codeIn K cd6 "check_moves" = true) (k6 : PySem.W.keepIn K (.ref f6) = true)
    (a7 : PySem.W.nsIn K mainGlobals "check_position" = some (some (.ref f7))) (l7 : K.lookup f7 = some ⟨oc7, od7, .func (PySem.W.fnOf "check_position" "check_position" (defArgs s_check_position) (defBody s_check_position) (defScope s_check_position) .none kV7 dc7 pm7 an7 cd7 ct7), sl7⟩) (c7 : PySem.W.codeIn K cd7 "check_position" = true) (k7 : PySem.W.keepIn K (.ref f7) = true)
    (a8 : PySem.W.nsIn K mainGlobals "choices_win" = some (some (.ref f8))) (l8 : K.lookup f8 = some ⟨oc8, od8, .func (PySem.W.fnOf "choices_win" "choices_win" (defArgs s_choices_win) (defBody s_choices_win) (defScope s_choices_win) .none kV8 dc8 pm8 an8 cd8 ct8), sl8⟩) (c8 : PySem.W.codeIn K cd8 "choices_win" = true) (k8 : PySem.W.keepIn K (.ref f8) = true)
    (a9 : PySem.W.nsIn K mainGlobals "winning_group" = some (some (.ref f9))) (l9 : K.lookup f9 = some ⟨oc9, od9, .func (PySem.W.fnOf "winning_group" "winning_group" (defArgs s_winning_group) (defBody s_winning_group) (defScope s_winning_group) .none kV9 dc9 pm9 an9 cd9 ct9), sl9⟩) (c9 : PySem.W.codeIn K cd9 "winning_group" = true) (k9 : PySem.W.keepIn K (.ref f9) = true)
    (a10 : PySem.W.nsIn K mainGlobals "_law_draws" = some (some (.ref f10))) (l10 : K.lookup f10 = some ⟨oc10, od10, .func (PySem.W.fnOf "_law_draws" "_law_draws" (defArgs s_law_draws) (defBody s_law_draws) (defScope s_law_draws) .none kV10 dc10 pm10 an10 cd10 ct10), sl10⟩) (c10 : PySem.W.codeIn K cd10 "_law_draws" = true) (k10 : PySem.W.keepIn K (.ref f10) = true)
    (a11 : PySem.W.nsIn K mainGlobals "_law_take" = some (some (.ref f11))) (l11 : K.lookup f11 = some ⟨oc11, od11, .func (PySem.W.fnOf "_law_take" "_law_take" (defArgs s_law_take) (defBody s_law_take) (defScope s_law_take) .none kV11 dc11 pm11 an11 cd11 ct11), sl11⟩) (c11 : PySem.W.codeIn K cd11 "_law_take" = true) (k11 : PySem.W.keepIn K (.ref f11) = true)
    (a12 : PySem.W.nsIn K mainGlobals "_law_ascending" = some (some (.ref f12))) (l12 : K.lookup f12 = some ⟨oc12, od12, .func (PySem.W.fnOf "_law_ascending" "_law_ascending" (defArgs s_law_ascending) (defBody s_law_ascending) (defScope s_law_ascending) .none kV12 dc12 pm12 an12 cd12 ct12), sl12⟩) (c12 : PySem.W.codeIn K cd12 "_law_ascending" = true) (k12 : PySem.W.keepIn K (.ref f12) = true)
    (a13 : PySem.W.nsIn K mainGlobals "_law_flat" = some (some (.ref f13))) (l13 : K.lookup f13 = some ⟨oc13, od13, .func (PySem.W.fnOf "_law_flat" "_law_flat" (defArgs s_law_flat) (defBody s_law_flat) (defScope s_law_flat) .none kV13 dc13 pm13 an13 cd13 ct13), sl13⟩) (c13 : PySem.W.codeIn K cd13 "_law_flat" = true) (k13 : PySem.W.keepIn K (.ref f13) = true)
    (a14 : PySem.W.nsIn K mainGlobals "_law_game" = some (some (.ref f14))) (l14 : K.lookup f14 = some ⟨oc14, od14, .func (PySem.W.fnOf "_law_game" "_law_game" (defArgs s_law_game) (defBody s_law_game) (defScope s_law_game) .none kV14 dc14 pm14 an14 cd14 ct14), sl14⟩) (c14 : PySem.W.codeIn K cd14 "_law_game" = true) (k14 : PySem.W.keepIn K (.ref f14) = true)
    (a15 : PySem.W.nsIn K mainGlobals "_law_left" = some (some (.ref f15))) (l15 : K.lookup f15 = some ⟨oc15, od15, .func (PySem.W.fnOf "_law_left" "_law_left" (defArgs s_law_left) (defBody s_law_left) (defScope s_law_left) .none kV15 dc15 pm15 an15 cd15 ct15), sl15⟩) (c15 : PySem.W.codeIn K cd15 "_law_left" = true) (k15 : PySem.W.keepIn K (.ref f15) = true)
    (a16 : PySem.W.nsIn K mainGlobals "_law_reached" = some (some (.ref f16))) (l16 : K.lookup f16 = some ⟨oc16, od16, .func (PySem.W.fnOf "_law_reached" "_law_reached" (defArgs s_law_reached) (defBody s_law_reached) (defScope s_law_reached) .none kV16 dc16 pm16 an16 cd16 ct16), sl16⟩) (c16 : PySem.W.codeIn K cd16 "_law_reached" = true) (k16 : PySem.W.keepIn K (.ref f16) = true)
    (a17 : PySem.W.nsIn K mainGlobals "_law_wins" = some (some (.ref f17))) (l17 : K.lookup f17 = some ⟨oc17, od17, .func (PySem.W.fnOf "_law_wins" "_law_wins" (defArgs s_law_wins) (defBody s_law_wins) (defScope s_law_wins) .none kV17 dc17 pm17 an17 cd17 ct17), sl17⟩) (c17 : PySem.W.codeIn K cd17 "_law_wins" = true) (k17 : PySem.W.keepIn K (.ref f17) = true)
    (a18 : PySem.W.nsIn K mainGlobals "_law_outcome" = some (some (.ref f18))) (l18 : K.lookup f18 = some ⟨oc18, od18, .func (PySem.W.fnOf "_law_outcome" "_law_outcome" (defArgs s_law_outcome) (defBody s_law_outcome) (defScope s_law_outcome) .none kV18 dc18 pm18 an18 cd18 ct18), sl18⟩) (c18 : PySem.W.codeIn K cd18 "_law_outcome" = true) (k18 : PySem.W.keepIn K (.ref f18) = true)
    (a19 : PySem.W.nsIn K mainGlobals "law" = some (some (.ref f19))) (l19 : K.lookup f19 = some ⟨oc19, od19, .func (PySem.W.fnOf "law" "law" (defArgs s_law) (defBody s_law) (defScope s_law) .none kV19 dc19 pm19 an19 cd19 ct19), sl19⟩) (c19 : PySem.W.codeIn K cd19 "law" = true) (k19 : PySem.W.keepIn K (.ref f19) = true)
    (z0 : PySem.W.nsIn K mainGlobals "bool" = some none) (z1 : PySem.W.nsIn K mainGlobals "enumerate" = some none) (z2 : PySem.W.nsIn K mainGlobals "int" = some none) (z3 : PySem.W.nsIn K mainGlobals "isinstance" = some none) (z4 : PySem.W.nsIn K mainGlobals "len" = some none) (z5 : PySem.W.nsIn K mainGlobals "list" = some none) (z6 : PySem.W.nsIn K mainGlobals "max" = some none) (z7 : PySem.W.nsIn K mainGlobals "min" = some none) (z8 : PySem.W.nsIn K mainGlobals "range" = some none) (z9 : PySem.W.nsIn K mainGlobals "tuple" = some none) (z10 : PySem.W.nsIn K mainGlobals "zip" = some none) (xa : PySem.W.nsIn K mainGlobals "InvalidGame" = some (some (.ref cI))) (xb : PySem.W.excIn K cI [.type "ValueError", .type "Exception", .type "BaseException", .type "object"] "ValueError.__new__" = true) (xc : PySem.W.keepIn K (.ref cI) = true) (xd : PySem.W.typeIn K (.ref cI) = some (.type "type")) (xe : PySem.W.subIn K (.ref cI) (.ref cI) = some true) (xf : PySem.W.findIn K (.ref cI) "__getattribute__" = some (some (.builtin "BaseException.__getattribute__"))) (xg : PySem.W.findIn K (.ref cI) "__getattr__" = some none) (xh : PySem.W.subIn K (.ref cI) (.type "BaseException") = some true) (xi : PySem.W.hasDictIn K cI = true) (xj : PySem.W.findIn K (.ref cI) "__class__" = some (some (.builtin "object.__class__"))) (xk : PySem.W.specialIn K (.builtin "object.__class__") "__get__" = some (some (.builtin "getset_descriptor.__get__"))) (xl : PySem.W.takesIn K (.builtin "object.__class__") = some true) (xm : PySem.W.mroIn K cI (.type "object") = some true) (wa : PySem.W.nsIn K mainGlobals "InvalidPosition" = some (some (.ref cL))) (wb : PySem.W.excIn K cL [.type "ValueError", .type "Exception", .type "BaseException", .type "object"] "ValueError.__new__" = true) (wc : PySem.W.keepIn K (.ref cL) = true) (wd : PySem.W.typeIn K (.ref cL) = some (.type "type")) (we : PySem.W.subIn K (.ref cL) (.ref cL) = some true) (wf : PySem.W.findIn K (.ref cL) "__getattribute__" = some (some (.builtin "BaseException.__getattribute__"))) (wg : PySem.W.findIn K (.ref cL) "__getattr__" = some none) (wh : PySem.W.subIn K (.ref cL) (.type "BaseException") = some true) (wi : PySem.W.hasDictIn K cL = true) (wj : PySem.W.findIn K (.ref cL) "__class__" = some (some (.builtin "object.__class__"))) (wk : PySem.W.specialIn K (.builtin "object.__class__") "__get__" = some (some (.builtin "getset_descriptor.__get__"))) (wl : PySem.W.takesIn K (.builtin "object.__class__") = some true) (wm : PySem.W.mroIn K cL (.type "object") = some true) (ya : PySem.W.nsIn K mainGlobals "Game" = some (some (.ref C))) (yb : PySem.W.plainGet K C Str.empty = true) (yc : PySem.W.hasDictIn K C = true) (yd : PySem.W.plainOver K C = true) (ye : PySem.W.findIn K (.ref C) "__setattr__" = some (some (.builtin "object.__setattr__"))) (yf : PySem.W.findIn K (.ref C) "owners" = some none) (yg : PySem.W.findIn K (.ref C) "priorities" = some none) (yh : PySem.W.findIn K (.ref C) "moves" = some none) (yj : PySem.W.makesIn K C = true) (yk : PySem.W.findIn K (.ref C) "__init__" = some (some (.ref fI))) (yl : PySem.W.isFn K (.ref fI) = true) (ym : PySem.W.keepIn K (.ref C) = true) (yn : K.lookup fI = some ⟨ocI, odI, .func (PySem.W.fnOf "__init__" "Game.__init__" (defArgs s_Game_init) (defBody s_Game_init) (defScope s_Game_init) .none kVI dcI pmI anI cdI ctI), slI⟩) (yo : PySem.W.codeIn K cdI "Game.__init__" = true) (yp : PySem.W.keepIn K (.ref fI) = true) :
    ∃ fd : FuncData, (∀ (s : Shared) (v : Value), BindsTo s fd ⟨[v], []⟩ [("script", v)]) ∧ ∀ base : Heap, K.In base → base.Ns mainGlobals mg → FnOk l.prog w K mg base CX0 8 fa fd ["script"] (spLaw K) := by
  have e := hfa.symm.trans (PySem.W.mg_of X G a19)
  cases e
  have T : Txt K mg := ⟨⟨f0, _, fun_mk (st := s_reachable) l0 c0 k0, PySem.W.mg_of X G a0, (fun_mk (st := s_reachable) l0 c0 k0).binds fun _ _ _ _ _ _ us hl => match us, hl with | [_, _], _ => rfl⟩, ⟨f1, _, fun_mk (st := s_reversed_graph) l1 c1 k1, PySem.W.mg_of X G a1, (fun_mk (st := s_reversed_graph) l1 c1 k1).binds fun _ _ _ _ _ _ us hl => match us, hl with | [_], _ => rfl⟩, ⟨f2, _, fun_mk (st := s_finishing_order) l2 c2 k2, PySem.W.mg_of X G a2, (fun_mk (st := s_finishing_order) l2 c2 k2).binds fun _ _ _ _ _ _ us hl => match us, hl with | [_], _ => rfl⟩, ⟨f3, _, fun_mk (st := s_components) l3 c3 k3, PySem.W.mg_of X G a3, (fun_mk (st := s_components) l3 c3 k3).binds fun _ _ _ _ _ _ us hl => match us, hl with | [_], _ => rfl⟩, ⟨f4, _, fun_mk (st := s_part_of) l4 c4 k4, PySem.W.mg_of X G a4, (fun_mk (st := s_part_of) l4 c4 k4).binds fun _ _ _ _ _ _ us hl => match us, hl with | [_, _], _ => rfl⟩, ⟨f5, _, fun_mk (st := s_component_lists) l5 c5 k5, PySem.W.mg_of X G a5, (fun_mk (st := s_component_lists) l5 c5 k5).binds fun _ _ _ _ _ _ us hl => match us, hl with | [_, _], _ => rfl⟩, ⟨f6, _, fun_mk (st := s_check_moves) l6 c6 k6, PySem.W.mg_of X G a6, (fun_mk (st := s_check_moves) l6 c6 k6).binds fun _ _ _ _ _ _ us hl => match us, hl with | [_, _], _ => rfl⟩, ⟨f7, _, fun_mk (st := s_check_position) l7 c7 k7, PySem.W.mg_of X G a7, (fun_mk (st := s_check_position) l7 c7 k7).binds fun _ _ _ _ _ _ us hl => match us, hl with | [_, _], _ => rfl⟩, ⟨f8, _, fun_mk (st := s_choices_win) l8 c8 k8, PySem.W.mg_of X G a8, (fun_mk (st := s_choices_win) l8 c8 k8).binds fun _ _ _ _ _ _ us hl => match us, hl with | [_, _, _, _], _ => rfl⟩, ⟨f9, _, fun_mk (st := s_winning_group) l9 c9 k9, PySem.W.mg_of X G a9, (fun_mk (st := s_winning_group) l9 c9 k9).binds fun _ _ _ _ _ _ us hl => match us, hl with | [_, _, _, _], _ => rfl⟩, ⟨f10, _, fun_mk (st := s_law_draws) l10 c10 k10, PySem.W.mg_of X G a10, (fun_mk (st := s_law_draws) l10 c10 k10).binds fun _ _ _ _ _ _ us hl => match us, hl with | [_, _], _ => rfl⟩, ⟨f11, _, fun_mk (st := s_law_take) l11 c11 k11, PySem.W.mg_of X G a11, (fun_mk (st := s_law_take) l11 c11 k11).binds fun _ _ _ _ _ _ us hl => match us, hl with | [_, _], _ => rfl⟩, ⟨f12, _, fun_mk (st := s_law_ascending) l12 c12 k12, PySem.W.mg_of X G a12, (fun_mk (st := s_law_ascending) l12 c12 k12).binds fun _ _ _ _ _ _ us hl => match us, hl with | [_, _, _], _ => rfl⟩, ⟨f13, _, fun_mk (st := s_law_flat) l13 c13 k13, PySem.W.mg_of X G a13, (fun_mk (st := s_law_flat) l13 c13 k13).binds fun _ _ _ _ _ _ us hl => match us, hl with | [_], _ => rfl⟩, ⟨f14, _, fun_mk (st := s_law_game) l14 c14 k14, PySem.W.mg_of X G a14, (fun_mk (st := s_law_game) l14 c14 k14).binds fun _ _ _ _ _ _ us hl => match us, hl with | [_, _], _ => rfl⟩, ⟨f15, _, fun_mk (st := s_law_left) l15 c15 k15, PySem.W.mg_of X G a15, (fun_mk (st := s_law_left) l15 c15 k15).binds fun _ _ _ _ _ _ us hl => match us, hl with | [_, _, _, _], _ => rfl⟩, ⟨f16, _, fun_mk (st := s_law_reached) l16 c16 k16, PySem.W.mg_of X G a16, (fun_mk (st := s_law_reached) l16 c16 k16).binds fun _ _ _ _ _ _ us hl => match us, hl with | [_, _, _], _ => rfl⟩, ⟨f17, _, fun_mk (st := s_law_wins) l17 c17 k17, PySem.W.mg_of X G a17, (fun_mk (st := s_law_wins) l17 c17 k17).binds fun _ _ _ _ _ _ us hl => match us, hl with | [_, _, _, _], _ => rfl⟩, ⟨f18, _, fun_mk (st := s_law_outcome) l18 c18 k18, PySem.W.mg_of X G a18, (fun_mk (st := s_law_outcome) l18 c18 k18).binds fun _ _ _ _ _ _ us hl => match us, hl with | [_, _, _, _], _ => rfl⟩, PySem.W.mg_none_of X G z0, PySem.W.mg_none_of X G z1, PySem.W.mg_none_of X G z2, PySem.W.mg_none_of X G z3, PySem.W.mg_none_of X G z4, PySem.W.mg_none_of X G z5, PySem.W.mg_none_of X G z6, PySem.W.mg_none_of X G z7, PySem.W.mg_none_of X G z8, PySem.W.mg_none_of X G z9, PySem.W.mg_none_of X G z10, ⟨cI, cL, C, fI, _, ⟨PySem.W.mg_of X G xa, xb, xc, xd, xe, ⟨xf, xg, xh, xi, xj, xk, xl, xm⟩⟩, ⟨PySem.W.mg_of X G wa, wb, wc, wd, we, ⟨wf, wg, wh, wi, wj, wk, wl, wm⟩⟩, ⟨⟨yb, yc, yd, ye⟩, yf, yg, yh⟩, ⟨yj, yk, yl, ym⟩, PySem.W.mg_of X G ya, fun_mk (st := s_Game_init) yn yo yp, (fun_mk (st := s_Game_init) yn yo yp).binds fun _ _ _ _ _ _ us hl => match us, hl with | [_, _, _, _], _ => rfl⟩⟩
  exact ⟨_, fun s v => .of_eq rfl, fun base _ _ => ok_law (fun_mk (st := s_law) l19 c19 k19) T⟩
end My
open PySem PySem.W PyProof.Rows
set_option maxHeartbeats 0 in
theorem PySem.Challenge.cw_reactivesynth_k35_choices_win_holds : PySem.Challenge.rw_reactivesynth_k35_choices_win.Holds := by
  w_on; o_law; k_head; (case hw => w_witness2)
  k_fill
  refine L2.walk_of (l := PySem.Challenge.rw_reactivesynth_k35_choices_win) (n := 63) (k := 8) (x := "script") (CX := fun _ => L2.CX0) (sp := fun w => My.spLaw _) rfl (by decide) rfl ⟨rfl, by decide, by decide⟩ (fun w h Y => PySem.W.kIn_of Y) ?F (fun _ _ a ns hl _ hS => ⟨a, ns, rfl, hS, hl, fun _ => rfl⟩) (fun _ _ _ _ _ h => h)
  case F =>
    intro w mg fa h KX G hmg
    refine' My.all_mk KX G hmg ?a0 ?l0 ?c0 ?k0 ?a1 ?l1 ?c1 ?k1 ?a2 ?l2 ?c2 ?k2 ?a3 ?l3 ?c3 ?k3 ?a4 ?l4 ?c4 ?k4 ?a5 ?l5 ?c5 ?k5 ?a6 ?l6 ?c6 ?k6 ?a7 ?l7 ?c7 ?k7 ?a8 ?l8 ?c8 ?k8 ?a9 ?l9 ?c9 ?k9 ?a10 ?l10 ?c10 ?k10 ?a11 ?l11 ?c11 ?k11 ?a12 ?l12 ?c12 ?k12 ?a13 ?l13 ?c13 ?k13 ?a14 ?l14 ?c14 ?k14 ?a15 ?l15 ?c15 ?k15 ?a16 ?l16 ?c16 ?k16 ?a17 ?l17 ?c17 ?k17 ?a18 ?l18 ?c18 ?k18 ?a19 ?l19 ?c19 ?k19 ?z0 ?z1 ?z2 ?z3 ?z4 ?z5 ?z6 ?z7 ?z8 ?z9 ?z10 ?xa ?xb ?xc ?xd ?xe ?xf ?xg ?xh ?xi ?xj ?xk ?xl ?xm ?wa ?wb ?wc ?wd ?we ?wf ?wg ?wh ?wi ?wj ?wk ?wl ?wm ?ya ?yb ?yc ?yd ?ye ?yf ?yg ?yh ?yj ?yk ?yl ?ym ?yn ?yo ?yp
    (case a0 => k_is); (case l0 => k_is); (case c0 => k_is); (case k0 => k_is); (case a1 => k_is); (case l1 => k_is); (case c1 => k_is); (case k1 => k_is); (case a2 => k_is); (case l2 => k_is); (case c2 => k_is); (case k2 => k_is); (case a3 => k_is); (case l3 => k_is); (case c3 => k_is); (case k3 => k_is); (case a4 => k_is); (case l4 => k_is); (case c4 => k_is); (case k4 => k_is); (case a5 => k_is); (case l5 => k_is); (case c5 => k_is); (case k5 => k_is); (case a6 => k_is); (case l6 => k_is); (case c6 => k_is); (case k6 => k_is); (case a7 => k_is); (case l7 => k_is); (case c7 => k_is); (case k7 => k_is); (case a8 => k_is); (case l8 => k_is); (case c8 => k_is); (case k8 => k_is); (case a9 => k_is); (case l9 => k_is); (case c9 => k_is); (case k9 => k_is); (case a10 => k_is); (case l10 => k_is); (case c10 => k_is); (case k10 => k_is); (case a11 => k_is); (case l11 => k_is); (case c11 => k_is); (case k11 => k_is); (case a12 => k_is); (case l12 => k_is); (case c12 => k_is); (case k12 => k_is); (case a13 => k_is); (case l13 => k_is); (case c13 => k_is); (case k13 => k_is); (case a14 => k_is); (case l14 => k_is); (case c14 => k_is); (case k14 => k_is); (case a15 => k_is); (case l15 => k_is); (case c15 => k_is); (case k15 => k_is); (case a16 => k_is); (case l16 => k_is); (case c16 => k_is); (case k16 => k_is); (case a17 => k_is); (case l17 => k_is); (case c17 => k_is); (case k17 => k_is); (case a18 => k_is); (case l18 => k_is); (case c18 => k_is); (case k18 => k_is); (case a19 => k_is); (case l19 => k_is); (case c19 => k_is); (case k19 => k_is); (case z0 => k_is); (case z1 => k_is); (case z2 => k_is); (case z3 => k_is); (case z4 => k_is); (case z5 => k_is); (case z6 => k_is); (case z7 => k_is); (case z8 => k_is); (case z9 => k_is); (case z10 => k_is); (case xa => first | rfl | k_is); (case xb => first | k_exc | rfl | k_is); (case xc => first | rfl | k_is); (case xd => first | rfl | k_is); (case xe => first | rfl | k_is); (case xf => first | rfl | k_is); (case xg => first | rfl | k_is); (case xh => first | rfl | k_is); (case xi => first | rfl | k_is); (case xj => first | rfl | k_is); (case xk => first | rfl | k_is); (case xl => first | rfl | k_is); (case xm => first | rfl | k_is); (case wa => k_is); (case wb => first | k_exc | rfl | k_is); (case wc => k_is); (case wd => k_is); (case we => k_is); (case wf => k_is); (case wg => k_is); (case wh => k_is); (case wi => k_is); (case wj => k_is); (case wk => k_is); (case wl => k_is); (case wm => k_is); (case ya => k_is); (case yb => k_is); (case yc => k_is); (case yd => k_is); (case ye => k_is); (case yf => k_is); (case yg => k_is); (case yh => k_is); (case yj => k_is); (case yk => k_is); (case yl => k_is); (case ym => k_is); (case yn => k_is); (case yo => k_is); (case yp => k_is)
