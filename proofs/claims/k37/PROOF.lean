import PyProof.Rows.All
import Wide.All
import OpenK.AllK
import Wide.FinOn
import HandS.ForMost
import HandS.ForExc
import HandS.ExcIs
import HandS.ExcOwn
import HandS.WordsExc
import HandS.TryMany
import HandS.TryOnly
import HandS.Codes
import HandS.IsInst
import HandS.TupAny
import HandS.TupMul
import HandS.SortKw
import KE.KMinKey
import PyProof.WalksMore
import HandS.Dict
import HandS.Style
import HandS.Conv
import HandS.Walk
import HandS.Zip
import PyProof.AutoSeq1
import HandS.Text
import HandS.SetFor
import HandS.Strs
import HandS.Star
import HandS.MakeKwOnly
import HandS.Property
import HandS.Steps
import HandS.Defaults
import HandS.WideBits
import HandS.StrMore
import HandS.Replace
import HandS.Deep
import HandS.DictComp
import KE.GoesMore
import HandS.Iter
import PySem.Challenge.RW_reactivesynth_k37_games_with_sides_excha
set_option Elab.async false
set_option linter.all false
set_option maxRecDepth 100000
set_option maxHeartbeats 4000000
namespace Wd
/-- m is the length of a proper border of the first k letters -/
def Bd (w : Nat → Int) (k m : Nat) : Prop := m < k ∧ ∀ i, i < m → w i = w (k - m + i)
/-- .. the greatest -/
def Lg (w : Nat → Int) (k m : Nat) : Prop := Bd w k m ∧ ∀ j, Bd w k j → j ≤ m
theorem Bd.zero {w : Nat → Int} {k : Nat} (h : 0 < k) : Bd w k 0 := ⟨h, fun i hi => absurd hi (Nat.not_lt_zero i)⟩
theorem Bd.down {w : Nat → Int} {k m : Nat} (h : Bd w (k + 1) (m + 1)) : Bd w k m ∧ w m = w k := by
  obtain ⟨h1, h2⟩ := h
  refine ⟨⟨by omega, fun i hi => ?_⟩, ?_⟩
  · have := h2 i (by omega)
    rw [this]
    congr 1
    omega
  · have := h2 m (by omega)
    rw [this]
    congr 1
    omega
theorem Bd.up {w : Nat → Int} {k m : Nat} (h : Bd w k m) (e : w m = w k) : Bd w (k + 1) (m + 1) := by
  obtain ⟨h1, h2⟩ := h
  refine ⟨by omega, fun i hi => ?_⟩
  rcases Nat.lt_or_ge i m with c | c
  · rw [h2 i c]
    congr 1
    omega
  · have : i = m := by omega
    subst this
    rw [e]
    congr 1
    omega
theorem Bd.inner {w : Nat → Int} {k b j : Nat} (h : Bd w k b) (g : Bd w k j) (l : j < b) : Bd w b j := by
  obtain ⟨h1, h2⟩ := h
  obtain ⟨g1, g2⟩ := g
  refine ⟨l, fun i hi => ?_⟩
  rw [g2 i hi, h2 (b - j + i) (by omega)]
  congr 1
  omega
theorem Bd.trans {w : Nat → Int} {k b j : Nat} (h : Bd w k b) (g : Bd w b j) : Bd w k j := by
  obtain ⟨h1, h2⟩ := h
  obtain ⟨g1, g2⟩ := g
  refine ⟨by omega, fun i hi => ?_⟩
  rw [g2 i hi, h2 (b - j + i) (by omega)]
  congr 1
  omega
/-- what the inner loop keeps: b is a border of the first k letters, and no border of the first k + 1 is longer than b + 1 -/
def In (w : Nat → Int) (k b : Nat) : Prop := Bd w k b ∧ ∀ j, Bd w (k + 1) (j + 1) → j ≤ b
theorem In.start {w : Nat → Int} {k b : Nat} (h : Lg w k b) : In w k b := ⟨h.1, fun j hj => h.2 j hj.down.1⟩
theorem In.step {w : Nat → Int} {k b c : Nat} (h : In w k b) (hb : 0 < b) (ne : w k ≠ w b) (g : Lg w b c) : In w k c ∧ c < b := by
  refine ⟨⟨h.1.trans g.1, fun j hj => ?_⟩, g.1.1⟩
  have h1 := h.2 j hj
  obtain ⟨h2, h3⟩ := hj.down
  have : j ≠ b := fun z => ne (by rw [← h3, z])
  exact g.2 j (h.1.inner h2 (by omega))
theorem In.found {w : Nat → Int} {k b : Nat} (h : In w k b) (e : w k = w b) : Lg w (k + 1) (b + 1) := by
  refine ⟨h.1.up e.symm, fun j hj => ?_⟩
  cases j with
  | zero => omega
  | succ j => exact Nat.succ_le_succ (h.2 j hj)
theorem In.none {w : Nat → Int} {k : Nat} (h : In w k 0) (ne : w k ≠ w 0) : Lg w (k + 1) 0 := by
  refine ⟨Bd.zero (by omega), fun j hj => ?_⟩
  cases j with
  | zero => omega
  | succ j =>
    have h1 := h.2 j hj
    have : j = 0 := by omega
    subst this
    exact absurd hj.down.2.symm ne
/-! periods -/
/-- the letters of the word without end that repeats the first n letters -/
def cyc (w : Nat → Int) (n i : Nat) : Int := w (i % n)
def Rp (w : Nat → Int) (n p : Nat) : Prop := ∀ i, cyc w n (i + p) = cyc w n i
theorem Rp.mul {w : Nat → Int} {n p : Nat} (h : Rp w n p) : ∀ k i, cyc w n (i + k * p) = cyc w n i
  | 0, i => by rw [Nat.zero_mul, Nat.add_zero]
  | k + 1, i => by
    rw [Nat.succ_mul, ← Nat.add_assoc, h, h.mul k i]
theorem Rp.mod {w : Nat → Int} {n p i : Nat} (h : Rp w n p) : cyc w n i = cyc w n (i % p) := by
  have := h.mul (i / p) (i % p)
  rw [Nat.mul_comm, Nat.mod_add_div] at this
  exact this
theorem cyc_lt {w : Nat → Int} {n i : Nat} (h : i < n) : cyc w n i = w i := by
  unfold cyc
  rw [Nat.mod_eq_of_lt h]
theorem rp_self (w : Nat → Int) (n : Nat) : Rp w n n := fun i => by
  unfold cyc
  rw [Nat.add_mod_right]
/-- a period of the finite word that divides its length is one of the word without end -/
theorem rp_of {w : Nat → Int} {n p : Nat} (hp : 0 < p) (hd : p ∣ n) (hn : 0 < n) (h : ∀ i, i + p < n → w i = w (i + p)) : Rp w n p := by
  have red : ∀ k i, i + k * p < n → w (i + k * p) = w i := by
    intro k
    induction k with
    | zero => intro i _; rw [Nat.zero_mul, Nat.add_zero]
    | succ k ih =>
      intro i hi
      rw [Nat.succ_mul] at hi ⊢
      rw [← Nat.add_assoc, ← h (i + k * p) (by omega)]
      exact ih i (by omega)
  have toMod : ∀ i, cyc w n i = w (i % p) := by
    intro i
    unfold cyc
    have h1 : i % n < n := Nat.mod_lt _ hn
    have e : i % n % p + (i % n / p) * p = i % n := by
      rw [Nat.mul_comm]
      exact Nat.mod_add_div _ _
    have h2 := red (i % n / p) (i % n % p) (by rw [e]; exact h1)
    rw [e] at h2
    rw [h2, Nat.mod_mod_of_dvd _ hd]
  intro i
  rw [toMod, toMod, Nat.add_mod_right]
/-- the least repetition: r divides n, the word repeats its first r letters, and no shorter one does -/
structure Least (w : Nat → Int) (n r : Nat) : Prop where
  pos : 0 < r
  dvd : r ∣ n
  rp : Rp w n r
  min : ∀ p, 0 < p → p ∣ n → Rp w n p → r ≤ p
theorem least_of {w : Nat → Int} {n b : Nat} (hn : 0 < n) (h : Lg w n b) : Least w n (if n % (n - b) = 0 then n - b else n) := by
  obtain ⟨⟨hb, h1⟩, h2⟩ := h
  have hs : 0 < n - b := by omega
  -- n - b is the least period of the finite word
  have per : ∀ i, i + (n - b) < n → w i = w (i + (n - b)) := fun i hi => by
    have := h1 i (by omega)
    rw [this]
    congr 1
    omega
  have low : ∀ p, 0 < p → p ≤ n → (∀ i, i + p < n → w i = w (i + p)) → n - b ≤ p := fun p hp hpn hq => by
    have := h2 (n - p) ⟨by omega, fun i hi => by
      have := hq i (by omega)
      rw [this]
      congr 1
      omega⟩
    omega
  have fin : ∀ p, Rp w n p → ∀ i, i + p < n → w i = w (i + p) := fun p hp i hi => by
    have := hp i
    rw [cyc_lt hi, cyc_lt (by omega)] at this
    exact this.symm
  -- a shorter repetition makes n - b a repetition
  have key : ∀ p, 0 < p → p ∣ n → p < n → Rp w n p → n % (n - b) = 0 ∧ n - b ≤ p := by
    intro p hp hd hlt hr
    have le := low p hp (by omega) (fin p hr)
    obtain ⟨q, hq⟩ := hd
    have hq2 : 2 ≤ q := by
      rcases Nat.lt_or_ge q 2 with c | c
      · have : q = 0 ∨ q = 1 := by omega
        rcases this with z | z
        · rw [z] at hq; omega
        · rw [z] at hq; omega
      · exact c
    have h2p : 2 * p ≤ n := by
      rw [hq, Nat.mul_comm 2 p]
      exact Nat.mul_le_mul_left p hq2
    have rs : Rp w n (n - b) := by
      intro i
      have e1 : cyc w n (i + (n - b)) = cyc w n (i % p + (n - b)) := by
        have := hr.mul (i / p) (i % p + (n - b))
        rw [← this]
        congr 1
        have := Nat.mod_add_div i p
        rw [Nat.mul_comm (i / p) p]
        omega
      have hm : i % p < p := Nat.mod_lt _ hp
      rw [e1, hr.mod (i := i), cyc_lt (show i % p + (n - b) < n by omega), cyc_lt (show i % p < n by omega)]
      exact (per _ (by omega)).symm
    -- p is a multiple of n - b
    have hmod : p % (n - b) = 0 := by
      rcases Nat.eq_zero_or_pos (p % (n - b)) with z | z
      · exact z
      · have lt : p % (n - b) < n - b := Nat.mod_lt _ hs
        have rm : Rp w n (p % (n - b)) := by
          intro i
          have a := rs.mul (p / (n - b)) (i + p % (n - b))
          have e : i + p % (n - b) + p / (n - b) * (n - b) = i + p := by
            rw [Nat.mul_comm, Nat.add_assoc, Nat.mod_add_div]
          rw [e] at a
          rw [← a]
          exact hr i
        have := low _ z (by omega) (fin _ rm)
        omega
    refine ⟨?_, le⟩
    exact Nat.mod_eq_zero_of_dvd (Nat.dvd_trans (Nat.dvd_of_mod_eq_zero hmod) ⟨q, hq⟩)
  by_cases c : n % (n - b) = 0
  · rw [if_pos c]
    refine ⟨hs, Nat.dvd_of_mod_eq_zero c, rp_of hs (Nat.dvd_of_mod_eq_zero c) hn per, fun p hp hd hr => ?_⟩
    exact low p hp (Nat.le_of_dvd hn hd) (fin p hr)
  · rw [if_neg c]
    refine ⟨hn, Nat.dvd_refl n, rp_self w n, fun p hp hd hr => ?_⟩
    have le := Nat.le_of_dvd hn hd
    rcases Nat.lt_or_ge p n with l | l
    · exact absurd (key p hp hd l hr).1 c
    · exact l
end Wd
/-! ### min(xs, default=d) of a list of ints: own rule -/
namespace MinD
open PySem PySem.W PyProof.Rows
def kwD (d : Value) : List (Str × Value) := [(Str.ofString "default", d)]
theorem nameL : (toString "min" ++ toString ".loop" : String) = "min.loop" := by decide
section
variable {prog : Program} {w : World} {A : Around} {R : Result → Shared → Prop} {I S : Addr} {fp wr : List Addr} {n : Nat} {P : Nat → Value → Prop} {St : Nat → Heap → Prop} {d : Value}
theorem loopD (W : Walks prog w A.in1 I fp wr n P St) (bt : Nat → Nat → Bool) (cm : CmpOf prog w A.in1 .Lt P bt) (nf : S ∉ fp) :
    ∀ (m j : Nat) (u : Shared) (best : Value) (c : Nat), n - (j + 1) = m → j + 1 ≤ n → St (j + 1) u.heap → P (argBest bt j) best →
    u.heap.get? S = some { cls := .type "list", dict := none, data := .seq #[best, best] c, slots := #[] } →
    (∀ v g tk, P (argBest bt (n - 1)) v → (∀ b o, b ∉ wr → b ≠ S → u.heap.get? b = some o → g.get? b = some o) → R (.ok (.ret v)) { u with heap := g, toks := tk }) →
    codeAny (model prog w) A (.builtin "min.loop" ⟨[.ref I, .none, .ref S], kwD d⟩) R u := by
  have nw : S ∉ wr := fun q => nf (W.sub _ q)
  intro m
  induction m with
  | zero =>
    intro j u best c em hj st pb gS out
    have ej : j + 1 = n := by omega
    refine codeAny_builtin PySem.F.entry_min_loop ?_
    rw [Around.under_plainId PySem.F.plain_min_loop _]
    show wpAny _ A.in1 (seqItems? (.ref S) >>= _) _ _ u
    refine wpAny_bind (wpAny_seqItems gS rfl ?_)
    show wpAny _ A.in1 (tryCatch (pyNext (.ref I)) _ >>= _) _ _ u
    refine wpAny_bind (wpAny_tryCatch (W.done u _ _ (ej ▸ st) fun g tk keep => ?_))
    have gS2 := keep S _ nw gS
    show wpAny _ A.in1 (updateSeq S (fun _ => #[]) >>= _) _ _ _
    refine wpAny_bind (wpAny_updateSeq gS2 rfl (wpAny_bind (wpAny_letGo (wpAny_pure ?_))))
    exact out best _ tk (by rw [← ej]; exact pb) fun b o hb hS e => (Heap.get?_update_other _ _ (Ne.symm hS)).trans (keep b o hb e)
  | succ m ih =>
    intro j u best c em hj st pb gS out
    have lt : j + 1 < n := by omega
    refine codeAny_builtin PySem.F.entry_min_loop ?_
    rw [Around.under_plainId PySem.F.plain_min_loop _]
    show wpAny _ A.in1 (seqItems? (.ref S) >>= _) _ _ u
    refine wpAny_bind (wpAny_seqItems gS rfl ?_)
    show wpAny _ A.in1 (tryCatch (pyNext (.ref I)) _ >>= _) _ _ u
    refine wpAny_bind (wpAny_tryCatch (W.item (j + 1) u _ _ lt st fun v g tk pv st2 keep => ?_))
    have gS2 := keep S _ nw gS
    show wpAny _ A.in1 (tryCatch (holding [v, v] (richCompare .Lt v best >>= _)) _ >>= _) _ _ _
    refine wpAny_bind (wpAny_tryCatch (wpAny_holding (wpAny_bind (cm (j + 1) (argBest bt j) v best _ _ _ pv pb ?_))))
    refine wpAny_bind (wpAny_holding (wpAny_truthy_bool (wpAny_bind (wpAny_letGo (wpAny_pure ?_)))))
    cases hb : bt (j + 1) (argBest bt j) with
    | true =>
      simp only [if_true]
      refine wpAny_bind (wpAny_updateSeq gS2 rfl (wpAny_bind (wpAny_letGo ?_)))
      rw [nameL]
      refine wpAny_pure ⟨plainId_quiet PySem.F.plain_min_loop _, ih (j + 1) _ v _ (by omega) lt (W.frame _ _ _ st2 fun b bf o e => ?_) (by simp only [argBest, hb, if_true]; exact pv) (Heap.get?_update_self _ gS2 rfl)
        fun v2 g2 tk2 p2 keep2 => ?_⟩
      · exact (Heap.get?_update_other _ _ (fun q : S = b => nf (by rw [q]; exact bf))).trans e
      · exact out v2 g2 tk2 p2 fun b o hw hS e => keep2 b o hw hS ((Heap.get?_update_other _ _ (Ne.symm hS)).trans (keep b o hw e))
    | false =>
      simp only [Bool.false_eq_true, if_false]
      refine wpAny_bind (wpAny_letGo ?_)
      rw [nameL]
      exact wpAny_pure ⟨plainId_quiet PySem.F.plain_min_loop _, ih (j + 1) _ best c (by omega) lt st2 (by simp only [argBest, hb, Bool.false_eq_true, if_false]; exact pb) gS2 fun v2 g2 tk2 p2 keep2 =>
        out v2 g2 tk2 p2 fun b o hw hS e => keep2 b o hw hS (keep b o hw e)⟩
theorem firstD (W : Walks prog w A.in1 I fp wr n P St) (bt : Nat → Nat → Bool) (cm : CmpOf prog w A.in1 .Lt P bt) (nf : S ∉ fp) {u : Shared} {c : Nat} (st : St 0 u.heap)
    (gS : u.heap.get? S = some { cls := .type "list", dict := none, data := .seq #[] c, slots := #[] })
    (out : ∀ v g tk, (0 < n → P (argBest bt (n - 1)) v) → (n = 0 → v = d) → (∀ b o, b ∉ wr → b ≠ S → u.heap.get? b = some o → g.get? b = some o) → R (.ok (.ret v)) { u with heap := g, toks := tk }) :
    codeAny (model prog w) A (.builtin "min.loop" ⟨[.ref I, .none, .ref S], kwD d⟩) R u := by
  have nw : S ∉ wr := fun q => nf (W.sub _ q)
  refine codeAny_builtin PySem.F.entry_min_loop ?_
  rw [Around.under_plainId PySem.F.plain_min_loop _]
  show wpAny _ A.in1 (seqItems? (.ref S) >>= _) _ _ u
  refine wpAny_bind (wpAny_seqItems gS rfl ?_)
  show wpAny _ A.in1 (tryCatch (pyNext (.ref I)) _ >>= _) _ _ u
  by_cases h0 : 0 < n
  · refine wpAny_bind (wpAny_tryCatch (W.item 0 u _ _ h0 st fun v g tk pv st2 keep => ?_))
    have gS2 := keep S _ nw gS
    show wpAny _ A.in1 (updateSeq S (fun _ => #[v, v]) >>= _) _ _ _
    refine wpAny_bind (wpAny_updateSeq gS2 rfl ?_)
    rw [nameL]
    refine wpAny_pure ⟨plainId_quiet PySem.F.plain_min_loop _, loopD W bt cm nf _ 0 _ v _ rfl h0 (W.frame _ _ _ st2 fun b bf o e => ?_) pv (Heap.get?_update_self _ gS2 rfl) fun v2 g2 tk2 p2 keep2 => ?_⟩
    · exact (Heap.get?_update_other _ _ (fun q : S = b => nf (by rw [q]; exact bf))).trans e
    · exact out v2 g2 tk2 (fun _ => p2) (fun z => by omega) fun b o hw hS e => keep2 b o hw hS ((Heap.get?_update_other _ _ (Ne.symm hS)).trans (keep b o hw e))
  · have e0 : n = 0 := by omega
    refine wpAny_bind (wpAny_tryCatch (W.done u _ _ (by rw [e0]; exact st) fun g tk keep => ?_))
    show wpAny _ A.in1 (rule _ >>= _) _ _ _
    refine wpAny_bind (wpAny_rule (wpAny_pure ?_))
    exact out d g tk (fun z => absurd z h0) (fun _ => rfl) fun b o hw _ e => keep b o hw e
end
section
variable {prog : Program} {w : World} {A : Around} {E : Value → Shared → Prop} {s : Shared} {d : Value}
theorem args_d (a v : Value) : argsOk "min" ⟨[a], kwD v⟩ := by
  unfold argsOk
  kernel_rfl
theorem callD {l : Addr} {xs : Array (Int × Tok)} {Q : Value → Shared → Prop} (hh : A.handled = none) (hl : s.heap.IsList l (intItems xs))
    (h : ∀ v g tk, (0 < xs.size → (intItems xs)[argBest (fun i j => decide (numAt xs i < numAt xs j)) (xs.size - 1)]? = some v) → (xs.size = 0 → v = d) → (∀ b o, s.heap.get? b = some o → g.get? b = some o) → Q v { s with heap := g, toks := tk }) :
    wpAny (model prog w) A (call (.builtin "min") [.ref l] (kwD d)) Q E s := by
  refine kmk_tree PySem.F.kind_min PySem.F.plain_min PySem.F.entry_min (args_d _ _) ?_
  show wpAny _ A.in1 (Builtin.Builtins.bindParams "min" ["key", "default"] 0 ⟨[], kwD d⟩ >>= _) _ _ s
  refine wpAny_bind (wpAny_of_eq (show Builtin.Builtins.bindParams "min" ["key", "default"] 0 ⟨[], kwD d⟩ = pure [none, some d] from rfl) ?_)
  refine wpAny_bind (wpAny_pure ?_)
  refine wpAny_bind (iter_intList hl fun u eu st hfp hlI => ?_)
  subst eu
  refine wpAny_bind (wpAny_newObj_type ?_)
  rw [nameL]
  refine wpAny_pure ⟨plainId_quiet PySem.F.plain_min_loop _, firstD (Walks.list (A := A.in1) hh _ l hlI (intItems xs)) _ (CmpOf.ints_lt (numAt xs) (fun _ _ => intItems_at)) (fun hm => Nat.lt_irrefl _ (hfp _ hm)) ?_ (Heap.get?_push_size _ rfl) fun v g tk p1 p2 keep => ?_⟩
  · exact (Walks.list (prog := prog) (w := w) (A := A.in1) hh _ l hlI (intItems xs)).frame _ _ _ st fun b _ o e => Heap.get?_push_of_some _ e
  · have hsz : (intItems xs).size = xs.size := by simp [intItems]
    refine h v g tk (fun z => by have := p1 (by rw [hsz]; exact z); rw [hsz] at this; exact this) (fun z => p2 (by rw [hsz]; exact z)) (old_kept (l := l) fun b o hb e => ?_)
    exact keep b o hb (Nat.ne_of_lt (Heap.lt_size e)) (Heap.get?_push_of_some _ e)
end
theorem rawD {prog : Program} {w : World} {A : Around} {E : Value → Shared → Prop} {s : Shared} {l : Addr} {its : List Value} {ns : List Int} {z : Int} {t : Tok} {Q : Value → Shared → Prop} (hh : A.handled = none) (hl : s.heap.IsList l its.toArray) (hi : IntsAre its ns)
    (h : ∀ (g : Heap) (tk : Nat) (m : Int) (t' : Tok), (∀ b o, s.heap.get? b = some o → g.get? b = some o) → (ns = [] → m = z) → (ns ≠ [] → m ∈ ns ∧ ∀ y ∈ ns, m ≤ y) → Q (.int m t') { s with heap := g, toks := tk }) :
    wpAny (model prog w) A (call (.builtin "min") [.ref l] (kwD (.int z t))) Q E s := by
  obtain ⟨xs, e⟩ := hi.allInts.items
  have hn : numsOf (intItems xs).toList = ns := by rw [← e]; exact hi.numsOf
  rw [PySem.nums_intItems] at hn
  subst hn
  rw [e] at hl
  refine callD hh hl fun v g tk p1 p2 keep => ?_
  by_cases c : 0 < xs.size
  · obtain ⟨u, rfl⟩ := intItems_at (p1 c)
    obtain ⟨a1, a2⟩ := argBest_lt (numAt xs) (xs.size - 1)
    refine h g tk _ u keep (fun z => ?_) fun _ => ⟨?_, fun y hy => ?_⟩
    · have q : xs.size = 0 := by simpa using congrArg List.length z
      omega
    · rw [PySem.numAt_eq]
      refine PySem.getD_mem ?_
      rw [List.length_map, Array.length_toList]
      exact Nat.lt_of_le_of_lt a1 (by omega)
    · obtain ⟨j, hj, rfl⟩ := PySem.mem_getD hy
      rw [List.length_map, Array.length_toList] at hj
      rw [← PySem.numAt_eq]
      exact a2 j (by omega)
  · rw [p2 (by omega)]
    refine h g tk z t keep (fun _ => rfl) fun q => absurd ?_ q
    have : xs = #[] := Array.eq_empty_of_size_eq_zero (by omega)
    rw [this]
    rfl
end MinD
namespace Bx
open PySem PySem.Spec PyProof.Rows L2
def rMinD (K : PySem.W.Frag) : List V → List V → Hp → VK → Prop := fun xs zs H Q => ∃ (a : Addr) (ns : List Int) (z : Int), xs = [.ref a] ∧ zs = [.int z] ∧ SqL K H a (ns.map V.int) ∧
  ∀ m, (ns = [] → m = z) → (ns ≠ [] → m ∈ ns ∧ ∀ y ∈ ns, m ≤ y) → Q (.int m) H
theorem call_minD {X : Cx} {K : PySem.W.Frag} (h : X.K = K) (hc : X.calm = true) : CallRK X (.builtin "min") ["default"] (rMinD K) := by
  subst h
  intro pins s σ H xs zs us ws Q I r r2 hw
  obtain ⟨a, ns, z, rfl, rfl, hs, q⟩ := hw
  obtain ⟨its, rv, hl, _⟩ := I.list hs
  rw [Vals.ref1 r]
  obtain ⟨u, rfl, ru⟩ := vals1 r2
  obtain ⟨t, rfl⟩ := ru
  exact MinD.rawD (I.ok.hd hc) hl.isList rv.ints fun g tk m t' hk h1 h2 => ⟨.int m, H, I.kept hk, ⟨_, rfl⟩, q m h1 h2⟩
end Bx
namespace Bx
open PySem PySem.Spec PyProof.Rows L2
/-! ### rules over the written part by its name -/
section
variable {X : Cx} {K : PySem.W.Frag}
theorem ix_tupK (h : X.K = K) : IxR X (rIxT K) := h ▸ ix_tup
theorem ix_listK (h : X.K = K) : IxR X (rIxL K) := h ▸ ix_list
theorem ix_seqK (h : X.K = K) : IxR X (rIx K) := h ▸ ix_seq
def rLen (K : PySem.W.Frag) : List V → Hp → VK → Prop := fun xs H Q => ∃ (p : Addr) (ys : List V), xs = [.ref p] ∧ (SqL K H p ys ∨ SqT K H p ys) ∧ Q (.int ys.length) H
theorem call_lenK (h : X.K = K) : CallR X (.builtin "len") (rLen K) := by
  subst h
  exact call_len_seq
def rTupOf (K : PySem.W.Frag) : List V → Hp → VK → Prop := fun xs H Q => ∃ (p : Addr) (ys : List V), xs = [.ref p] ∧ ((SqL K H p ys ∧ ∀ l, H l = none → Q (.ref l) (upd H l (.tup ys))) ∨ (SqT K H p ys ∧ Q (.ref p) H))
theorem call_tuple_ofK (h : X.K = K) : CallR X (.type "tuple") (rTupOf K) := by
  subst h
  exact call_tuple_of
def rLstOf (K : PySem.W.Frag) : List V → Hp → VK → Prop := fun xs H Q => ∃ (p : Addr) (ys : List V), xs = [.ref p] ∧ (SqL K H p ys ∨ SqT K H p ys) ∧ ∀ l, H l = none → Q (.ref l) (upd H l (.lst ys))
theorem call_list_ofK (h : X.K = K) : CallR X (.type "list") (rLstOf K) := by
  subst h
  exact call_list_of
end
end Bx
/-! ### heaps: what one list at d may lose, all else as it was -/
namespace Bx
open PySem PySem.Spec PyProof.Rows L2
def Kp (d : Addr) (H H' : Hp) : Prop := ∀ b o, b ≠ d → H b = some o → H' b = some o
theorem Kp.refl (d : Addr) (H : Hp) : Kp d H H := fun _ _ _ h => h
theorem Kp.trans {d : Addr} {H H1 H2 : Hp} (a : Kp d H H1) (b : Kp d H1 H2) : Kp d H H2 := fun c o n h => b c o n (a c o n h)
theorem Same.kp {d : Addr} {H H' : Hp} (s : Same H H') : Kp d H H' := fun b o _ h => s b o h
theorem Kp.own {d : Addr} {H : Hp} {o : HO} : Kp d H (upd H d o) := fun b _ n h => by rw [upd_ne n]; exact h
theorem same_new {H : Hp} {p : Addr} {o : HO} (h : H p = none) : Same H (upd H p o) := fun b x e => by
  rw [upd_ne (ne_of_none e h)]
  exact e
theorem Kp.new {d p : Addr} {H : Hp} {o : HO} (h : H p = none) : Kp d H (upd H p o) := Same.kp (same_new h)
theorem upd_self {H : Hp} {d : Addr} {o : HO} (h : H d = some o) : upd H d o = H := by
  funext b
  by_cases e : b = d
  · rw [e, upd_same, h]
  · rw [upd_ne e]
/-- a list of ints at d -/
def Ints (H : Hp) (d : Addr) (xs : List Int) : Prop := H d = some (.lst (xs.map V.int))
/-- the draws: some list of ints -/
def Drw (H : Hp) (d : Addr) : Prop := ∃ ds : List Int, H d = some (.lst (ds.map V.int))
theorem Drw.new {H : Hp} {d p : Addr} {o : HO} (h : Drw H d) (n : H p = none) : Drw (upd H p o) d := by
  obtain ⟨ds, e⟩ := h
  exact ⟨ds, same_new n _ _ e⟩
theorem Drw.own {H : Hp} {d : Addr} {ds : List Int} : Drw (upd H d (.lst (ds.map V.int))) d := ⟨ds, upd_same⟩
theorem Drw.same {H H' : Hp} {d : Addr} (h : Drw H d) (s : Same H H') : Drw H' d := by
  obtain ⟨ds, e⟩ := h
  exact ⟨ds, s _ _ e⟩
/-- a tuple of ints -/
def TupI (H : Hp) (a : Addr) (xs : List Int) : Prop := H a = some (.tup (xs.map V.int))
theorem Drw.ne_tup {H : Hp} {d a : Addr} {xs : List V} (h : Drw H d) (e : H a = some (.tup xs)) : a ≠ d := by
  obtain ⟨ds, e2⟩ := h
  exact ne_of e e2 (by intro z; cases z)
/-- a lasso: a pair of tuples of ints -/
def Las (H : Hp) (p : Addr) (h l : List Int) : Prop := ∃ a b, H p = some (.tup [.ref a, .ref b]) ∧ H a = some (.tup (h.map V.int)) ∧ H b = some (.tup (l.map V.int))
theorem Las.keep {H H' : Hp} {d p : Addr} {h l : List Int} (k : Kp d H H') (w : Drw H d) (x : Las H p h l) : Las H' p h l := by
  obtain ⟨a, b, e1, e2, e3⟩ := x
  exact ⟨a, b, k _ _ (w.ne_tup e1) e1, k _ _ (w.ne_tup e2) e2, k _ _ (w.ne_tup e3) e3⟩
theorem Las.same {H H' : Hp} {p : Addr} {h l : List Int} (k : Same H H') (x : Las H p h l) : Las H' p h l := by
  obtain ⟨a, b, e1, e2, e3⟩ := x
  exact ⟨a, b, k _ _ e1, k _ _ e2, k _ _ e3⟩
theorem lenI {xs : List Int} (h : xs.length ≤ 1000000) : (xs.map V.int).length < sizeLine := by
  rw [List.length_map]
  exact Nat.lt_of_le_of_lt h (by decide)
theorem ixN_at {n j : Nat} (h : j < n) : ixN n (j : Int) = some j := by
  unfold ixN
  rw [if_pos (by omega), if_pos (by omega)]
  rfl
theorem set_mapI {xs : List Int} {j : Nat} {v : Int} : (xs.map V.int).set j (.int v) = (xs.set j v).map V.int := by rw [List.map_set]
/-- a list or a tuple of ints -/
def SeqI (H : Hp) (a : Addr) (xs : List Int) : Prop := H a = some (.lst (xs.map V.int)) ∨ H a = some (.tup (xs.map V.int))
theorem SeqI.sq {K : PySem.W.Frag} {H : Hp} {a : Addr} {xs : List Int} (h : SeqI H a xs) : SqL K H a (xs.map V.int) ∨ SqT K H a (xs.map V.int) := by
  rcases h with h | h
  · exact .inl (.of h)
  · exact .inr (.of h)
theorem SeqI.same {H H' : Hp} {a : Addr} {xs : List Int} (k : Same H H') (h : SeqI H a xs) : SeqI H' a xs := by
  rcases h with h | h
  · exact .inl (k _ _ h)
  · exact .inr (k _ _ h)
/-- a pair of lists or tuples of ints -/
def Pr (H : Hp) (p : Addr) (h l : List Int) : Prop := ∃ a b, H p = some (.tup [.ref a, .ref b]) ∧ SeqI H a h ∧ SeqI H b l
theorem Las.pr {H : Hp} {p : Addr} {h l : List Int} (x : Las H p h l) : Pr H p h l := by
  obtain ⟨a, b, e1, e2, e3⟩ := x
  exact ⟨a, b, e1, .inr e2, .inr e3⟩
theorem Pr.same {H H' : Hp} {p : Addr} {h l : List Int} (k : Same H H') (x : Pr H p h l) : Pr H' p h l := by
  obtain ⟨a, b, e1, e2, e3⟩ := x
  exact ⟨a, b, k _ _ e1, e2.same k, e3.same k⟩
/-- an item -/
theorem ixq {K : PySem.W.Frag} {H : Hp} {a : Addr} {xs : List Int} {i : Int} {j : Nat} {v : V} {Q : VK} (h : SeqI H a xs) (ei : i = (j : Int)) (e : (xs.map V.int)[j]? = some v) (q : Q v H) : rIx K (.ref a) (.int i) H Q := by
  subst ei
  rcases h with h | h
  · exact .inl ⟨_, _, _, _, rfl, rfl, .of h, atI_nat e, q⟩
  · exact .inr (.inl ⟨_, _, _, _, rfl, rfl, .of h, atI_nat e, q⟩)
theorem ixq_last {K : PySem.W.Frag} {H : Hp} {a : Addr} {xs : List Int} {z : Int} {Q : VK} (h : SeqI H a xs) (e : xs.getLast? = some z) (q : Q (.int z) H) : rIx K (.ref a) (.int (-1)) H Q := by
  obtain ⟨ys, rfl⟩ := List.getLast?_eq_some_iff.mp e
  have g : atI ((ys ++ [z]).map V.int) (-1) = some (.int z) := by
    rw [List.map_append]
    exact atI_last _ _
  rcases h with h | h
  · exact .inl ⟨_, _, _, _, rfl, rfl, .of h, g, q⟩
  · exact .inr (.inl ⟨_, _, _, _, rfl, rfl, .of h, g, q⟩)
theorem at_map {xs : List Int} {j : Nat} (h : j < xs.length) : (xs.map V.int)[j]? = some (.int (xs.getD j 0)) := by
  rw [List.getElem?_map, List.getElem?_eq_getElem h, List.getD_eq_getElem?_getD, List.getElem?_eq_getElem h]
  rfl
/-! slices -/
section
variable {X : Cx} {K : PySem.W.Frag}
def rSlQ (K : PySem.W.Frag) : V → Option Int → Option Int → Hp → VK → Prop := fun x lo hi H Q => rSlL K x lo hi H Q ∨ rSlA K x lo hi H Q
theorem sl_seqK (h : X.K = K) : SlR X (rSlQ K) := by
  subst h
  exact sl_list.or sl_tupA
theorem sl_tupK (h : X.K = K) : SlR X (rSlA K) := by
  subst h
  exact sl_tupA
theorem sl_listK (h : X.K = K) : SlR X (rSlL K) := by
  subst h
  exact sl_list
theorem op_catK (h : X.K = K) : OpR X (binaryOp .Add) (rCatA K) := by
  subst h
  exact op_catA
theorem op_repTK (h : X.K = K) : OpR X (binaryOp .Mult) (rRepT K) := by
  subst h
  exact op_repT
theorem op_eqDK (h : X.K = K) (hu : X.A.units + 64 < cLine) : OpR X (compareOp .Eq) (rEqD K) := by
  subst h
  exact op_eqD hu
theorem op_neDK (h : X.K = K) (hu : X.A.units + 64 < cLine) : OpR X (compareOp .NotEq) (rNeD K) := by
  subst h
  exact op_neD hu
theorem call_minK (h : X.K = K) (hc : X.calm = true) : CallR X (.builtin "min") (rMin K) := by
  subst h
  exact cr_min hc
theorem call_isiK' (h : X.K = K) : CallR X (.builtin "isinstance") (rIsi K) := by
  subst h
  exact call_isi
end
theorem cut_map {xs : List Int} {lo hi : Option Int} : cutV (xs.map V.int) lo hi = ((xs.drop (HT.sIx xs.length 0 lo)).take (HT.sIx xs.length xs.length hi - HT.sIx xs.length 0 lo)).map V.int := by
  unfold cutV
  rw [List.length_map, List.map_take, List.map_drop]
/-- a slice of a tuple -/
theorem slt {K : PySem.W.Frag} {H : Hp} {a : Addr} {xs ys : List Int} {lo hi : Option Int} {Q : VK} (h : TupI H a xs) (e : (xs.drop (HT.sIx xs.length 0 lo)).take (HT.sIx xs.length xs.length hi - HT.sIx xs.length 0 lo) = ys)
    (q : ∀ (H' : Hp) (p : Addr), Same H H' → TupI H' p ys → Q (.ref p) H') : rSlA K (.ref a) lo hi H Q := by
  subst e
  refine ⟨a, _, rfl, .of h, fun w => ?_, fun _ p hp => q _ p (same_new hp) ?_⟩
  · refine q H a (Same.refl H) ?_
    rw [List.length_map] at w
    rw [w.1, w.2, List.drop_zero, Nat.sub_zero, List.take_length]
    exact h
  · unfold TupI
    rw [upd_same, cut_map]
/-- a slice of a list or tuple -/
theorem slq {K : PySem.W.Frag} {H : Hp} {a : Addr} {xs ys : List Int} {lo hi : Option Int} {Q : VK} (h : SeqI H a xs) (e : (xs.drop (HT.sIx xs.length 0 lo)).take (HT.sIx xs.length xs.length hi - HT.sIx xs.length 0 lo) = ys)
    (q : ∀ (H' : Hp) (p : Addr), Same H H' → SeqI H' p ys → Q (.ref p) H') : rSlQ K (.ref a) lo hi H Q := by
  rcases h with h | h
  · subst e
    refine .inl ⟨a, _, rfl, .of h, fun p hp => q _ p (same_new hp) (.inl ?_)⟩
    rw [upd_same, cut_map]
  · exact .inr (slt h e fun H' p s t => q H' p s (.inr t))
theorem cut_to (xs : List Int) (n : Nat) : (xs.drop (HT.sIx xs.length 0 none)).take (HT.sIx xs.length xs.length (some (n : Int)) - HT.sIx xs.length 0 none) = xs.take n := by
  rw [HT.sIx_none, HT.sIx_nat, List.drop_zero, Nat.sub_zero]
  rcases Nat.le_total n xs.length with c | c
  · rw [Nat.min_eq_left c]
  · rw [Nat.min_eq_right c, List.take_length, List.take_of_length_le c]
theorem cut_from (xs : List Int) {n : Nat} (hn : n ≤ xs.length) : (xs.drop (HT.sIx xs.length 0 (some (n : Int)))).take (HT.sIx xs.length xs.length none - HT.sIx xs.length 0 (some (n : Int))) = xs.drop n := by
  rw [HT.sIx_none, HT.sIx_nat, Nat.min_eq_left hn]
  exact List.take_of_length_le (by rw [List.length_drop]; exact Nat.le_refl _)
theorem slt_to {K : PySem.W.Frag} {H : Hp} {a : Addr} {xs : List Int} {k : Int} {n : Nat} {Q : VK} (h : TupI H a xs) (ek : k = (n : Int))
    (q : ∀ (H' : Hp) (p : Addr), Same H H' → TupI H' p (xs.take n) → Q (.ref p) H') : rSlA K (.ref a) none (some k) H Q := by
  subst ek
  exact slt h (cut_to xs n) q
theorem slt_from {K : PySem.W.Frag} {H : Hp} {a : Addr} {xs : List Int} {k : Int} {n : Nat} {Q : VK} (h : TupI H a xs) (ek : k = (n : Int)) (hn : n ≤ xs.length)
    (q : ∀ (H' : Hp) (p : Addr), Same H H' → TupI H' p (xs.drop n) → Q (.ref p) H') : rSlA K (.ref a) (some k) none H Q := by
  subst ek
  exact slt h (cut_from xs hn) q
theorem slq_to {K : PySem.W.Frag} {H : Hp} {a : Addr} {xs : List Int} {k : Int} {n : Nat} {Q : VK} (h : SeqI H a xs) (ek : k = (n : Int))
    (q : ∀ (H' : Hp) (p : Addr), Same H H' → SeqI H' p (xs.take n) → Q (.ref p) H') : rSlQ K (.ref a) none (some k) H Q := by
  subst ek
  exact slq h (cut_to xs n) q
theorem slq_mid {K : PySem.W.Frag} {H : Hp} {a : Addr} {xs : List Int} {k k2 : Int} {n m : Nat} {Q : VK} (h : SeqI H a xs) (ek : k = (n : Int)) (ek2 : k2 = (m : Int)) (hn : n ≤ xs.length) (hm : m ≤ xs.length)
    (q : ∀ (H' : Hp) (p : Addr), Same H H' → SeqI H' p ((xs.drop n).take (m - n)) → Q (.ref p) H') : rSlQ K (.ref a) (some k) (some k2) H Q := by
  subst ek
  subst ek2
  refine slq h ?_ q
  rw [HT.sIx_nat, HT.sIx_nat, Nat.min_eq_left hn, Nat.min_eq_left hm]
/-- tuple(x) -/
theorem tupq {K : PySem.W.Frag} {H : Hp} {a : Addr} {xs : List Int} {Q : VK} (h : SeqI H a xs) (q : ∀ (H' : Hp) (p : Addr), Same H H' → TupI H' p xs → Q (.ref p) H') : rTupOf K [.ref a] H Q := by
  rcases h with h | h
  · exact ⟨a, _, rfl, .inl ⟨.of h, fun p hp => q _ p (same_new hp) upd_same⟩⟩
  · exact ⟨a, _, rfl, .inr ⟨.of h, q H a (Same.refl H) h⟩⟩
/-- x + y of tuples -/
theorem catq {K : PySem.W.Frag} {H : Hp} {a b : Addr} {xs ys : List Int} {Q : VK} (h : TupI H a xs) (g : TupI H b ys) (hl : xs.length + ys.length ≤ 1000000) (q : ∀ (H' : Hp) (p : Addr), Same H H' → TupI H' p (xs ++ ys) → Q (.ref p) H') : rCatA K (.ref a) (.ref b) H Q := by
  refine ⟨a, b, _, _, rfl, rfl, .of h, .of g, ?_, fun z => ?_, fun _ z => ?_, fun _ _ p hp => ?_⟩
  · rw [List.length_map, List.length_map]
    exact Nat.le_trans hl (by decide)
  · have e : xs = [] := List.map_eq_nil_iff.mp z
    refine q H b (Same.refl H) ?_
    rw [e]
    exact g
  · have e : ys = [] := List.map_eq_nil_iff.mp z
    refine q H a (Same.refl H) ?_
    rw [e, List.append_nil]
    exact h
  · refine q _ p (same_new hp) ?_
    unfold TupI
    rw [upd_same, List.map_append]
/-- a slice of a list -/
theorem sll_from {K : PySem.W.Frag} {H : Hp} {a : Addr} {xs : List Int} {k : Int} {n : Nat} {Q : VK} (h : H a = some (.lst (xs.map V.int))) (ek : k = (n : Int)) (hn : n ≤ xs.length)
    (q : ∀ p, H p = none → Q (.ref p) (upd H p (.lst ((xs.drop n).map V.int)))) : rSlL K (.ref a) (some k) none H Q := by
  subst ek
  refine ⟨a, _, rfl, .of h, fun p hp => ?_⟩
  rw [cut_map, cut_from xs hn]
  exact q p hp
theorem sll_to {K : PySem.W.Frag} {H : Hp} {a : Addr} {xs : List Int} {k : Int} {n : Nat} {Q : VK} (h : H a = some (.lst (xs.map V.int))) (ek : k = (n : Int))
    (q : ∀ p, H p = none → Q (.ref p) (upd H p (.lst ((xs.take n).map V.int)))) : rSlL K (.ref a) none (some k) H Q := by
  subst ek
  refine ⟨a, _, rfl, .of h, fun p hp => ?_⟩
  rw [cut_map, cut_to xs n]
  exact q p hp
/-! == of data -/
theorem eqvAll_int : ∀ xs ys : List Int, PyData.eqvAll (xs.map PyData.int) (ys.map PyData.int) = decide (xs = ys)
  | [], [] => by simp [PyData.eqvAll]
  | [], y :: ys => by simp [PyData.eqvAll]
  | x :: xs, [] => by simp [PyData.eqvAll]
  | x :: xs, y :: ys => by
    rw [List.map_cons, List.map_cons, PyData.eqvAll, eqvAll_int xs ys, PyData.eqv]
    by_cases c : x = y
    · by_cases d : xs = ys
      · simp [c, d]
      · simp [c, d]
    · simp [c]
theorem eqv_tup (xs ys : List Int) : PyData.eqv (.tuple (xs.map PyData.int)) (.tuple (ys.map PyData.int)) = decide (xs = ys) := by
  rw [PyData.eqv]
  exact eqvAll_int xs ys
theorem eqv_lst (xs ys : List Int) : PyData.eqv (.list (xs.map PyData.int)) (.list (ys.map PyData.int)) = decide (xs = ys) := by
  rw [PyData.eqv]
  exact eqvAll_int xs ys
theorem layAll : ∀ xs : List Int, PyData.canLayAll0 (xs.map PyData.int) = true
  | [] => rfl
  | x :: xs => by
    rw [List.map_cons, PyData.canLayAll0, layAll xs]
    rfl
theorem depAll : ∀ xs : List Int, PyData.depthAll (xs.map PyData.int) = 0
  | [] => by simp [PyData.depthAll]
  | x :: xs => by
    rw [List.map_cons, PyData.depthAll, depAll xs]
    simp [PyData.depth]
theorem shaped_tup (xs : List Int) : SeqAt.shaped (.tuple (xs.map PyData.int)) = true := by
  unfold SeqAt.shaped
  rw [PyData.canLay0, layAll, PyData.depth, depAll]
  rfl
theorem shaped_lst (xs : List Int) : SeqAt.shaped (.list (xs.map PyData.int)) = true := by
  unfold SeqAt.shaped
  rw [PyData.canLay0, layAll, PyData.depth, depAll]
  rfl
theorem dpAll_int {K : PySem.W.Frag} {H : Hp} : ∀ xs : List Int, DpAll K H (xs.map V.int) (xs.map PyData.int)
  | [] => .nil
  | x :: xs => .cons (.int x) (dpAll_int xs)
theorem dp_lst {K : PySem.W.Frag} {H : Hp} {a : Addr} {xs : List Int} (h : H a = some (.lst (xs.map V.int))) : Dp K H (.ref a) (.list (xs.map PyData.int)) := .lst (.of h) (dpAll_int xs)
theorem dp_tup {K : PySem.W.Frag} {H : Hp} {a : Addr} {xs : List Int} (h : TupI H a xs) : Dp K H (.ref a) (.tuple (xs.map PyData.int)) := .tup (.of h) (dpAll_int xs)
theorem ite_ne {x y : Int} {A B : Prop} (h1 : x ≠ y → A) (h2 : x = y → B) : if (!decide (V.int x = V.int y)) = true then A else B := by
  by_cases c : x = y
  · rw [c, decide_eq_true rfl]
    exact iteF (h2 c)
  · rw [decide_eq_false (fun z => c (V.int.inj z))]
    exact iteT (h1 c)
theorem ite_eq {x y : Int} {A B : Prop} (h1 : x = y → A) (h2 : x ≠ y → B) : if decide (V.int x = V.int y) = true then A else B := by
  by_cases c : x = y
  · rw [c, decide_eq_true rfl]
    exact iteT (h1 c)
  · rw [decide_eq_false (fun z => c (V.int.inj z))]
    exact iteF (h2 c)
theorem ite_lt {x y : Int} {A B : Prop} (h1 : x < y → A) (h2 : y ≤ x → B) : if decide (x < y) = true then A else B := by
  by_cases c : x < y
  · rw [decide_eq_true c]
    exact iteT (h1 c)
  · rw [decide_eq_false c]
    exact iteF (h2 (by omega))
/-! ### the letters of a word -/
def wat (h l : List Int) (t : Nat) : Int := if t < h.length then h.getD t 0 else l.getD ((t - h.length) % l.length) 0
theorem wat_head {h l : List Int} {t : Nat} (c : t < h.length) : (h.map V.int)[t]? = some (.int (wat h l t)) := by
  unfold wat
  rw [if_pos c, List.getElem?_map, List.getElem?_eq_getElem c, List.getD_eq_getElem?_getD, List.getElem?_eq_getElem c]
  rfl
theorem wat_loop {h l : List Int} {t : Nat} (c : ¬ t < h.length) (n : l ≠ []) : (l.map V.int)[(t - h.length) % l.length]? = some (.int (wat h l t)) := by
  have hl : 0 < l.length := List.length_pos_iff.mpr n
  have c2 : (t - h.length) % l.length < l.length := Nat.mod_lt _ hl
  unfold wat
  rw [if_neg c, List.getElem?_map, List.getElem?_eq_getElem c2, List.getD_eq_getElem?_getD, List.getElem?_eq_getElem c2]
  rfl
theorem ix_mod {t n m : Nat} (h : n ≤ t) : ((t : Int) - (n : Int)) % (m : Int) = (((t - n) % m : Nat) : Int) := by
  have e : ((t : Int) - (n : Int)) = ((t - n : Nat) : Int) := by omega
  rw [e]
  rfl
/-! ### promises of the helpers -/
def spTake : Sp := fun vs H Q _ => ∃ (d : Addr) (n : Int), vs = [.ref d, .int n] ∧ Drw H d ∧ 0 < n ∧
  ∀ (r : Int) (ds : List Int), 0 ≤ r → r < n → Q (.int r) (upd H d (.lst (ds.map V.int)))
def spDraws (K : PySem.W.Frag) : Sp := fun vs H Q _ => ∃ (a : Addr) (ns : List Int) (c : Nat), vs = [.ref a, .int c] ∧ SqL K H a (ns.map V.int) ∧ c ≤ 1000 ∧
  ∀ (H' : Hp) (d : Addr), Same H H' → H d = none → Drw H' d → Q (.ref d) H'
def spAt : Sp := fun vs H Q _ => ∃ (p : Addr) (h l : List Int) (t : Nat), vs = [.ref p, .int t] ∧ Pr H p h l ∧ l ≠ [] ∧ Q (.int (wat h l t)) H
def spLasso : Sp := fun vs H Q _ => ∃ (d : Addr) (n : Int) (m : Nat), vs = [.ref d, .int n, .int m] ∧ Drw H d ∧ 0 < n ∧ 0 < m ∧ m ≤ 1000 ∧
  ∀ (H' : Hp) (p : Addr) (h l : List Int), Kp d H H' → Drw H' d → Las H' p h l → h.length ≤ m → l ≠ [] → l.length ≤ m → (∀ x ∈ h, 0 ≤ x ∧ x < n) → (∀ x ∈ l, 0 ≤ x ∧ x < n) → Q (.ref p) H'
/-- v says where f and g first differ below n -/
def IsDiff (f g : Nat → Int) (n : Nat) (v : V) : Prop := (v = .non ∧ ∀ t < n, f t = g t) ∨ ∃ t, t < n ∧ v = .int (t : Nat) ∧ f t ≠ g t ∧ ∀ s < t, f s = g s
theorem IsDiff.uniq {f g : Nat → Int} {n : Nat} {v u : V} (a : IsDiff f g n v) (b : IsDiff f g n u) : v = u := by
  rcases a with ⟨rfl, a⟩ | ⟨t, ht, rfl, a1, a2⟩
  · rcases b with ⟨rfl, b⟩ | ⟨s, hs, rfl, b1, b2⟩
    · rfl
    · exact absurd (a s hs) b1
  · rcases b with ⟨rfl, b⟩ | ⟨s, hs, rfl, b1, b2⟩
    · exact absurd (b t ht) a1
    · rcases Nat.lt_trichotomy t s with c | c | c
      · exact absurd (b2 t c) a1
      · rw [c]
      · exact absurd (a2 s c) b1
theorem IsDiff.swap {f g : Nat → Int} {n : Nat} {v : V} (a : IsDiff f g n v) : IsDiff g f n v := by
  rcases a with ⟨rfl, a⟩ | ⟨t, ht, rfl, a1, a2⟩
  · exact .inl ⟨rfl, fun t h => (a t h).symm⟩
  · exact .inr ⟨t, ht, rfl, a1.symm, fun s h => (a2 s h).symm⟩
def dfn (h1 l1 h2 l2 : List Int) : Nat := max h1.length h2.length + l1.length + l2.length
def spFd : Sp := fun vs H Q _ => ∃ (p q : Addr) (h1 l1 h2 l2 : List Int), vs = [.ref p, .ref q] ∧ Las H p h1 l1 ∧ Las H q h2 l2 ∧ l1 ≠ [] ∧ l2 ≠ [] ∧ dfn h1 l1 h2 l2 ≤ 1000000 ∧
  ∀ v, IsDiff (wat h1 l1) (wat h2 l2) (dfn h1 l1 h2 l2) v → Q v H
theorem max_if (a b : Nat) : (if ((b : Nat) : Int) > (a : Int) then (b : Int) else (a : Int)) = ((max a b : Nat) : Int) := by
  by_cases h : ((b : Nat) : Int) > (a : Int)
  · rw [if_pos h]
    omega
  · rw [if_neg h]
    omega
/-- the letters of a list, by places -/
def lw (l : List Int) : Nat → Int := fun i => l.getD i 0
def spPeriod : Sp := fun vs H Q _ => ∃ (a : Addr) (l : List Int), vs = [.ref a] ∧ SeqI H a l ∧ l ≠ [] ∧ l.length ≤ 1000000 ∧
  ∀ (H' : Hp) (r : Nat), Same H H' → Wd.Least (lw l) l.length r → Q (.int r) H'
/-- the normal form (h', l') of (h, l) -/
structure Short (h l h' l' : List Int) : Prop where
  ne : l' ≠ []
  same : ∀ t, wat h' l' t = wat h l t
  hl : h'.length ≤ h.length
  ll : l'.length ≤ l.length
  last : h' ≠ [] → h'.getLast? ≠ l'.getLast?
  prim : ∀ p, 0 < p → p < l'.length → p ∣ l'.length → ∃ i, i + p < l'.length ∧ lw l' i ≠ lw l' (i + p)
  memH : ∀ x ∈ h', x ∈ h
  memL : ∀ x ∈ l', x ∈ l
/-- the letter of the repeated word at any whole number of turns from where it begins -/
def bk (l : List Int) (r : Nat) (z : Int) : Int := lw l ((z % (r : Int)).toNat)
def rot (l : List Int) (r c : Nat) : List Int := (l.drop c).take (r - c) ++ l.take c
theorem rot_len {l : List Int} {r c : Nat} (hc : c < r) (hr : r ≤ l.length) : (rot l r c).length = r := by
  unfold rot
  rw [List.length_append, List.length_take, List.length_drop, List.length_take]
  omega
theorem lw_get {l : List Int} {i : Nat} (h : i < l.length) : l[i]? = some (lw l i) := by
  unfold lw
  rw [List.getD_eq_getElem?_getD, List.getElem?_eq_getElem h]
  rfl
theorem lw_of {l : List Int} {i : Nat} {x : Int} (h : l[i]? = some x) : lw l i = x := by
  unfold lw
  rw [List.getD_eq_getElem?_getD, h]
  rfl
theorem rot_at {l : List Int} {r c j : Nat} (hc : c < r) (hr : r ≤ l.length) (hj : j < r) : lw (rot l r c) j = lw l ((j + c) % r) := by
  apply lw_of
  unfold rot
  have e1 : ((l.drop c).take (r - c)).length = r - c := by
    rw [List.length_take, List.length_drop]
    omega
  rcases Nat.lt_or_ge j (r - c) with h | h
  · rw [List.getElem?_append_left (by rw [e1]; exact h), List.getElem?_take, if_pos h, List.getElem?_drop, Nat.mod_eq_of_lt (by omega), Nat.add_comm c j]
    exact lw_get (by omega)
  · rw [List.getElem?_append_right (by rw [e1]; exact h), e1, List.getElem?_take, if_pos (by omega)]
    have e2 : (j + c) % r = j - (r - c) := by
      rw [Nat.mod_eq_sub_mod (by omega), Nat.mod_eq_of_lt (by omega)]
      omega
    rw [e2]
    exact lw_get (by omega)
theorem bk_shift {l : List Int} {r : Nat} {a b z : Int} (h : a = b + r * z) : bk l r a = bk l r b := by
  unfold bk
  rw [h, Int.add_mul_emod_self_left]
theorem bk_nat {l : List Int} {r t : Nat} : bk l r (t : Int) = lw l (t % r) := rfl
theorem least_le {w : Nat → Int} {n r : Nat} (hn : 0 < n) (L : Wd.Least w n r) : r ≤ n := Nat.le_of_dvd hn L.dvd
/-- the letters of l repeated, by the least repetition -/
theorem cyc_least {l : List Int} {r : Nat} (hn : 0 < l.length) (L : Wd.Least (lw l) l.length r) (i : Nat) : lw l (i % l.length) = bk l r (i : Int) := by
  have h1 : Wd.cyc (lw l) l.length i = Wd.cyc (lw l) l.length (i % r) := L.rp.mod
  have h2 : Wd.cyc (lw l) l.length (i % r) = lw l (i % r) := Wd.cyc_lt (Nat.lt_of_lt_of_le (Nat.mod_lt _ L.pos) (least_le hn L))
  rw [bk_nat, ← h2, ← h1]
  rfl
theorem cut_lt {r : Nat} (hr : 0 < r) (z : Int) : (z % (r : Int)).toNat < r := by
  have h1 := Int.emod_nonneg z (show (r : Int) ≠ 0 by omega)
  have h2 := Int.emod_lt_of_pos z (show (0 : Int) < (r : Int) by omega)
  omega
theorem cut_int {r : Nat} (hr : 0 < r) (z : Int) : (((z % (r : Int)).toNat : Nat) : Int) = z - r * (z / r) := by
  have h1 := Int.emod_nonneg z (show (r : Int) ≠ 0 by omega)
  rw [Int.toNat_of_nonneg h1, Int.emod_def]
theorem rot_bk {l : List Int} {r : Nat} (hr0 : 0 < r) (hr : r ≤ l.length) (z : Int) (j : Nat) : lw (rot l r (z % (r : Int)).toNat) (j % r) = bk l r ((j : Int) + z) := by
  rw [rot_at (cut_lt hr0 z) hr (Nat.mod_lt _ hr0), Nat.mod_add_mod]
  have h : bk l r (((j + (z % (r : Int)).toNat : Nat)) : Int) = bk l r ((j : Int) + z) := bk_shift (z := -(z / r)) (by
    rw [Int.natCast_add, cut_int hr0, Int.mul_neg]
    omega)
  rw [← h]
  rfl
theorem short_of {h l : List Int} {r k : Nat} (hne : l ≠ []) (L : Wd.Least (lw l) l.length r) (hk : k ≤ h.length)
    (hB : ∀ t, k ≤ t → t < h.length → lw h t = bk l r ((t : Int) - (h.length : Int))) (hX : k = 0 ∨ lw h (k - 1) ≠ bk l r ((k : Int) - 1 - (h.length : Int))) :
    Short h l (h.take k) (rot l r (((k : Int) - (h.length : Int)) % (r : Int)).toNat) := by
  have hn : 0 < l.length := List.length_pos_iff.mpr hne
  have hr0 := L.pos
  have hr := least_le hn L
  have hlen := rot_len (cut_lt hr0 ((k : Int) - (h.length : Int))) hr
  have htk : (h.take k).length = k := by
    rw [List.length_take]
    omega
  refine ⟨fun z => ?_, fun t => ?_, by rw [htk]; exact hk, by rw [hlen]; exact hr, fun hh => ?_, fun p hp hpl hpd => ?_, fun x hx => List.mem_of_mem_take hx, fun x hx => ?_⟩
  · rw [z] at hlen
    have : (0 : Nat) = r := hlen
    omega
  · unfold wat
    rw [htk, hlen]
    by_cases c : t < k
    · rw [if_pos c, if_pos (by omega), List.getD_eq_getElem?_getD, List.getD_eq_getElem?_getD, List.getElem?_take, if_pos c]
    · rw [if_neg c]
      have e1 := rot_bk (l := l) hr0 hr ((k : Int) - (h.length : Int)) (t - k)
      have e2 : ((t - k : Nat) : Int) + ((k : Int) - (h.length : Int)) = (t : Int) - (h.length : Int) := by omega
      rw [e2] at e1
      show lw _ _ = _
      rw [e1]
      by_cases d : t < h.length
      · rw [if_pos d]
        exact (hB t (by omega) d).symm
      · rw [if_neg d]
        have e3 : (t : Int) - (h.length : Int) = ((t - h.length : Nat) : Int) := by omega
        rw [e3]
        exact (cyc_least hn L _).symm
  · have hk0 : k ≠ 0 := fun z => hh (by rw [z]; rfl)
    rcases hX with z | z
    · exact absurd z hk0
    · rw [List.getLast?_eq_getElem?, List.getLast?_eq_getElem?, htk, hlen]
      rw [List.getElem?_take, if_pos (by omega), lw_get (show k - 1 < h.length by omega), lw_get (show r - 1 < (rot l r _).length by rw [hlen]; omega)]
      intro q
      refine z ?_
      rw [Option.some.inj q]
      have e1 := rot_bk (l := l) hr0 hr ((k : Int) - (h.length : Int)) (r - 1)
      rw [Nat.mod_eq_of_lt (show r - 1 < r by omega)] at e1
      rw [e1]
      exact bk_shift (z := 1) (by omega)
  · rw [hlen] at hpl hpd ⊢
    apply Classical.byContradiction
    intro hno
    have hall : ∀ i, i + p < r → lw (rot l r (((k : Int) - (h.length : Int)) % (r : Int)).toNat) i = lw (rot l r (((k : Int) - (h.length : Int)) % (r : Int)).toNat) (i + p) := fun i hi =>
      Classical.byContradiction fun q => hno ⟨i, hi, q⟩
    have hrp := Wd.rp_of hp hpd hr0 hall
    have key : ∀ i, Wd.cyc (lw l) l.length i = Wd.cyc (lw (rot l r (((k : Int) - (h.length : Int)) % (r : Int)).toNat)) r (i + (r - (((k : Int) - (h.length : Int)) % (r : Int)).toNat)) := by
      intro i
      have hc := cut_lt hr0 ((k : Int) - (h.length : Int))
      have a1 : Wd.cyc (lw l) l.length i = bk l r (i : Int) := cyc_least hn L i
      have a2 := rot_at hc hr (Nat.mod_lt (i + (r - (((k : Int) - (h.length : Int)) % (r : Int)).toNat)) hr0)
      rw [a1]
      show _ = lw _ (_ % r)
      rw [a2, Nat.mod_add_mod, show i + (r - (((k : Int) - (h.length : Int)) % (r : Int)).toNat) + (((k : Int) - (h.length : Int)) % (r : Int)).toNat = i + r by omega, Nat.add_mod_right]
      rfl
    have hR : Wd.Rp (lw l) l.length p := fun i => by
      rw [key, key, Nat.add_right_comm]
      exact hrp _
    have := L.min p hp (Nat.dvd_trans hpd L.dvd) hR
    omega
  · unfold rot at hx
    rcases List.mem_append.mp hx with z | z
    · exact List.mem_of_mem_drop (List.mem_of_mem_take z)
    · exact List.mem_of_mem_take z
theorem rp_mod {w : Nat → Int} {n p q : Nat} (hp : Wd.Rp w n p) (hq : Wd.Rp w n q) : Wd.Rp w n (q % p) := fun i => by
  have a := hp.mul (q / p) (i + q % p)
  rw [Nat.mul_comm, Nat.add_assoc, Nat.mod_add_div] at a
  rw [← a]
  exact hq i
theorem rp_gcd {w : Nat → Int} {n : Nat} (p q : Nat) : Wd.Rp w n p → Wd.Rp w n q → Wd.Rp w n (Nat.gcd p q) := by
  induction p, q using Nat.gcd.induction with
  | H0 q => intro _ hq; rw [Nat.gcd_zero_left]; exact hq
  | H1 p q hp ih => intro h1 h2; rw [Nat.gcd_rec]; exact ih (rp_mod h1 h2) h1
/-- the normal form -/
structure Nrm (h l : List Int) : Prop where
  ne : l ≠ []
  last : h ≠ [] → h.getLast? ≠ l.getLast?
  prim : ∀ p, 0 < p → p < l.length → p ∣ l.length → ∃ i, i + p < l.length ∧ lw l i ≠ lw l (i + p)
theorem Short.nrm {h l h' l' : List Int} (s : Short h l h' l') : Nrm h' l' := ⟨s.ne, s.last, s.prim⟩
theorem Nrm.pos {h l : List Int} (N : Nrm h l) : 0 < l.length := List.length_pos_iff.mpr N.ne
theorem wat_cyc {h l : List Int} {t : Nat} (c : h.length ≤ t) : wat h l t = Wd.cyc (lw l) l.length (t - h.length) := by
  unfold wat
  rw [if_neg (by omega)]
  rfl
/-- every period that the word has from some turn on is a multiple of the loop's length -/
theorem Nrm.dvd {h l : List Int} (N : Nrm h l) {p M : Nat} (hP : ∀ t, M ≤ t → wat h l (t + p) = wat h l t) : l.length ∣ p := by
  have hr := N.pos
  have hRp : Wd.Rp (lw l) l.length p := fun i => by
    have self := Wd.rp_self (lw l) l.length
    have e1 := self.mul M i
    have e2 := self.mul M (i + p)
    have hM : M ≤ M * l.length := Nat.le_mul_of_pos_right M hr
    have q := hP (h.length + (i + M * l.length)) (by omega)
    rw [wat_cyc (by omega), wat_cyc (by omega)] at q
    rw [show h.length + (i + M * l.length) + p - h.length = i + p + M * l.length by omega, show h.length + (i + M * l.length) - h.length = i + M * l.length by omega, e1, e2] at q
    exact q
  have hg := rp_gcd p l.length hRp (Wd.rp_self (lw l) l.length)
  have gd : Nat.gcd p l.length ∣ l.length := Nat.gcd_dvd_right p l.length
  have gp : 0 < Nat.gcd p l.length := Nat.gcd_pos_of_pos_right p hr
  have gl := Nat.le_of_dvd hr gd
  rcases Nat.lt_or_ge (Nat.gcd p l.length) l.length with c | c
  · obtain ⟨i, hi, hne⟩ := N.prim _ gp c gd
    refine absurd ?_ hne
    have := hg i
    rw [Wd.cyc_lt hi, Wd.cyc_lt (by omega)] at this
    exact this.symm
  · have e : Nat.gcd p l.length = l.length := by omega
    rw [← e]
    exact Nat.gcd_dvd_left p l.length
theorem wat_per {h l : List Int} {t : Nat} (c : h.length ≤ t) : wat h l (t + l.length) = wat h l t := by
  rw [wat_cyc c, wat_cyc (by omega), show t + l.length - h.length = (t - h.length) + l.length by omega]
  exact Wd.rp_self (lw l) l.length _
theorem last_at {l : List Int} (n : l ≠ []) : l.getLast? = some (lw l (l.length - 1)) := by
  have := List.length_pos_iff.mpr n
  rw [List.getLast?_eq_getElem?]
  exact lw_get (by omega)
theorem Nrm.head_le {h l g m : List Int} (N : Nrm h l) (hs : ∀ t, wat h l t = wat g m t) (e : l.length = m.length) : h.length ≤ g.length := by
  rcases Nat.lt_or_ge g.length h.length with c | c
  · exfalso
    have hne : h ≠ [] := List.length_pos_iff.mp (by omega)
    refine N.last hne ?_
    rw [last_at hne, last_at N.ne]
    congr 1
    have hp := N.pos
    have a1 : wat h l (h.length - 1) = lw h (h.length - 1) := by
      unfold wat
      rw [if_pos (by omega)]
      rfl
    have a2 : wat h l (h.length - 1 + l.length) = lw l (l.length - 1) := by
      rw [wat_cyc (by omega), show h.length - 1 + l.length - h.length = l.length - 1 by omega, Wd.cyc_lt (by omega)]
    rw [← a1, ← a2, hs, hs, e]
    exact (wat_per (by omega)).symm
  · exact c
theorem Nrm.uniq {h l g m : List Int} (N : Nrm h l) (M : Nrm g m) (hs : ∀ t, wat h l t = wat g m t) : h = g ∧ l = m := by
  have d1 : l.length ∣ m.length := N.dvd (M := g.length) fun t ht => by
    rw [hs, hs]
    exact wat_per ht
  have d2 : m.length ∣ l.length := M.dvd (M := h.length) fun t ht => by
    rw [← hs, ← hs]
    exact wat_per ht
  have e : l.length = m.length := Nat.dvd_antisymm d1 d2
  have e2 : h.length = g.length := Nat.le_antisymm (N.head_le hs e) (M.head_le (fun t => (hs t).symm) e.symm)
  refine ⟨List.ext_getElem e2 fun i h1 h2 => ?_, List.ext_getElem e fun i h1 h2 => ?_⟩
  · have := hs i
    unfold wat at this
    rw [if_pos h1, if_pos h2, List.getD_eq_getElem?_getD, List.getD_eq_getElem?_getD, List.getElem?_eq_getElem h1, List.getElem?_eq_getElem h2] at this
    exact this
  · have := hs (h.length + i)
    rw [wat_cyc (by omega), wat_cyc (by omega), show h.length + i - h.length = i by omega, show h.length + i - g.length = i by omega, Wd.cyc_lt h1, Wd.cyc_lt h2] at this
    have a1 := lw_get h1
    have a2 := lw_get h2
    rw [List.getElem?_eq_getElem h1] at a1
    rw [List.getElem?_eq_getElem h2] at a2
    rw [Option.some.inj a1, Option.some.inj a2, this]
theorem at_last {l : List Int} (n : l ≠ []) : atI (l.map V.int) (-1) = some (.int (lw l (l.length - 1))) := by
  have hp := List.length_pos_iff.mpr n
  have e : l.map V.int = (l.dropLast.map V.int) ++ [.int (l.getLast n)] := by
    rw [← List.map_singleton, ← List.map_append, List.dropLast_concat_getLast]
  rw [e, atI_last]
  have q := last_at n
  rw [List.getLast?_eq_getLast n] at q
  rw [Option.some.inj q]
/-! repetition of a text -/
theorem flat_at {w : List Int} : ∀ (k i : Nat), i < k * w.length → (List.replicate k w).flatten[i]? = w[i % w.length]?
  | 0, i, h => by
    rw [Nat.zero_mul] at h
    exact absurd h (Nat.not_lt_zero i)
  | k + 1, i, h => by
    rw [List.replicate_succ, List.flatten_cons]
    rcases Nat.lt_or_ge i w.length with c | c
    · rw [List.getElem?_append_left c, Nat.mod_eq_of_lt c]
    · rw [List.getElem?_append_right c, flat_at k (i - w.length) (by rw [Nat.succ_mul] at h; omega), ← Nat.mod_eq_sub_mod c]
theorem flat_per {l : List Int} {p k : Nat} (hp : 0 < p) (hpl : p ≤ l.length) (e : l = (List.replicate k (l.take p)).flatten) (hk : k * p = l.length) : ∀ i, i + p < l.length → lw l i = lw l (i + p) := by
  intro i hi
  have el : (l.take p).length = p := by
    rw [List.length_take]
    omega
  have at_ : ∀ j, j < l.length → l[j]? = (l.take p)[j % p]? := fun j hj => by
    have h0 := flat_at (w := l.take p) k j (by rw [el, hk]; exact hj)
    rw [← e, el] at h0
    exact h0
  have h1 := at_ i (by omega)
  have h2 := at_ (i + p) hi
  rw [Nat.add_mod_right, ← h1, lw_get hi, lw_get (show i < l.length by omega)] at h2
  exact (Option.some.inj h2).symm
def spShort : Sp := fun vs H Q _ => ∃ (a b : Addr) (h l : List Int), vs = [.ref a, .ref b] ∧ SeqI H a h ∧ SeqI H b l ∧ l ≠ [] ∧ h.length ≤ 100000 ∧ l.length ≤ 100000 ∧
  ∀ (H' : Hp) (p : Addr) (h' l' : List Int), Same H H' → Las H' p h' l' → Short h l h' l' → Q (.ref p) H'
/-- what suffix hands back -/
def Suf (h l : List Int) (t : Nat) (h' l' : List Int) : Prop := Nrm h' l' ∧ (∀ i, wat h' l' i = wat h l (t + i)) ∧ h'.length ≤ h.length ∧ l'.length ≤ l.length ∧ (∀ x ∈ h', x ∈ h ∨ x ∈ l) ∧ ∀ x ∈ l', x ∈ l
def spSuffix : Sp := fun vs H Q _ => ∃ (p : Addr) (h l : List Int) (t : Nat), vs = [.ref p, .int t] ∧ Las H p h l ∧ l ≠ [] ∧ h.length ≤ 50000 ∧ l.length ≤ 50000 ∧
  ∀ (H' : Hp) (p' : Addr) (h' l' : List Int), Same H H' → Las H' p' h' l' → Suf h l t h' l' → Q (.ref p') H'
def spMake : Sp := fun vs H Q _ => ∃ (a b : Addr) (h l : List Int), vs = [.ref a, .ref b] ∧ H a = some (.lst (h.map V.int)) ∧ H b = some (.lst (l.map V.int)) ∧ l ≠ [] ∧ h.length ≤ 100000 ∧ l.length ≤ 100000 ∧ (∀ x ∈ h, 0 ≤ x) ∧ (∀ x ∈ l, 0 ≤ x) ∧
  ∀ (H' : Hp) (p : Addr) (h' l' : List Int), Same H H' → Las H' p h' l' → Short h l h' l' → Q (.ref p) H'
theorem suf_drop {h l : List Int} {t : Nat} (c : t < h.length) (i : Nat) : wat (h.drop t) l i = wat h l (t + i) := by
  unfold wat
  rw [List.length_drop]
  by_cases d : t + i < h.length
  · rw [if_pos d, if_pos (by omega), List.getD_eq_getElem?_getD, List.getD_eq_getElem?_getD, List.getElem?_drop]
  · rw [if_neg d, if_neg (by omega), show t + i - h.length = i - (h.length - t) by omega]
theorem suf_turn {h l : List Int} {t : Nat} (hn : l ≠ []) (c : h.length ≤ t) (i : Nat) : wat [] (l.drop ((t - h.length) % l.length) ++ l.take ((t - h.length) % l.length)) i = wat h l (t + i) := by
  have hp : 0 < l.length := List.length_pos_iff.mpr hn
  have hc := Nat.mod_lt (t - h.length) hp
  have e : l.drop ((t - h.length) % l.length) ++ l.take ((t - h.length) % l.length) = rot l l.length ((t - h.length) % l.length) := by
    have e3 : (l.drop ((t - h.length) % l.length)).take (l.length - (t - h.length) % l.length) = l.drop ((t - h.length) % l.length) := List.take_of_length_le (by rw [List.length_drop]; exact Nat.le_refl _)
    unfold rot
    rw [e3]
  rw [e, wat_cyc (Nat.zero_le _), wat_cyc (show h.length ≤ t + i by omega), rot_len hc (Nat.le_refl _)]
  show lw _ (_ % _) = lw _ (_ % _)
  rw [rot_at hc (Nat.le_refl _) (Nat.mod_lt _ hp), Nat.mod_add_mod, Nat.add_mod_mod]
  congr 2
  show i - 0 + _ = _
  omega
def spInts : Sp := fun vs H Q _ => ∃ (a : Addr) (xs : List Int) (lo hi : Int), vs = [.ref a, .int lo, .int hi] ∧ TupI H a xs ∧ (∀ x ∈ xs, lo ≤ x ∧ x < hi) ∧ Q (.bl true) H
def spNormal : Sp := fun vs H Q _ => ∃ (p : Addr) (h l : List Int), vs = [.ref p] ∧ Las H p h l ∧ Nrm h l ∧ l.length ≤ 1000 ∧ ∀ H', Same H H' → Q (.bl true) H'
def spIsLasso : Sp := fun vs H Q _ => ∃ (p : Addr) (h l : List Int) (n : Int), vs = [.ref p, .int n] ∧ Las H p h l ∧ Nrm h l ∧ l.length ≤ 1000 ∧ (∀ x ∈ h, 0 ≤ x ∧ x < n) ∧ (∀ x ∈ l, 0 ≤ x ∧ x < n) ∧ ∀ H', Same H H' → Q (.bl true) H'
/-! the same word in other forms -/
theorem wat_mem {h l : List Int} (n : l ≠ []) (t : Nat) : wat h l t ∈ h ∨ wat h l t ∈ l := by
  have hl : 0 < l.length := List.length_pos_iff.mpr n
  unfold wat
  by_cases c : t < h.length
  · rw [if_pos c, List.getD_eq_getElem?_getD, List.getElem?_eq_getElem c]
    exact .inl (List.getElem_mem c)
  · have c2 := Nat.mod_lt (t - h.length) hl
    rw [if_neg c, List.getD_eq_getElem?_getD, List.getElem?_eq_getElem c2]
    exact .inr (List.getElem_mem c2)
theorem range_getD {f : Nat → Int} {n t : Nat} (c : t < n) : ((List.range n).map f).getD t 0 = f t := by
  rw [List.getD_eq_getElem?_getD, List.getElem?_map, List.getElem?_range c]
  rfl
theorem wat_form {h l : List Int} {m k : Nat} (n : l ≠ []) (hk : 0 < k) (t : Nat) :
    wat ((List.range (h.length + m)).map (wat h l)) ((List.range (k * l.length)).map fun t => wat h l (h.length + m + t)) t = wat h l t := by
  have hl : 0 < l.length := List.length_pos_iff.mpr n
  have hkl : 0 < k * l.length := Nat.mul_pos hk hl
  rw [show wat ((List.range (h.length + m)).map (wat h l)) ((List.range (k * l.length)).map fun t => wat h l (h.length + m + t)) t
      = if t < ((List.range (h.length + m)).map (wat h l)).length then ((List.range (h.length + m)).map (wat h l)).getD t 0 else ((List.range (k * l.length)).map fun t => wat h l (h.length + m + t)).getD ((t - ((List.range (h.length + m)).map (wat h l)).length) % ((List.range (k * l.length)).map fun t => wat h l (h.length + m + t)).length) 0 from rfl]
  rw [List.length_map, List.length_range, List.length_map, List.length_range]
  by_cases c : t < h.length + m
  · rw [if_pos c, range_getD c]
  · rw [if_neg c, range_getD (Nat.mod_lt _ hkl), wat_cyc (by omega), wat_cyc (by omega)]
    show lw l (_ % _) = lw l (_ % _)
    congr 1
    have e1 : h.length + m + (t - (h.length + m)) % (k * l.length) - h.length = m + (t - (h.length + m)) % (k * l.length) := by omega
    have e2 : t - h.length = m + (t - (h.length + m)) := by omega
    rw [e1, e2, ← Nat.add_mod_mod, Nat.mod_mod_of_dvd _ ⟨k, Nat.mul_comm k l.length⟩, Nat.add_mod_mod]
theorem wat_front (f h l : List Int) (i : Nat) : wat (f ++ h) l (f.length + i) = wat h l i := by
  unfold wat
  rw [List.length_append]
  by_cases c : i < h.length
  · rw [if_pos c, if_pos (by omega), List.getD_eq_getElem?_getD, List.getD_eq_getElem?_getD, List.getElem?_append_right (by omega), Nat.add_sub_cancel_left]
  · rw [if_neg c, if_neg (by omega), show f.length + i - (f.length + h.length) = i - h.length by omega]
def dLas (h l : List Int) : PyData := .tuple [.tuple (h.map PyData.int), .tuple (l.map PyData.int)]
theorem dp_las {K : PySem.W.Frag} {H : Hp} {p : Addr} {h l : List Int} (x : Las H p h l) : Dp K H (.ref p) (dLas h l) := by
  obtain ⟨a, b, e1, e2, e3⟩ := x
  exact .tup (.of e1) (.cons (dp_tup e2) (.cons (dp_tup e3) .nil))
theorem shaped_las (h l : List Int) : SeqAt.shaped (dLas h l) = true := by
  unfold SeqAt.shaped dLas
  rw [PyData.canLay0, PyData.canLayAll0, PyData.canLayAll0, PyData.canLayAll0, PyData.canLay0, layAll, PyData.canLay0, layAll, PyData.depth, PyData.depthAll, PyData.depthAll, PyData.depthAll, PyData.depth, depAll, PyData.depth, depAll]
  rfl
theorem eqv_las (h l : List Int) : PyData.eqv (dLas h l) (dLas h l) = true := by
  unfold dLas
  rw [PyData.eqv, PyData.eqvAll, PyData.eqvAll, PyData.eqvAll, eqv_tup, eqv_tup]
  simp
def spCell (K : PySem.W.Frag) : Sp := fun vs H Q _ => ∃ (a : Addr) (ns : List Int) (k : Nat), vs = [.ref a, .int k] ∧ SqL K H a (ns.map V.int) ∧ ∀ v : Int, Q (.int v) H
def spNegX (C : Addr) : Sp := fun vs H _ E => ∃ (p : Addr) (t : Int), vs = [.ref p, .int t] ∧ t < 0 ∧ E (.ref C) none H
def spRefuses : Sp := fun vs H Q _ => ∃ (p : Addr) (t : Int), vs = [.ref p, .int t] ∧ t < 0 ∧ Q (.bl true) H
def spSame : Sp := fun vs H Q _ => ∃ (p q : Addr) (h l h2 l2 : List Int), vs = [.ref p, .ref q] ∧ Pr H p h l ∧ Pr H q h2 l2 ∧ l ≠ [] ∧ l2 ≠ [] ∧ dfn h l h2 l2 ≤ 1000000 ∧ (∀ t, wat h l t = wat h2 l2 t) ∧ Q (.bl true) H
def spMakeX (cE cL : Addr) : Sp := fun vs H Q E => ∃ (a b : Addr) (h l : List Int), vs = [.ref a, .ref b] ∧ H a = some (.lst (h.map V.int)) ∧ H b = some (.lst (l.map V.int)) ∧ h.length ≤ 100000 ∧ l.length ≤ 100000 ∧
  (l = [] → E (.ref cE) none H) ∧ (l ≠ [] → (∃ x, (x ∈ h ∨ x ∈ l) ∧ x < 0) → E (.ref cL) none H) ∧
  (l ≠ [] → (∀ x, x ∈ h ∨ x ∈ l → 0 ≤ x) → ∀ (H' : Hp) (p : Addr) (h' l' : List Int), Same H H' → Las H' p h' l' → Short h l h' l' → Q (.ref p) H')
def spOut : Sp := fun vs H Q _ => ∃ (a b : Addr) (h l : List Int), vs = [.ref a, .ref b] ∧ H a = some (.lst (h.map V.int)) ∧ H b = some (.lst (l.map V.int)) ∧ h.length ≤ 100000 ∧ l.length ≤ 100000 ∧
  (l = [] → ∀ (H' : Hp) (p : Addr), Same H H' → H' p = some (.tup [.str "empty", .bl true]) → Q (.ref p) H') ∧
  (l ≠ [] → (∃ x, (x ∈ h ∨ x ∈ l) ∧ x < 0) → ∀ (H' : Hp) (p : Addr), Same H H' → H' p = some (.tup [.str "letter", .bl true]) → Q (.ref p) H') ∧
  (l ≠ [] → (∀ x, x ∈ h ∨ x ∈ l → 0 ≤ x) → ∀ (H' : Hp) (p q : Addr) (h' l' : List Int), Same H H' → H' p = some (.tup [.str "lasso", .ref q]) → Las H' q h' l' → Short h l h' l' → Q (.ref p) H')
theorem neg_cases (h l : List Int) : (∃ x, (x ∈ h ∨ x ∈ l) ∧ x < 0) ∨ ∀ x, x ∈ h ∨ x ∈ l → 0 ≤ x := by
  by_cases c : ∃ x, (x ∈ h ∨ x ∈ l) ∧ x < 0
  · exact .inl c
  · exact .inr fun x hx => by
      rcases Int.lt_or_le x 0 with z | z
      · exact absurd ⟨x, hx, z⟩ c
      · exact z
def spIsInt : Sp := fun vs H Q _ => ∃ (i : Int), vs = [.int i] ∧ Q (.bl true) H
end Bx
/-! ### own errors, two levels below ValueError -/
namespace Bx
open PySem PySem.Spec PyProof.Rows L2
abbrev veB : List Value := [.type "ValueError", .type "Exception", .type "BaseException", .type "object"]
structure ErrC (K : PySem.W.Frag) (mg : Str → Option Value) (x : Str) (C : Addr) : Prop where
  g : mg x = some (.ref C)
  ex : PySem.W.excIn K C veB "ValueError.__new__" = true
  kp : PySem.W.keepIn K (.ref C) = true
  ty : PySem.W.typeIn K (.ref C) = some (.type "type")
  sf : PySem.W.subIn K (.ref C) (.ref C) = some true
  ec : ExcC K C
theorem ErrC.exm {K : PySem.W.Frag} {mg : Str → Option Value} {x : Str} {C : Addr} {cls : Value} {b : Bool} (e : ErrC K mg x C) (h : PySem.W.subIn K cls (.ref C) = some b) : PySem.W.exmOne K cls (.ref C) = some b := PySem.W.exm_ref e.ec.hs e.ec.hd e.ty h
theorem ErrC.me {K : PySem.W.Frag} {mg : Str → Option Value} {x : Str} {C : Addr} (e : ErrC K mg x C) : PySem.W.exmOne K (.ref C) (.ref C) = some true := e.exm e.sf
/-- raise X('..') -/
theorem ErrC.made {X : Cx} {C : Addr} {x m : Str} {j : Nat} {p p2 pos : Pos} (e : ErrC X.K X.mg x C) (hg : Gl X x) (hd : (x == ("__debug__" : Str)) = false := by decide) : PMk X (.Call (.Name x p) [.Constant (.str m) j p2] [] pos) (fun _ H Q => Q (.ref C) none H) :=
  pmk_own PySem.F.excBase_ValueError e.ex e.g e.kp (raises_own e.ec.hs e.ty) hg hd
/-- isinstance(e, c), e the exception that the suite holds -/
def rIsEx (K : PySem.W.Frag) (a : Addr) (cls : Value) (d : Option Addr) : List V → Hp → VK → Prop := fun xs H Q => ∃ D : Addr, cls = .ref D ∧ d = none ∧ ExcC K D ∧ rIsE K D a xs H Q
theorem call_isEx {X : Cx} {K : PySem.W.Frag} {a : Addr} {cls : Value} {d : Option Addr} {oe : Obj} {pn : List (Addr × Obj)} (h : X.K = K) (hz : Zc cls d oe) (hf : ∃ vs, oe.data = .fields vs) : CallR (X.suite a ((a, oe) :: pn)) (.builtin "isinstance") (rIsEx K a cls d) := by
  subst h
  intro pins s σ H xs us Q I r hw
  obtain ⟨D, rfl, rfl, C, hw⟩ := hw
  exact call_isE C hz hf pins s σ H xs us Q I r hw
/-- a def that may raise, by its name -/
structure CalX (P : Program) (w : World) (K : PySem.W.Frag) (mg : Str → Option Value) (base : Heap) (k : Nat) (x : Str) (sp : Sp) : Prop where
  ex : ∃ (f : Addr) (fd : FuncData) (ps : List Str), FnOk P w K mg base (L2.CX P w) k f fd ps sp ∧ mg x = some (.ref f) ∧ PySem.W.keepIn K (.ref f) = true ∧ Binds K fd ps []
theorem pe_cx {X : Cx} {k j : Nat} {x : Str} {sp : Sp} {W : WX} {p pos : Pos} {e : Expr} {es : List Expr} {t : TA} (c : CalX X.prog X.w X.K X.mg X.base k x sp) (hr : Room j X.A) (hk : k ≤ j) (tk : Takes X W) (hg : Gl X x) (ha : PA X (e :: es) t)
    (hdb : (x == ("__debug__" : Str)) = false := by decide) (he : starEach (e :: es) X.env = (false, eval e X.env) :: starEach es X.env := by rfl) (hpl : (backTo pos (starEach es X.env)).any (·.1) = false := by rfl) :
    PE X (.Call (.Name x p) (e :: es) [] pos) (tCallS sp (WE W) t) := by
  obtain ⟨f, fd, ps, F, hm, kp, b⟩ := c.ex
  exact pe_callS F (hr.mono hk) hg hm kp b (fun σ => passAt tk σ) ha hdb he hpl
end Bx
/-! ### several clauses, each with its name: own rule -/
namespace Bx
open PySem PySem.Spec PyProof.Rows L2
/-- what the clauses wish, one after the other: (class, the name's slot, the suite's reading) -/
def wAll (K : PySem.W.Frag) (Wo : WX) (D : Ends) : List (Value × Nat × (Addr → Value → Option Addr → TS)) → WX
  | [] => Wo
  | (c, i, ts) :: r => fun cls d σ H => ∃ b, PySem.W.exmOne K cls c = some b ∧
    (b = true → ∀ a, H a = none → ts a cls d { nx := fun σ' H' => D.nx (σ'.set i none) H', rt := D.rt, bk := fun σ' H' => D.bk (σ'.set i none) H', ct := fun σ' H' => D.ct (σ'.set i none) H' } (σ.set i (some (.ref a))) H) ∧
    (b = false → wAll K Wo D r cls d σ H)
inductive Clauses (Y : Cx) : List ExceptHandler → List (Value × Nat × (Addr → Value → Option Addr → TS)) → Prop
  | nil : Clauses Y [] []
  | cons {x n : Str} {c : Value} {i : Nat} {ts : Addr → Value → Option Addr → TS} {b0 : Stmt} {suite : List Stmt} {p p' : Pos} {cs : List ExceptHandler} {l : List (Value × Nat × (Addr → Value → Option Addr → TS))}
      (hc : Names Y x c) (hi : Y.N[i]? = some n) (hl : Y.env.kindOf n = some .local)
      (su : ∀ (a : Addr) (oe : Obj) (cls : Value) (d : Option Addr) (pn : List (Addr × Obj)), Zc cls d oe → (∃ vs, oe.data = .fields vs) → PSs (Y.suite a ((a, oe) :: pn)) (b0 :: suite) (ts a cls d)) (r : Clauses Y cs l) :
      Clauses Y (.ExceptHandler (some (.Name x p)) (some n) (b0 :: suite) p' :: cs) ((c, i, ts) :: l)
theorem ps_try_all {Y : Cx} {body : List Stmt} {c0 : ExceptHandler} {cs : List ExceptHandler} {l : List (Value × Nat × (Addr → Value → Option Addr → TS))} {pos : Pos} {tb : WX → TS} {Wo : WX}
    (ks : Y.stack = Y.env :: Y.outer) (kf : Y.env.frame = some Y.env.locals) (kN : Y.N.Nodup) (tk : Takes Y Wo)
    (kb : ∀ (W : WX) (pn : List (Addr × Obj)) (xe : Value → Shared → Prop), Takes (Y.tr pn xe) W → PassesOwn (model Y.prog Y.w) Y.A Y.env xe → PSs (Y.tr pn xe) body (tb W))
    (kh : Clauses Y (c0 :: cs) l) : PS Y (.Try body (c0 :: cs) [] [] pos) (fun D σ H => tb (wAll Y.K Wo D l) D σ H) := by
  refine ⟨fun pins u σ H D I hw => ?_⟩
  have okY := I.ok
  have fr := okY.frames
  rw [ks] at fr
  refine wpAny_Try_except ?_
  refine wpAny_mono ((kb (wAll Y.K Wo D l) (Y.pn ++ pins) (fun e u1 => wpAny (model Y.prog Y.w) Y.A (noteFrame e Y.env) (fun _ u2 => wpAny (model Y.prog Y.w) Y.A (setFlight e none) (fun _ u3 =>
    wpAny (model Y.prog Y.w) Y.A (handleBy e Y.env (c0 :: cs)) (SP Y pins D) Y.xe u3) Y.xe u2) Y.xe u1) (fun v g xx => ?_) PassesOwn.looking).run [] u σ H D (I.toTry _) hw) (fun f u1 q => ?_) (fun e u1 q => q)
  · obtain ⟨a, B, sI, pins1, σ1, H1, cls, d, rfl, Jt, nb, up, sk, na, os, ag, w⟩ := xx
    have J : Inv Y pins σ1 H1 sI := Jt.ofTry okY
    have sk1 : Sky B (Y.env :: Y.outer) a (Zc cls d) Y.env.locals g.heap := by rw [← ks]; exact sk
    show wpAny (model Y.prog Y.w) Y.A (noteFrame (.ref a) Y.env) _ _ _
    refine Sky.land Zc.steady fr kf sk1 fun g3 f3 u3 => ?_
    have I3 : Inv Y pins σ1 H1 { g with heap := g3 } := J.landed nb f3.1 (up.trans u3) os ag
    obtain ⟨o3, w3, at3, z3, dt3⟩ := f3.there
    have apart : ∀ {t : Heap} {o : Obj} {vs : Array Value}, t.FunFrames B (Y.env :: Y.outer) → t.get? a = some o → o.data = .fields vs → a ∉ frs (Y.env :: Y.outer) := fun {t o vs} ff e dd hm => by
      obtain ⟨_, o2, e2, q2⟩ := ff.mem hm
      rw [e] at e2
      cases e2
      exact q2 _ dd
    have n0 := apart f3.2.2.1 at3 dt3
    have nL : a ≠ Y.env.locals := fun z => n0 (List.mem_filterMap.mpr ⟨Y.env, List.mem_cons_self, by rw [kf, z]⟩)
    have nF : a ∉ Y.fs := fun hm => by
      obtain ⟨e, he, q⟩ := List.mem_filterMap.mp hm
      exact n0 (List.mem_filterMap.mpr ⟨e, List.mem_cons_of_mem _ he, q⟩)
    have T3 := I3.suite at3 dt3 na nL nF
    have all : ∀ {cs2 : List ExceptHandler} {l2 : List (Value × Nat × (Addr → Value → Option Addr → TS))}, Clauses Y cs2 l2 → wAll Y.K Wo D l2 cls d σ1 H1 →
        wpAny (model Y.prog Y.w) Y.A (handleBy (.ref a) Y.env cs2) (SP Y pins D) Y.xe { g with heap := g3 } := by
      intro cs2 l2 hk
      induction hk with
      | nil =>
        intro w
        refine wpAny_handleBy_nil ?_
        obtain ⟨_, _, _, oe, vs, T, oT, t2, he, hz, hd, h1, _⟩ := id f3
        unfold PySem.passOn
        refine wpAny_bind (wpAny_field he hd h1 ?_)
        rw [if_neg (show ¬ ((Value.ref T == Value.none) = true) from by simp)]
        have away : wpAny (model Y.prog Y.w) Y.A (setFlight (.ref a) Y.env.frame) (fun _ u4 => wpAny (model Y.prog Y.w) Y.A (throw (.ref a) : Sem Flow) (SP Y pins D) Y.xe u4) Y.xe { g with heap := g3 } := by
          rw [kf]
          refine HandSPX.setFlight_upZ f3 fun g4 q4 u4 => wpAny_throw (tk _ _ ?_)
          exact ⟨a, B, sI, pins, σ1, H1, cls, d, rfl, J, nb, (up.trans u3).trans u4, .inr (.inr (by rw [ks]; exact q4)), na, os, ag, w⟩
        first
          | exact wpAny_bind (wpAny_pure (wpAny_bind away))
          | exact wpAny_bind away
      | @cons x n c i ts b0 suite p p' cs3 l3 hc hi hl su r ih =>
        intro w
        obtain ⟨b, e1, yes, no⟩ := w
        refine wpAny_handleBy_cons (codeAny_handlers_test ?_) (by intro q; cases q)
        have LT : PySem.W.Looks (model Y.prog Y.w) g3 (typeOf (.ref a)) cls := fun A Q E s k q => wpAny_typeOf_ref (k _ _ at3) (by rw [z3.1]; exact q)
        have LM := PySem.W.exm_one (M := model Y.prog Y.w) (I3.kIn) LT e1
        have test : ∀ {Q : Value → Shared → Prop} {E : Value → Shared → Prop}, Q c { g with heap := g3 } → wpAny (model Y.prog Y.w) (Y.A.mark (some (.ref a))) (eval (.Name x p) Y.env) Q E { g with heap := g3 } := fun {Q E} q => by
          obtain ⟨hg, hdb, hm | ⟨hm, hv, hnn⟩⟩ := hc
          · exact ld_glob (X := Y.suite a ((a, o3) :: (Y.pn ++ pins))) T3 hg hm q hdb
          · exact ld_blt (X := Y.suite a ((a, o3) :: (Y.pn ++ pins))) T3 hg hm hv q hnn hdb
        refine test (LM.here ?_)
        cases b with
        | true =>
          refine codeAny_handlers_suite_as ?_
          refine HandSPX.lands_againZ f3 fun g4 f4 u4 => ?_
          have I4 : Inv Y pins σ1 H1 { g with heap := g4 } := J.landed nb f4.1 ((up.trans u3).trans u4) os ag
          obtain ⟨o4, w4, at4, z4, dt4⟩ := f4.there
          have T4 := I4.suite at4 dt4 na nL nF
          refine store_ok (X := Y.suite a ((a, o4) :: (Y.pn ++ pins))) (v := .ref a) T4 kN hi (.inl hl) rfl (fun u5 T5 => ?_) (.inr hl)
          refine wpAny_mono ((su a o4 cls d (Y.pn ++ pins) z4 ⟨_, dt4⟩).run [] u5 _ H1 _ T5 (yes rfl a na)) (fun f u6 q => ?_) (fun _ _ z => False.elim z)
          have fin : ∀ {σ6 : L2.St} {H6 : Hp} {Q : Shared → Prop}, Inv (Y.suite a ((a, o4) :: (Y.pn ++ pins))) [] σ6 H6 u6 → (∀ u7, Inv Y pins (σ6.set i none) H6 u7 → Q u7) →
              wpAny (model Y.prog Y.w) Y.A (do bindName Y.env n .none; unbindBehindTheSuite Y.env n p') (fun _ u7 => Q u7) Y.xe u6 := fun {σ6 H6 Q} T6 hq => gone_ok (T6.unsuite okY) kN hi hl hq
          cases f with
          | next =>
            obtain ⟨_, _, T6, q6⟩ := q
            exact fin T6 fun _ I7 => ⟨_, _, I7, q6⟩
          | brk =>
            obtain ⟨_, _, T6, q6⟩ := q
            exact fin T6 fun _ I7 => ⟨_, _, I7, q6⟩
          | cont =>
            obtain ⟨_, _, T6, q6⟩ := q
            exact fin T6 fun _ I7 => ⟨_, _, I7, q6⟩
          | ret v =>
            obtain ⟨_, _, _, T6, r6, q6⟩ := q
            exact fin T6 fun _ I7 => ⟨_, _, _, I7, r6, q6⟩
        | false =>
          show wpAny _ Y.A (handleBy (.ref a) Y.env cs3) _ _ _
          exact ih (no rfl)
    exact all kh w
  · cases f with
    | next =>
      obtain ⟨_, _, J1, q1⟩ := q
      exact wpAny_execs_nil ⟨_, _, J1.ofTry okY, q1⟩
    | brk =>
      obtain ⟨_, _, J1, q1⟩ := q
      exact ⟨_, _, J1.ofTry okY, q1⟩
    | cont =>
      obtain ⟨_, _, J1, q1⟩ := q
      exact ⟨_, _, J1.ofTry okY, q1⟩
    | ret v =>
      obtain ⟨_, _, _, J1, r1, q1⟩ := q
      exact ⟨_, _, _, J1.ofTry okY, r1, q1⟩
end Bx
/-! ### max of a tuple of ints, lcm: own rules -/
namespace MaxT
open PySem PySem.W PyProof.Rows
section
variable {prog : Program} {w : World} {A : Around} {E : Value → Shared → Prop} {s : Shared}
theorem walkT {l : Addr} {xs : Array (Int × Tok)} {Q : Value → Shared → Prop} (hh : A.handled = none) (ht : s.heap.IsTuple l (intItems xs)) (hne : 0 < xs.size)
    (h : ∀ v g tk, (intItems xs)[argBest (fun i j => decide (numAt xs i > numAt xs j)) (xs.size - 1)]? = some v → (∀ b o, s.heap.get? b = some o → g.get? b = some o) → Q v { s with heap := g, toks := tk }) :
    wpAny (model prog w) A (call (.builtin "max") [.ref l]) Q E s := by
  have ll : l < s.heap.objs.size := by
    obtain ⟨_, e, _⟩ := ht
    exact Heap.lt_size e
  refine call_max_walk (wpAny_pyIter_tuple ht ?_)
  refine ⟨_, _, _, _, _, _, _, rfl, Walks.tuple (A := A.in1) hh _ l (Nat.ne_of_lt ll) (intItems xs), ⟨⟨_, Heap.get?_push_size _ rfl, rfl, rfl⟩, ht.push _⟩, fun c hc => ?_, by simpa [intItems] using hne, CmpOf.ints_gt (numAt xs) (fun _ _ => intItems_at), fun v g tk hP hk => ?_⟩
  · show c < (s.heap.push _).objs.size
    rw [Heap.size_push]
    rcases List.mem_cons.mp hc with rfl | hc
    · exact Nat.lt_succ_self _
    · rcases List.mem_cons.mp hc with rfl | hc
      · exact Nat.lt_succ_of_lt ll
      · cases hc
  · refine h v g tk (by simpa [intItems] using hP) fun b o e => hk b o (fun hm => ?_) (Heap.get?_push_of_some _ e)
    have e1 : b = s.heap.objs.size := List.mem_singleton.mp hm
    rw [e1] at e
    exact absurd (Heap.lt_size e) (Nat.lt_irrefl _)
theorem rawT {l : Addr} {its : List Value} {ns : List Int} {Q : Value → Shared → Prop} (hh : A.handled = none) (hl : IsTup s.heap l its.toArray) (hi : IntsAre its ns) (hne : ns ≠ [])
    (h : ∀ (g : Heap) (tk : Nat) (m : Int) (t' : Tok), (∀ b o, s.heap.get? b = some o → g.get? b = some o) → m ∈ ns → (∀ y ∈ ns, y ≤ m) → Q (.int m t') { s with heap := g, toks := tk }) :
    wpAny (model prog w) A (call (.builtin "max") [.ref l]) Q E s := by
  obtain ⟨xs, e⟩ := hi.allInts.items
  have hn : numsOf (intItems xs).toList = ns := by rw [← e]; exact hi.numsOf
  rw [PySem.nums_intItems] at hn
  subst hn
  rw [e] at hl
  have c : 0 < xs.size := by
    rcases Nat.eq_zero_or_pos xs.size with z | z
    · refine absurd ?_ hne
      have : xs = #[] := Array.eq_empty_of_size_eq_zero z
      rw [this]
      rfl
    · exact z
  refine walkT hh hl c fun v g tk p1 keep => ?_
  obtain ⟨u, rfl⟩ := intItems_at p1
  obtain ⟨a1, a2⟩ := argBest_gt (numAt xs) (xs.size - 1)
  refine h g tk _ u keep ?_ fun y hy => ?_
  · rw [PySem.numAt_eq]
    refine PySem.getD_mem ?_
    rw [List.length_map, Array.length_toList]
    exact Nat.lt_of_le_of_lt a1 (by omega)
  · obtain ⟨j, hj, rfl⟩ := PySem.mem_getD hy
    rw [List.length_map, Array.length_toList] at hj
    rw [← PySem.numAt_eq]
    exact a2 j (by omega)
end
end MaxT
namespace Bx
open PySem PySem.Spec PyProof.Rows L2
def rMaxT (K : PySem.W.Frag) : List V → Hp → VK → Prop := fun xs H Q => ∃ (a : Addr) (ns : List Int), xs = [.ref a] ∧ SqT K H a (ns.map V.int) ∧ ns ≠ [] ∧ ∀ m, m ∈ ns → (∀ y ∈ ns, y ≤ m) → Q (.int m) H
theorem call_maxT {X : Cx} {K : PySem.W.Frag} (h : X.K = K) (hc : X.calm = true) : CallR X (.builtin "max") (rMaxT K) := by
  subst h
  intro pins s σ H xs us Q I r hw
  obtain ⟨a, ns, rfl, hs, hne, q⟩ := hw
  obtain ⟨its, rv, ht, _⟩ := I.tuple hs
  rw [Vals.ref1 r]
  exact MaxT.rawT (I.ok.hd hc) ht rv.ints hne fun g tk m t' hk h1 h2 => ⟨.int m, H, I.kept hk, ⟨_, rfl⟩, q m h1 h2⟩
theorem call_maxK {X : Cx} {K : PySem.W.Frag} (h : X.K = K) (hc : X.calm = true) : CallR X (.builtin "max") (rMax K) := by
  subst h
  exact cr_max hc
def spCheckX (cL : Addr) : Sp := fun vs H Q E => ∃ (p : Addr) (h l : List Int) (n : Int), vs = [.ref p, .int n] ∧ Las H p h l ∧ l ≠ [] ∧ h.length ≤ 1000 ∧ l.length ≤ 1000 ∧
  ((∃ x, (x ∈ h ∨ x ∈ l) ∧ n ≤ x) → ∀ H', Same H H' → E (.ref cL) none H') ∧ ((∀ x, x ∈ h ∨ x ∈ l → x < n) → ∀ H', Same H H' → Q .non H')
end Bx
/-! ### lists of lists, instances made in a try: own rules -/
namespace Bx
open PySem PySem.Spec PyProof.Rows L2
section
variable {X : Cx}
theorem pi_or {tg iter : Expr} {w1 w2 : TI} (h1 : PI X tg iter w1) (h2 : PI X tg iter w2) : PI X tg iter (fun σ H R => w1 σ H R ∨ w2 σ H R) := ⟨fun pins s σ H R I h => by
  rcases h with h | h
  · exact h1.run pins s σ H R I h
  · exact h2.run pins s σ H R I h⟩
theorem passF {P : Program} {w : World} : Passes (L2.CX P w) X (fun _ _ _ => False) := fun _ _ _ _ _ _ _ h => by
  obtain ⟨_, _, _, _, _, _, _, _, _, _, _, _, z⟩ := h
  exact z.elim
/-- a new instance of an own class whose __init__ may raise -/
structure MakX (P : Program) (w : World) (K : PySem.W.Frag) (mg : Str → Option Value) (base : Heap) (k : Nat) (x : Str) (C : Addr) (sp : Sp) : Prop where
  ex : ∃ (f : Addr) (fd : FuncData) (ps : List Str), Mk K C f ∧ FnOk P w K mg base (L2.CX P w) k f fd ps sp ∧ mg x = some (.ref C) ∧ Binds K fd ps []
def tMakX (C : Addr) (sp : Sp) (E : L2.St → XK) (t : TA) : TE := fun σ H Q => t σ H fun vs H1 => ∀ x dx, H1 x = none → H1 dx = none → dx ≠ x → sp (.ref x :: vs) (upd (upd H1 dx (.own x)) x (.ins C dx [])) (fun v H2 => v = .non ∧ Q (.ref x) H2) (E σ)
theorem made_at {k : Nat} {f C : Addr} {fd : FuncData} {ps : List Str} {sp : Sp} {E : XK} {pins : List (Addr × Obj)} {σ : L2.St} {H : Hp} {u : Shared} {Q : VK} {us : List Value} {vs : List V} (M : Mk X.K C f) (F : FnOk X.prog X.w X.K X.mg X.base (L2.CX X.prog X.w) k f fd ps sp) (hr : Room (k + 1) X.A) (hb : Binds X.K fd ps [])
    (hx : PassesAt (L2.CX X.prog X.w) X σ E) (I : Inv X pins σ H u) (r : Vals vs us)
    (h : ∀ x dx, H x = none → H dx = none → dx ≠ x → sp (.ref x :: vs) (upd (upd H dx (.own x)) x (.ins C dx [])) (fun v H2 => v = .non ∧ Q (.ref x) H2) E) :
    wpAny (model X.prog X.w) X.A (call (.ref C) us) (EP X pins σ Q) X.xe u := by
  have q0 := h (u.heap.objs.size + 1) u.heap.objs.size (I.hok.fresh (Nat.le_succ _)) (I.hok.fresh (Nat.le_refl _)) (Nat.ne_of_lt (Nat.lt_succ_self _))
  have J := Inv.made (C := C) I
  have r2 : Vals (V.ref (u.heap.objs.size + 1) :: vs) (Value.ref (u.heap.objs.size + 1) :: us) := .cons rfl r
  have hl : (Value.ref (u.heap.objs.size + 1) :: us ++ []).length = ps.length := by
    have e := r2.length
    rw [F.len _ _ _ _ q0] at e
    rw [List.append_nil]
    exact e.symm
  refine wpAny_call (make_map (f := f) I.kIn M.makes M.init (beq_iff_eq.mp M.fn) (codeAny_mono (F.run _ X.stack _ _ ⟨Value.ref (u.heap.objs.size + 1) :: us, []⟩ (Value.ref (u.heap.objs.size + 1) :: us) _ _ E (hr.make C us [])
    (J.env0.make C us []) (by have q := hb _ (Value.ref (u.heap.objs.size + 1) :: us) J.kIn hl; rw [List.append_nil] at q; exact q) r2 q0) fun r u' hq => ?_))
  cases r with
  | error e => exact hx pins _ _ e u' J hq
  | ok fl =>
    cases fl with
    | ret v =>
      obtain ⟨y, G, J3, ry, ey, qy⟩ := J.after hq
      subst ey
      exact ⟨ry, ⟨V.ref (u.heap.objs.size + 1), G, J3, rfl, qy⟩⟩
    | next => exact False.elim hq
    | brk => exact False.elim hq
    | cont => exact False.elim hq
theorem pe_makeX {k j : Nat} {C : Addr} {x : Str} {sp : Sp} {W : WX} {p pos : Pos} {e : Expr} {es : List Expr} {t : TA} (c : MakX X.prog X.w X.K X.mg X.base k x C sp) (hr : Room j X.A) (hk : k + 1 ≤ j) (tk : Takes X W) (hg : Gl X x) (ha : PA X (e :: es) t)
    (hdb : (x == ("__debug__" : Str)) = false := by decide) (he : starEach (e :: es) X.env = (false, eval e X.env) :: starEach es X.env := by rfl) (hpl : (backTo pos (starEach es X.env)).any (·.1) = false := by rfl) :
    PE X (.Call (.Name x p) (e :: es) [] pos) (tMakX C sp (WE W) t) := by
  obtain ⟨f, fd, ps, M, F, hm, b⟩ := c.ex
  refine ⟨fun pins u σ H Q I hw => ?_⟩
  refine wpAny_Call_Name_kw (ld_glob I hg hm ?_ hdb)
  refine PySem.W.callWith_K (h₀ := X.base) I.ok.mod.kin M.kp (thn (ha.run pos pins u σ H _ I hw) fun us u1 ⟨vs, H1, I1, rv, qv⟩ => ⟨I1.kIn, ?_⟩) he hpl
  exact made_at M F (hr.mono hk) b (passAt tk σ) I1 rv qv
theorem pe_makeN {k j : Nat} {C : Addr} {x : Str} {sp : Sp} {p pos : Pos} {e : Expr} {es : List Expr} {t : TA} (c : MakX X.prog X.w X.K X.mg X.base k x C sp) (hr : Room j X.A) (hk : k + 1 ≤ j) (hg : Gl X x) (ha : PA X (e :: es) t)
    (hdb : (x == ("__debug__" : Str)) = false := by decide) (he : starEach (e :: es) X.env = (false, eval e X.env) :: starEach es X.env := by rfl) (hpl : (backTo pos (starEach es X.env)).any (·.1) = false := by rfl) :
    PE X (.Call (.Name x p) (e :: es) [] pos) (tMakX C sp (fun _ => fun _ _ _ => False) t) := by
  obtain ⟨f, fd, ps, M, F, hm, b⟩ := c.ex
  refine ⟨fun pins u σ H Q I hw => ?_⟩
  refine wpAny_Call_Name_kw (ld_glob I hg hm ?_ hdb)
  refine PySem.W.callWith_K (h₀ := X.base) I.ok.mod.kin M.kp (thn (ha.run pos pins u σ H _ I hw) fun us u1 ⟨vs, H1, I1, rv, qv⟩ => ⟨I1.kIn, ?_⟩) he hpl
  exact made_at M F (hr.mono hk) b (fun pins G v e v' J q => passF pins σ G v e v' J q) I1 rv qv
end
/-! rows of ints -/
def RowsA (mk : List V → HO) (H : Hp) : List Addr → List (List Int) → Prop
  | [], [] => True
  | a :: as, r :: rs => H a = some (mk (r.map V.int)) ∧ RowsA mk H as rs
  | _, _ => False
def RowsQ (H : Hp) : List Addr → List (List Int) → Prop
  | [], [] => True
  | a :: as, r :: rs => SeqI H a r ∧ RowsQ H as rs
  | _, _ => False
theorem RowsA.keep {mk : List V → HO} {H H' : Hp} : ∀ {as : List Addr} {rs : List (List Int)}, (∀ b o, b ∈ as → H b = some o → H' b = some o) → RowsA mk H as rs → RowsA mk H' as rs
  | [], [], _, _ => True.intro
  | a :: as, r :: rs, k, h => ⟨k a _ List.mem_cons_self h.1, RowsA.keep (fun b o hb => k b o (List.mem_cons_of_mem _ hb)) h.2⟩
  | [], _ :: _, _, h => h.elim
  | _ :: _, [], _, h => h.elim
theorem RowsA.same {mk : List V → HO} {H H' : Hp} {as : List Addr} {rs : List (List Int)} (k : Same H H') (h : RowsA mk H as rs) : RowsA mk H' as rs := h.keep fun b o _ e => k b o e
theorem RowsA.len {mk : List V → HO} {H : Hp} : ∀ {as : List Addr} {rs : List (List Int)}, RowsA mk H as rs → as.length = rs.length
  | [], [], _ => rfl
  | a :: as, r :: rs, h => congrArg (· + 1) h.2.len
  | [], _ :: _, h => h.elim
  | _ :: _, [], h => h.elim
theorem RowsA.snoc {mk : List V → HO} {H : Hp} {a : Addr} {r : List Int} (ha : H a = some (mk (r.map V.int))) : ∀ {as : List Addr} {rs : List (List Int)}, RowsA mk H as rs → RowsA mk H (as ++ [a]) (rs ++ [r])
  | [], [], _ => ⟨ha, True.intro⟩
  | b :: as, q :: rs, h => ⟨h.1, h.2.snoc ha⟩
  | [], _ :: _, h => h.elim
  | _ :: _, [], h => h.elim
theorem RowsA.get {mk : List V → HO} {H : Hp} : ∀ {as : List Addr} {rs : List (List Int)} {i : Nat} {a : Addr}, RowsA mk H as rs → as[i]? = some a → ∃ r, rs[i]? = some r ∧ H a = some (mk (r.map V.int))
  | [], _, _, _, _, e => by simp at e
  | b :: as, [], _, _, h, _ => h.elim
  | b :: as, q :: rs, 0, a, h, e => by
    have : b = a := Option.some.inj e
    subst this
    exact ⟨q, rfl, h.1⟩
  | b :: as, q :: rs, i + 1, a, h, e => RowsA.get (i := i) h.2 e
theorem RowsA.q1 {H : Hp} : ∀ {as : List Addr} {rs : List (List Int)}, RowsA .lst H as rs → RowsQ H as rs
  | [], [], _ => True.intro
  | a :: as, r :: rs, h => ⟨.inl h.1, h.2.q1⟩
  | [], _ :: _, h => h.elim
  | _ :: _, [], h => h.elim
theorem RowsA.q2 {H : Hp} : ∀ {as : List Addr} {rs : List (List Int)}, RowsA .tup H as rs → RowsQ H as rs
  | [], [], _ => True.intro
  | a :: as, r :: rs, h => ⟨.inr h.1, h.2.q2⟩
  | [], _ :: _, h => h.elim
  | _ :: _, [], h => h.elim
theorem RowsQ.same {H H' : Hp} (k : Same H H') : ∀ {as : List Addr} {rs : List (List Int)}, RowsQ H as rs → RowsQ H' as rs
  | [], [], _ => True.intro
  | a :: as, r :: rs, h => ⟨h.1.same k, h.2.same k⟩
  | [], _ :: _, h => h.elim
  | _ :: _, [], h => h.elim
theorem RowsQ.len {H : Hp} : ∀ {as : List Addr} {rs : List (List Int)}, RowsQ H as rs → as.length = rs.length
  | [], [], _ => rfl
  | a :: as, r :: rs, h => congrArg (· + 1) h.2.len
  | [], _ :: _, h => h.elim
  | _ :: _, [], h => h.elim
theorem RowsQ.get {H : Hp} : ∀ {as : List Addr} {rs : List (List Int)} {i : Nat} {a : Addr}, RowsQ H as rs → as[i]? = some a → ∃ r, rs[i]? = some r ∧ SeqI H a r
  | [], _, _, _, _, e => by simp at e
  | b :: as, [], _, _, h, _ => h.elim
  | b :: as, q :: rs, 0, a, h, e => by
    have : b = a := Option.some.inj e
    subst this
    exact ⟨q, rfl, h.1⟩
  | b :: as, q :: rs, i + 1, a, h, e => RowsQ.get (i := i) h.2 e
/-- a list or a tuple of any values -/
def SeqV (H : Hp) (a : Addr) (xs : List V) : Prop := H a = some (.lst xs) ∨ H a = some (.tup xs)
theorem SeqV.same {H H' : Hp} {a : Addr} {xs : List V} (k : Same H H') (h : SeqV H a xs) : SeqV H' a xs := by
  rcases h with h | h
  · exact .inl (k _ _ h)
  · exact .inr (k _ _ h)
theorem SeqV.sq {K : PySem.W.Frag} {H : Hp} {a : Addr} {xs : List V} (h : SeqV H a xs) : SqL K H a xs ∨ SqT K H a xs := by
  rcases h with h | h
  · exact .inl (.of h)
  · exact .inr (.of h)
def iSeq (K : PySem.W.Frag) (te : TE) : TI := fun σ H R => iList K te σ H R ∨ iTup K te σ H R
theorem pi_listK {X : Cx} {K : PySem.W.Frag} {tg e : Expr} {te : TE} (h : X.K = K) (he : PE X e te) : PI X tg e (iList K te) := by
  subst h
  exact pi_list he
theorem pi_tupK {X : Cx} {K : PySem.W.Frag} {tg e : Expr} {te : TE} (h : X.K = K) (he : PE X e te) : PI X tg e (iTup K te) := by
  subst h
  exact pi_tup he
theorem pi_seq {X : Cx} {K : PySem.W.Frag} {tg e : Expr} {te : TE} (h : X.K = K) (he : PE X e te) : PI X tg e (iSeq K te) := by
  subst h
  exact pi_or (pi_list he) (pi_tup he)
theorem for_seq {K : PySem.W.Frag} {i : Nat} {a : Addr} {xs : List V} {g : TG} {tb : TS} {D : Ends} {σ : L2.St} {H : Hp} (hv : σ[i]? = some (some (.ref a))) (hq : SeqV H a xs) (Pv : Nat → L2.St → Hp → Prop) (h0 : Pv 0 σ H) (hS : ∀ i σ' H', Pv i σ' H' → Same H H')
    (hs : ∀ i x σ H, xs[i]? = some x → Pv i σ H → g x σ H fun σ2 H2 => tb { D with nx := Pv (i + 1), ct := Pv (i + 1), bk := D.nx } σ2 H2) (hd : ∀ σ H, Pv xs.length σ H → D.nx σ H) : tFor (iSeq K (tVar i)) g tb D σ H := by
  rcases hq with h | h
  · exact .inl ⟨_, hv, a, rfl, ⟨_, .of h⟩, for_list Pv h0 (fun i σ' H' _ p => .of (hS i σ' H' p _ _ h)) hs hd⟩
  · exact .inr ⟨_, hv, a, rfl, ⟨_, .of h⟩, for_tup Pv h0 (fun i σ' H' _ p => .of (hS i σ' H' p _ _ h)) hs hd⟩
/-- a list of lists of ints -/
def LL (H : Hp) (r : Addr) (as : List Addr) (rows : List (List Int)) : Prop := H r = some (.lst (as.map V.ref)) ∧ RowsA .lst H as rows
def Vld (L s : Int) (ps : List Int) (rows : List (List Int)) : Prop := 1 ≤ L ∧ rows ≠ [] ∧ ps.length = rows.length ∧ (0 ≤ s ∧ s < (rows.length : Int)) ∧ (∀ r ∈ rows, (r.length : Int) = L ∧ ∀ x ∈ r, 0 ≤ x ∧ x < (rows.length : Int)) ∧ ∀ p ∈ ps, 0 ≤ p
/-- the fields of a parity automaton, as they are stored -/
def pf (L s : Int) (pt rt : Addr) : List (Str × V) := putF "rows" (.ref rt) (putF "priorities" (.ref pt) (putF "start" (.int s) (putF "letters" (.int L) [])))
theorem putF_len (f : Str) (v : V) : ∀ fs : List (Str × V), (putF f v fs).length ≤ fs.length + 1
  | [] => Nat.le_refl _
  | (g, x) :: r => by
    unfold putF
    by_cases c : g = f
    · rw [if_pos c]
      exact Nat.le_succ _
    · rw [if_neg c]
      exact Nat.succ_le_succ (putF_len f v r)
theorem pf_L (L s : Int) (pt rt : Addr) : (pf L s pt rt).lookup ("letters" : Str) = some (.int L) := by
  unfold pf
  rw [lookup_putF, if_neg (by decide +kernel), lookup_putF, if_neg (by decide +kernel), lookup_putF, if_neg (by decide +kernel), lookup_putF, if_pos rfl]
theorem pf_s (L s : Int) (pt rt : Addr) : (pf L s pt rt).lookup ("start" : Str) = some (.int s) := by
  unfold pf
  rw [lookup_putF, if_neg (by decide +kernel), lookup_putF, if_neg (by decide +kernel), lookup_putF, if_pos rfl]
theorem pf_p (L s : Int) (pt rt : Addr) : (pf L s pt rt).lookup ("priorities" : Str) = some (.ref pt) := by
  unfold pf
  rw [lookup_putF, if_neg (by decide +kernel), lookup_putF, if_pos rfl]
theorem pf_r (L s : Int) (pt rt : Addr) : (pf L s pt rt).lookup ("rows" : Str) = some (.ref rt) := by
  unfold pf
  rw [lookup_putF, if_pos rfl]
/-- a parity automaton at x -/
def ParAt (C : Addr) (H : Hp) (x : Addr) (L s : Int) (ps : List Int) (rows : List (List Int)) : Prop := ∃ (dx pt rt : Addr) (as : List Addr), H x = some (.ins C dx (pf L s pt rt)) ∧ TupI H pt ps ∧ H rt = some (.tup (as.map V.ref)) ∧ RowsA .tup H as rows
theorem ParAt.same {C : Addr} {H H' : Hp} {x : Addr} {L s : Int} {ps : List Int} {rows : List (List Int)} (k : Same H H') (h : ParAt C H x L s ps rows) : ParAt C H' x L s ps rows := by
  obtain ⟨dx, pt, rt, as, e1, e2, e3, e4⟩ := h
  exact ⟨dx, pt, rt, as, k _ _ e1, k _ _ e2, k _ _ e3, e4.same k⟩
/-- what the class has -/
structure ParC (K : PySem.W.Frag) (C : Addr) : Prop where
  cl : Cls K C
  nL : NoAttr K C "letters"
  nS : NoAttr K C "start"
  nP : NoAttr K C "priorities"
  nR : NoAttr K C "rows"
def spCheckS (cI : Addr) : Sp := fun vs H Q E => ∃ (z n : Int), vs = [.int z, .int n] ∧ (¬ (0 ≤ z ∧ z < n) → E (.ref cI) none H) ∧ ((0 ≤ z ∧ z < n) → Q .non H)
def spInitP (C cI : Addr) : Sp := fun vs H Q E => ∃ (x p r dx : Addr) (L s : Int) (ps : List Int) (as : List Addr) (rows : List (List Int)), vs = [.ref x, .int L, .int s, .ref p, .ref r] ∧ H x = some (.ins C dx []) ∧ H p = some (.lst (ps.map V.int)) ∧ SeqV H r (as.map V.ref) ∧ RowsQ H as rows ∧
  rows.length ≤ 1000 ∧ ps.length ≤ 1000 ∧ (∀ q ∈ rows, q.length ≤ 1000) ∧ (¬ Vld L s ps rows → E (.ref cI) none H) ∧ (Vld L s ps rows → ∀ H', Kp x H H' → ParAt C H' x L s ps rows → Q .non H')
end Bx
namespace Bx
open PySem PySem.Spec PyProof.Rows L2
theorem lc_seq {K : PySem.W.Frag} {i : Nat} {a : Addr} {xs : List V} {g : TG} {tt : TT} {te : TE} {vs : List Nat} {σ : L2.St} {H : Hp} {Q : VK} (hv : σ[i]? = some (some (.ref a))) (hq : SeqV H a xs) (Pv : Addr → Nat → Hp → Prop) (h0 : ∀ D, H D = none → Pv D 0 (upd H D (.lst [])))
    (hS : ∀ D j H', H D = none → Pv D j H' → Same H H')
    (hs : ∀ D, H D = none → ∀ i x H', xs[i]? = some x → Pv D i H' → g x (wipe σ vs) H' fun σ2 H2 => wipe σ2 vs = wipe σ vs ∧ tt σ2 H2 fun b H3 => if b = true then te σ2 H3 fun y H4 => ∃ acc, H4 D = some (.lst acc) ∧ acc.length < sizeLine ∧ Pv D (i + 1) (upd H4 D (.lst (acc ++ [y]))) else Pv D (i + 1) H3)
    (hd : ∀ D H', H D = none → Pv D xs.length H' → Q (.ref D) H') : tLc (iSeq K (tVar i)) g tt te vs σ H Q := by
  rcases hq with h | h
  · exact .inl ⟨_, hv, a, rfl, ⟨_, .of h⟩, fun D hD => lc_list (Pv D) (h0 D hD) (fun i H' _ p => .of (hS D i H' hD p _ _ h)) (hs D hD) (fun H' p => hd D H' hD p)⟩
  · exact .inr ⟨_, hv, a, rfl, ⟨_, .of h⟩, fun D hD => lc_tup (Pv D) (h0 D hD) (fun i H' _ p => .of (hS D i H' hD p _ _ h)) (hs D hD) (fun H' p => hd D H' hD p)⟩
theorem rowsUpd {H : Hp} {x : Addr} {o : HO} (hx : ∀ ys, H x ≠ some (.tup ys)) : ∀ {as : List Addr} {rs : List (List Int)}, RowsA .tup H as rs → RowsA .tup (upd H x o) as rs
  | [], [], _ => True.intro
  | a :: as, r :: rs, h => ⟨by
      have h1 := h.1
      rw [upd_ne (fun z => by rw [z] at h1; exact hx _ h1)]
      exact h1, rowsUpd hx h.2⟩
  | [], _ :: _, h => h.elim
  | _ :: _, [], h => h.elim
theorem refs_get {as : List Addr} {i : Nat} {v : V} (h : (as.map V.ref)[i]? = some v) : ∃ a, as[i]? = some a ∧ v = .ref a := by
  rw [List.getElem?_map] at h
  cases e : as[i]? with
  | none => rw [e] at h; cases h
  | some z => rw [e] at h; exact ⟨z, rfl, (Option.some.inj h).symm⟩
theorem ints_get {xs : List Int} {i : Nat} {v : V} (h : (xs.map V.int)[i]? = some v) : ∃ x, xs[i]? = some x ∧ v = .int x := by
  rw [List.getElem?_map] at h
  cases e : xs[i]? with
  | none => rw [e] at h; cases h
  | some z => rw [e] at h; exact ⟨z, rfl, (Option.some.inj h).symm⟩
theorem take_get {α : Type} {xs : List α} {i : Nat} {x : α} (h : xs[i]? = some x) : xs.take (i + 1) = xs.take i ++ [x] := by
  rw [List.take_add_one, h]
  rfl
theorem pl_next {f : Str} {v : V} {fs : List (Str × V)} {n : Nat} (h : fs.length ≤ n) : (putF f v fs).length ≤ n + 1 := Nat.le_trans (putF_len f v fs) (Nat.succ_le_succ h)
theorem pl_lt {fs : List (Str × V)} {n : Nat} (h : fs.length ≤ n) (k : n < 1000) : fs.length < 1000 := Nat.lt_of_le_of_lt h k
theorem pl_0 : ([] : List (Str × V)).length ≤ 0 := Nat.le_refl _
theorem fld_def {Kf : PySem.W.Frag} {ta tv : TE} {f : Str} {D : Ends} {σ : L2.St} {H : Hp} (h : tv σ H fun y H1 => ta σ H1 fun x H2 => ∃ a C dx fs, x = .ref a ∧ H2 a = some (.ins C dx fs) ∧ Cls Kf C ∧ NoAttr Kf C f ∧ fs.length < 1000 ∧ D.nx σ (upd H2 a (.ins C dx (putF f y fs)))) : sFld Kf ta tv f D σ H := h
theorem cb1_def {r : List V → Hp → VK → Prop} {te : TE} {σ : L2.St} {H : Hp} {Q : VK} (h : te σ H fun v H1 => r [v] H1 Q) : tCB r (tCons te tNil) σ H Q := h
theorem rows_some {mk : List V → HO} {H : Hp} : ∀ {as : List Addr} {rs : List (List Int)} {a : Addr}, RowsA mk H as rs → a ∈ as → ∃ o, H a = some o
  | [], _, _, _, h => by simp at h
  | b :: as, [], _, h, _ => h.elim
  | b :: as, r :: rs, a, h, m => by
    rcases List.mem_cons.mp m with z | z
    · rw [z]
      exact ⟨_, h.1⟩
    · exact rows_some h.2 z
theorem LL.same {H H' : Hp} {r : Addr} {as : List Addr} {rows : List (List Int)} (k : Same H H') (h : LL H r as rows) : LL H' r as rows := ⟨k _ _ h.1, h.2.same k⟩
def exS (d : Scope) : Expr → Scope
  | .ListComp _ _ s _ => s
  | .Call _ (.ListComp _ _ s _ :: _) _ _ => s
  | _ => d
def stS (d : Scope) (i : Nat) (b : List Stmt) : Scope := match b[i]? with
  | some (.Return (some e) _) => exS d e
  | some (.Assign _ e _) => exS d e
  | _ => d
/-- ascending numbers below n -/
def Asc (n : Int) (xs : List Int) : Prop := xs.Pairwise (· < ·) ∧ ∀ x ∈ xs, 0 ≤ x ∧ x < n
/-- rows of rows of ints -/
def CubB (mk : List V → HO) (H : Hp) : List Addr → List (List Addr) → List (List (List Int)) → Prop
  | [], [], [] => True
  | a :: as, bs :: bss, r :: rs => (H a = some (mk (bs.map V.ref)) ∧ RowsA mk H bs r) ∧ CubB mk H as bss rs
  | _, _, _ => False
theorem cub_keep {mk : List V → HO} {H H' : Hp} : ∀ {as : List Addr} {bss : List (List Addr)} {c : List (List (List Int))}, (∀ b o, (b ∈ as ∨ ∃ bs ∈ bss, b ∈ bs) → H b = some o → H' b = some o) → CubB mk H as bss c → CubB mk H' as bss c
  | [], [], [], _, _ => True.intro
  | a :: as, bs :: bss, r :: rs, k, h => ⟨⟨k a _ (.inl List.mem_cons_self) h.1.1, h.1.2.keep fun b o hb => k b o (.inr ⟨bs, List.mem_cons_self, hb⟩)⟩, cub_keep (fun b o hb => k b o (by
      rcases hb with z | ⟨q, z, y⟩
      · exact .inl (List.mem_cons_of_mem _ z)
      · exact .inr ⟨q, List.mem_cons_of_mem _ z, y⟩)) h.2⟩
  | [], [], _ :: _, _, h => h.elim
  | [], _ :: _, _, _, h => h.elim
  | _ :: _, [], _, _, h => h.elim
  | _ :: _, _ :: _, [], _, h => h.elim
theorem cub_same {mk : List V → HO} {H H' : Hp} {as : List Addr} {bss : List (List Addr)} {c : List (List (List Int))} (s : Same H H') (h : CubB mk H as bss c) : CubB mk H' as bss c := cub_keep (fun b o _ e => s b o e) h
theorem cub_len {mk : List V → HO} {H : Hp} : ∀ {as : List Addr} {bss : List (List Addr)} {c : List (List (List Int))}, CubB mk H as bss c → as.length = c.length ∧ bss.length = c.length
  | [], [], [], _ => ⟨rfl, rfl⟩
  | a :: as, bs :: bss, r :: rs, h => ⟨congrArg (· + 1) (cub_len h.2).1, congrArg (· + 1) (cub_len h.2).2⟩
  | [], [], _ :: _, h => h.elim
  | [], _ :: _, _, h => h.elim
  | _ :: _, [], _, h => h.elim
  | _ :: _, _ :: _, [], h => h.elim
theorem cub_snoc {mk : List V → HO} {H : Hp} {a : Addr} {bs : List Addr} {r : List (List Int)} (h1 : H a = some (mk (bs.map V.ref))) (h2 : RowsA mk H bs r) : ∀ {as : List Addr} {bss : List (List Addr)} {c : List (List (List Int))}, CubB mk H as bss c → CubB mk H (as ++ [a]) (bss ++ [bs]) (c ++ [r])
  | [], [], [], _ => ⟨⟨h1, h2⟩, True.intro⟩
  | b :: as, cs :: bss, q :: rs, h => ⟨h.1, cub_snoc h1 h2 h.2⟩
  | [], [], _ :: _, h => h.elim
  | [], _ :: _, _, h => h.elim
  | _ :: _, [], _, h => h.elim
  | _ :: _, _ :: _, [], h => h.elim
theorem cub_get {mk : List V → HO} {H : Hp} : ∀ {as : List Addr} {bss : List (List Addr)} {c : List (List (List Int))} {i : Nat} {a : Addr}, CubB mk H as bss c → as[i]? = some a → ∃ bs r, bss[i]? = some bs ∧ c[i]? = some r ∧ H a = some (mk (bs.map V.ref)) ∧ RowsA mk H bs r
  | [], _, _, _, _, _, e => by simp at e
  | a :: as, bs :: bss, r :: rs, 0, b, h, e => by
    have : a = b := Option.some.inj e
    subst this
    exact ⟨bs, r, rfl, rfl, h.1.1, h.1.2⟩
  | a :: as, bs :: bss, r :: rs, i + 1, b, h, e => cub_get (i := i) h.2 e
  | _ :: _, [], _, _, _, h, _ => h.elim
  | _ :: _, _ :: _, [], _, _, h, _ => h.elim
theorem cub_some {mk : List V → HO} {H : Hp} : ∀ {as : List Addr} {bss : List (List Addr)} {c : List (List (List Int))} {b : Addr}, CubB mk H as bss c → (b ∈ as ∨ ∃ bs ∈ bss, b ∈ bs) → ∃ o, H b = some o
  | [], [], _, _, _, h => by
    rcases h with h | ⟨_, h, _⟩
    · simp at h
    · simp at h
  | a :: as, bs :: bss, r :: rs, b, h, m => by
    rcases m with m | ⟨q, m, y⟩
    · rcases List.mem_cons.mp m with z | z
      · rw [z]; exact ⟨_, h.1.1⟩
      · exact cub_some h.2 (.inl z)
    · rcases List.mem_cons.mp m with z | z
      · rw [z] at y; exact rows_some h.1.2 y
      · exact cub_some h.2 (.inr ⟨q, z, y⟩)
  | [], _ :: _, _, _, h, _ => h.elim
  | _ :: _, [], _, _, h, _ => h.elim
  | _ :: _, _ :: _, [], _, h, _ => h.elim
/-- an object that is not one of the rows may change -/
theorem cub_tup {H : Hp} {x : Addr} {o : HO} (hx : ∀ ys, H x ≠ some (.tup ys)) : ∀ {as : List Addr} {bss : List (List Addr)} {c : List (List (List Int))}, CubB .tup H as bss c → CubB .tup (upd H x o) as bss c
  | [], [], [], _ => True.intro
  | a :: as, bs :: bss, r :: rs, h => ⟨⟨by
      have h1 := h.1.1
      rw [upd_ne (fun z => by rw [z] at h1; exact hx _ h1)]
      exact h1, rowsUpd hx h.1.2⟩, cub_tup hx h.2⟩
  | [], [], _ :: _, h => h.elim
  | [], _ :: _, _, h => h.elim
  | _ :: _, [], _, h => h.elim
  | _ :: _, _ :: _, [], h => h.elim
theorem rows_kp {mk : List V → HO} {H H' : Hp} {x : Addr} (hx : ∀ ys, H x ≠ some (mk ys)) (k : Kp x H H') : ∀ {as : List Addr} {rs : List (List Int)}, RowsA mk H as rs → RowsA mk H' as rs
  | [], [], _ => True.intro
  | a :: as, r :: rs, h => ⟨k _ _ (fun z => by have h1 := h.1; rw [z] at h1; exact hx _ h1) h.1, rows_kp hx k h.2⟩
  | [], _ :: _, h => h.elim
  | _ :: _, [], h => h.elim
theorem cub_kp {mk : List V → HO} {H H' : Hp} {x : Addr} (hx : ∀ ys, H x ≠ some (mk ys)) (k : Kp x H H') : ∀ {as : List Addr} {bss : List (List Addr)} {c : List (List (List Int))}, CubB mk H as bss c → CubB mk H' as bss c
  | [], [], [], _ => True.intro
  | a :: as, bs :: bss, r :: rs, h => ⟨⟨k _ _ (fun z => by have h1 := h.1.1; rw [z] at h1; exact hx _ h1) h.1.1, rows_kp hx k h.1.2⟩, cub_kp hx k h.2⟩
  | [], [], _ :: _, h => h.elim
  | [], _ :: _, _, h => h.elim
  | _ :: _, [], _, h => h.elim
  | _ :: _, _ :: _, [], h => h.elim
def bf (L : Int) (it at_ rt : Addr) : List (Str × V) := putF "rows" (.ref rt) (putF "accepting" (.ref at_) (putF "initial" (.ref it) (putF "letters" (.int L) [])))
theorem bf_L (L : Int) (a b c : Addr) : (bf L a b c).lookup ("letters" : Str) = some (.int L) := by
  unfold bf
  rw [lookup_putF, if_neg (by decide +kernel), lookup_putF, if_neg (by decide +kernel), lookup_putF, if_neg (by decide +kernel), lookup_putF, if_pos rfl]
theorem bf_i (L : Int) (a b c : Addr) : (bf L a b c).lookup ("initial" : Str) = some (.ref a) := by
  unfold bf
  rw [lookup_putF, if_neg (by decide +kernel), lookup_putF, if_neg (by decide +kernel), lookup_putF, if_pos rfl]
theorem bf_a (L : Int) (a b c : Addr) : (bf L a b c).lookup ("accepting" : Str) = some (.ref b) := by
  unfold bf
  rw [lookup_putF, if_neg (by decide +kernel), lookup_putF, if_pos rfl]
theorem bf_r (L : Int) (a b c : Addr) : (bf L a b c).lookup ("rows" : Str) = some (.ref c) := by
  unfold bf
  rw [lookup_putF, if_pos rfl]
def AutAt (C : Addr) (H : Hp) (x : Addr) (L : Int) (ini acc : List Int) (c : List (List (List Int))) : Prop := ∃ (dx it at_ rt : Addr) (as : List Addr) (bss : List (List Addr)), H x = some (.ins C dx (bf L it at_ rt)) ∧ TupI H it ini ∧ TupI H at_ acc ∧ H rt = some (.tup (as.map V.ref)) ∧ CubB .tup H as bss c
theorem aut_same {C : Addr} {H H' : Hp} {x : Addr} {L : Int} {ini acc : List Int} {c : List (List (List Int))} (k : Same H H') (h : AutAt C H x L ini acc c) : AutAt C H' x L ini acc c := by
  obtain ⟨dx, it, at_, rt, as, bss, e1, e2, e3, e4, e5⟩ := h
  exact ⟨dx, it, at_, rt, as, bss, k _ _ e1, k _ _ e2, k _ _ e3, k _ _ e4, cub_same k e5⟩
structure AutC (K : PySem.W.Frag) (C : Addr) : Prop where
  cl : Cls K C
  nL : NoAttr K C "letters"
  nI : NoAttr K C "initial"
  nA : NoAttr K C "accepting"
  nR : NoAttr K C "rows"
  c1 : PySem.W.findIn K (.ref C) "__class__" = some (some (.builtin "object.__class__"))
  c2 : PySem.W.specialIn K (.builtin "object.__class__") "__get__" = some (some (.builtin "getset_descriptor.__get__"))
  c3 : PySem.W.takesIn K (.builtin "object.__class__") = some true
  c4 : PySem.W.mroIn K C (.type "object") = some true
  c5 : PySem.W.kitOne K (.ref C) (.ref C) = some true
def VldB (L : Int) (ini acc : List Int) (c : List (List (List Int))) : Prop := 1 ≤ L ∧ c ≠ [] ∧ Asc c.length ini ∧ Asc c.length acc ∧ ∀ r ∈ c, (r.length : Int) = L ∧ ∀ e ∈ r, Asc c.length e
/-- a list of lists of lists -/
def LC (H : Hp) (r : Addr) (as : List Addr) (bss : List (List Addr)) (c : List (List (List Int))) : Prop := H r = some (.lst (as.map V.ref)) ∧ CubB .lst H as bss c
def spChecks (cI : Addr) : Sp := fun vs H Q E => ∃ (a : Addr) (xs : List Int) (n : Int), vs = [.ref a, .int n] ∧ H a = some (.lst (xs.map V.int)) ∧ (¬ Asc n xs → E (.ref cI) none H) ∧ (Asc n xs → Q .non H)
def spInitB (C cI : Addr) : Sp := fun vs H Q E => ∃ (x i a r dx : Addr) (L : Int) (ini acc : List Int) (as : List Addr) (bss : List (List Addr)) (c : List (List (List Int))), vs = [.ref x, .int L, .ref i, .ref a, .ref r] ∧ H x = some (.ins C dx []) ∧ H i = some (.lst (ini.map V.int)) ∧ H a = some (.lst (acc.map V.int)) ∧ LC H r as bss c ∧
  c.length ≤ 1000 ∧ (∀ r ∈ c, r.length ≤ 1000) ∧ (¬ VldB L ini acc c → E (.ref cI) none H) ∧ (VldB L ini acc c → ∀ H', Kp x H H' → AutAt C H' x L ini acc c → Q .non H')
end Bx

/-! ### own rules: a list extended by a tuple; a tuple's slice with a step -/
namespace Tx
open PySem PySem.Spec PyProof.Rows L2
section
variable {prog : Program} {w : World} {A : Around} {E : Value → Shared → Prop} {s : Shared}
set_option maxRecDepth 8000 in
theorem ext_tup (l b : Addr) (xs ys : Array Value) (n m : Nat) (dd : Option Addr) (sl : Array (Option Value)) (h0 : ¬(!xs.isEmpty && Builtin.List.listTooLong (xs.size + ys.size)) = true) (h1 : xs.size ≤ sizeLine) (h2 : xs.size + ys.size ≤ sizeLine + 1) :
    Meets (Builtin.«list.extend» ⟨[.ref l, .ref b], []⟩) (fun _ R s => s.heap.get? l = some { cls := .type "list", data := .seq xs n } ∧ s.heap.get? b = some { cls := .type "tuple", dict := dd, data := .seq ys m, slots := sl } ∧
      R (.ok (.ret Value.none)) { s with heap := s.heap.update l (Obj.mapSeq fun x => x ++ ys), toks := s.toks }) := .of_wp fun prog w A R s h => by
  obtain ⟨hp, g, d, tk, os⟩ := s
  obtain ⟨hl, hb, h⟩ := h
  have q1 := AutoSeq1.idx_int
  have q2 := AutoSeq1.sub_tuple_tuple
  have q3 := AutoSeq1.sub_list_list
  have q4 := AutoSeq1.sub_tuple_list
  have q5 := AutoSeq1.sub_list_tuple
  have hz : (xs ++ ys).size ≤ sizeLine + 1 := by
    rw [Array.size_append]
    exact h2
  wp_walk using (wpAny_updateSeq hl rfl (hz := h1) (_hz' := hz)), AutoSeq1.wpAny_loadPart' hl, AutoSeq1.wpAny_loadPart' hb
  exact ⟨_, rfl, h⟩
end
section
variable {X : Cx} {K : PySem.W.Frag}
def rExtT (K : PySem.W.Frag) : V → List V → Hp → VK → Prop := fun x vs H Q => ∃ l b xs zs, x = .ref l ∧ vs = [.ref b] ∧ H l = some (.lst xs) ∧ SqT K H b zs ∧ xs.length + zs.length ≤ sizeLine ∧ Q .non (upd H l (.lst (xs ++ zs)))
theorem mt_extT (hK : X.K = K) : MtM X "list.extend" (rExtT K) := by
  subst hK
  intro pins s σ H x vs v us Q I rx rv ⟨l, b, xs, zs, ex, ev, hH, hB, hz, q⟩
  subst ex
  subst ev
  cases rx
  obtain ⟨u, rfl, ru⟩ := rv.one
  cases ru
  obtain ⟨z, its, n, r, hl, e⟩ := I.lstM hH
  obtain ⟨its2, r2, ⟨⟨oc, od, ob, os⟩, e2, ec, m, eb⟩, z2⟩ := I.tuple hB
  have hl2 := r2.length
  dsimp only at ec eb
  subst ec
  subst eb
  have hs : its.toArray.size + its2.toArray.size ≤ sizeLine := by
    rw [List.size_toArray, List.size_toArray]
    omega
  refine call_meets F.slot_list_extend ⟨_, e, rfl⟩ F.entry_list_extend (F.args_list_extend_2 _ _) (ext_tup l b its.toArray its2.toArray n m od os (fun c => ?_) (by omega) (by omega)) ⟨e, e2, ?_⟩
  · rw [notLongL hs, Bool.and_false] at c
    cases c
  · refine ⟨.non, _, I.lset (its' := its ++ its2) hH e (by simp) (r.append r2) ?_, rfl, q⟩
    rw [List.length_append]
    omega
/-- the items that a slice with a step picks -/
def pk3 {α : Type} (xs : List α) (lo hi : Option Int) (c : Int) : List α :=
  (List.range (Builtin.Slice.slicePlaces (Builtin.Slice.sliceAdjust lo hi c xs.length).1 (Builtin.Slice.sliceAdjust lo hi c xs.length).2 c)).filterMap fun (k : Nat) => xs[((Builtin.Slice.sliceAdjust lo hi c xs.length).1 + (k : Int) * c).toNat]?
theorem pk3_vals {xs : List V} {us : List Value} (r : Vals xs us) (lo hi : Option Int) (c : Int) : Vals (pk3 xs lo hi c) (pk3 us lo hi c) := by
  unfold pk3
  rw [r.length]
  generalize List.range (Builtin.Slice.slicePlaces (Builtin.Slice.sliceAdjust lo hi c us.length).1 (Builtin.Slice.sliceAdjust lo hi c us.length).2 c) = ks
  generalize (Builtin.Slice.sliceAdjust lo hi c us.length).1 = b
  induction ks with
  | nil => exact .nil
  | cons k ks ih =>
    rw [List.filterMap_cons, List.filterMap_cons]
    cases e : xs[(b + (k : Int) * c).toNat]? with
    | none =>
      have : us[(b + (k : Int) * c).toNat]? = none := by
        rw [List.getElem?_eq_none_iff] at e ⊢
        rw [← r.length]
        exact e
      rw [this]
      exact ih
    | some x =>
      obtain ⟨u, e2, ru⟩ := Vals.get r e
      rw [e2]
      exact .cons ru ih
theorem pk3_len {α : Type} (xs : List α) (lo hi : Option Int) (c : Int) : (pk3 xs lo hi c).length ≤ Builtin.Slice.slicePlaces (Builtin.Slice.sliceAdjust lo hi c xs.length).1 (Builtin.Slice.sliceAdjust lo hi c xs.length).2 c := by
  unfold pk3
  refine Nat.le_trans (List.length_filterMap_le _ _) ?_
  rw [List.length_range]
  exact Nat.le_refl _
end
section
variable {prog : Program} {w : World} {A : Around} {E : Value → Shared → Prop} {s : Shared}
theorem applied3 {sl : Addr} {vl vu vs : Value} {lo hi : Option Int} {c : Int} {n : Nat} {Q : Int × Int × Nat → Shared → Prop} (hs : s.heap.IsSliceOf sl vl vu vs) (pl : IsPart vl lo) (pu : IsPart vu hi) (ps : IsPart vs (some c)) (hc : c ≠ 0)
    (h : Q ((Builtin.Slice.sliceAdjust lo hi c n).1, c, Builtin.Slice.slicePlaces (Builtin.Slice.sliceAdjust lo hi c n).1 (Builtin.Slice.sliceAdjust lo hi c n).2 c) s) :
    wpAny (model prog w) A (Builtin.Slice.sliceApplied (.ref sl) (pure (n : Int))) Q E s := by
  obtain ⟨ob, g1, _, g3⟩ := id hs
  unfold Builtin.Slice.sliceApplied Builtin.Slice.sliceFields
  refine wpAny_bind (wpAny_bind (wpAny_field g1 g3 (x := vl) rfl (wpAny_bind (wpAny_field g1 g3 (x := vu) rfl (wpAny_bind (wpAny_field g1 g3 (x := vs) rfl (wpAny_pure ?_)))))))
  refine wpAny_bind (HT.slicePart_ ps ?_)
  show wpAny _ _ (if (c == 0) = true then _ else _) _ _ s
  rw [if_neg (by simpa using hc)]
  refine wpAny_bind (HT.slicePart_ pl (wpAny_bind (HT.slicePart_ pu (wpAny_bind (wpAny_pure ?_)))))
  show wpAny _ _ (match Builtin.Slice.sliceAdjust lo hi c (n : Int) with | (lo, hi) => pure (lo, c, Builtin.Slice.slicePlaces lo hi c)) _ _ s
  exact wpAny_pure h
theorem item3 {t sl : Addr} {items : List Value} {vl vu vs : Value} {lo hi : Option Int} {c : Int} {Q : Value → Shared → Prop} (ht : IsTup s.heap t items.toArray) (hs : s.heap.IsSliceOf sl vl vu vs) (pl : IsPart vl lo) (pu : IsPart vu hi) (ps : IsPart vs (some c)) (hc : c ≠ 0)
    (h1 : c ≠ 1) (h : Q (.ref s.heap.objs.size) { s with heap := s.heap.push { cls := .type "tuple", data := .seq (pk3 items lo hi c).toArray } }) (hz : (pk3 items lo hi c).length ≤ sizeLine) :
    wpAny (model prog w) A (getItem (.ref t) (.ref sl)) Q E s := by
  have fits : sizeOk (.seq (pk3 items lo hi c).toArray) := by
    show (pk3 items lo hi c).toArray.size ≤ sizeLine
    rw [List.size_toArray]
    exact hz
  have isl : s.TypeIs (.ref sl) "slice" := by
    obtain ⟨ob, g1, g2, _⟩ := id hs
    exact ⟨ob, g1, g2⟩
  unfold getItem
  try with_reducible refine wpAny_holding ?_
  first | refine wpAny_bind (wpAny_pure ?_) | skip
  refine wpAny_bind (wpAny_sequenceKey ht.typeIs (by decide) (wpAny_bind (wpAny_callSpecial?_slot (name := Str.ofString "__getitem__") ht.typeIs slot_tuple_getitem (wpAny_call_entry slot_tuple_getitem ht.typeIs entry_tuple_getitem ?_ (args_tuple_getitem _ _)))))
  show wpAny _ _ (Builtin.Tuple.tupleItemsOf (.ref t) >>= _) _ _ s
  refine wpAny_bind (tupleItemsOf_ ht (wpAny_bind (wpAny_typeOf isl ?_)))
  rw [if_pos (by decide)]
  refine wpAny_bind (applied3 hs pl pu ps hc ?_)
  have no : ¬ (((Builtin.Slice.sliceAdjust lo hi c items.toArray.size).1 == 0 && c == 1 && (Builtin.Slice.slicePlaces (Builtin.Slice.sliceAdjust lo hi c items.toArray.size).1 (Builtin.Slice.sliceAdjust lo hi c items.toArray.size).2 c) == items.toArray.size) = true) := fun q => by
    rw [Bool.and_eq_true, Bool.and_eq_true] at q
    exact h1 (eq_of_beq q.1.2)
  have e : ((List.range (Builtin.Slice.slicePlaces (Builtin.Slice.sliceAdjust lo hi c items.toArray.size).1 (Builtin.Slice.sliceAdjust lo hi c items.toArray.size).2 c)).filterMap fun (k : Nat) => items.toArray[((Builtin.Slice.sliceAdjust lo hi c items.toArray.size).1 + (k : Int) * c).toNat]?) = pk3 items lo hi c := by
    unfold pk3
    rw [List.size_toArray]
    simp only [List.getElem?_toArray]
  show wpAny _ _ (if ((Builtin.Slice.sliceAdjust lo hi c items.toArray.size).1 == 0 && c == 1 && (Builtin.Slice.slicePlaces (Builtin.Slice.sliceAdjust lo hi c items.toArray.size).1 (Builtin.Slice.sliceAdjust lo hi c items.toArray.size).2 c) == items.toArray.size) = true then _ else _) _ _ s
  rw [if_neg no, e]
  first
    | exact wpAny_bind (m := Builtin.Tuple.tupleExact _) (wpAny_newObj_type (wpAny_pure ⟨_, rfl, wpAny_pure h⟩) fits)
    | exact wpAny_bind (m := Builtin.Tuple.tupleExact _) (wpAny_newObj_type (wpAny_bind (wpAny_pure (wpAny_pure ⟨_, rfl, wpAny_pure h⟩))) fits)
    | exact wpAny_bind (wpAny_bind (m := Builtin.Tuple.tupleExact _) (wpAny_newObj_type (wpAny_pure (wpAny_pure ⟨_, rfl, wpAny_pure h⟩)) fits))
    | exact wpAny_bind (wpAny_bind (m := Builtin.Tuple.tupleExact _) (wpAny_newObj_type (wpAny_pure ⟨_, rfl, wpAny_pure h⟩) fits))
end
section
variable {X : Cx} {K : PySem.W.Frag} {e s3 : Expr} {lo hi : Option Expr} {te : TE} {tl th t3 : TO} {p3 pos : Pos}
def tSl3 (K : PySem.W.Frag) (te : TE) (tl th t3 : TO) : TE := fun σ H Q => te σ H fun x H1 => tl σ H1 fun l H2 => th σ H2 fun u H3 => t3 σ H3 fun c H4 => ∃ a xs k, x = .ref a ∧ c = some k ∧ SqT K H4 a xs ∧ k ≠ 0 ∧ k ≠ 1 ∧ (pk3 xs l u k).length ≤ sizeLine ∧
  ∀ p, H4 p = none → Q (.ref p) (upd H4 p (.tup (pk3 xs l u k)))
theorem pe_sl3 (hK : X.K = K) (he : PE X e te) (hl : PO X lo tl) (hu : PO X hi th) (h3 : PO X (some s3) t3) (ho : ∀ a b : Addr, ∃ ops, subscripted (Expr.Slice lo hi (some s3) p3) false (.ref a) (.ref b) = operate ops (getItem (.ref a) (.ref b)) := by exact fun _ _ => ⟨_, rfl⟩) : PE X (.Subscript e (.Slice lo hi (some s3) p3) pos) (tSl3 K te tl th t3) := by
  subst hK
  refine ⟨fun pins s σ H Q I h => Subscript_ (thn (he.run pins s σ H _ I h) fun v s1 ⟨x, H1, I1, r1, q1⟩ => wpAny_Slice (thn (hl.run pins s1 σ H1 _ I1 q1) fun vl s2 ⟨l, H2, I2, pl, q2⟩ => thn (hu.run pins s2 σ H2 _ I2 q2) fun vu s4 ⟨u, H3, I3, pu, q3⟩ =>
    thn (h3.run pins s4 σ H3 _ I3 q3) fun vc s5 ⟨c, H4, I4, pc, q4⟩ => ?_))⟩
  obtain ⟨a, xs, k, ex, ec, hx, k0, k1, hz, q⟩ := q4
  subst ex
  subst ec
  cases r1
  have I5 : Inv X pins σ H4 { s5 with heap := s5.heap.push { cls := .type "slice", data := .fields #[vl, vu, vc] } } := I4.kept (t' := s5.toks) fun b ob q => Heap.get?_push_of_some _ q
  obtain ⟨its, r, ht, _⟩ := I5.tuple hx
  have rv := pk3_vals r l u k
  show wpAny (model X.prog X.w) X.A (subscriptTail e (.Slice lo hi (some s3) p3) (.ref a) (.ref s5.heap.objs.size)) (EP X pins σ Q) X.xe { s5 with heap := s5.heap.push { cls := .type "slice", data := .fields #[vl, vu, vc] } }
  obtain ⟨ops, hops⟩ := ho a s5.heap.objs.size
  refine tail_any (ops := ops) ht.typeIs (slot_tuple_getitem.lookup) ?_ hops
  refine item3 ht (Heap.IsSliceOf.new _ vl vu vc) pl pu pc k0 k1 ?_ (by rw [← rv.length]; exact hz)
  refine ⟨.ref _, _, I5.laid (t' := s5.toks) (o := .tup (pk3 xs l u k)) (fun b ob q => Heap.get?_push_of_some _ q) (Nat.le_refl _) ?_, rfl, q _ (I5.hok.fresh (Nat.le_refl _))⟩
  exact ⟨hz, _, rv, IsTup.new _ _⟩
end
end Tx

/-! ### own rules: set(xs), xs a list of ints; sorted of it -/
namespace Tz
open PySem PySem.Spec PyProof.Rows L2
section
variable {P : Program} {w : World} {A : Around} {E : Value → Shared → Prop} {s : Shared}
/-- the new set, empty -/
abbrev nul (w : World) : Obj := { cls := .type "set", dict := none, data := .set #[] 0 (.fresh 0 0 (!w.params.followText "set-order")) }
/-- what the filling leaves behind -/
def Filled (w : World) (s : Shared) (ns : List Int) (s2 : Shared) : Prop := ∃ h' tk c, s2 = { s with heap := h', toks := tk } ∧ SetR w h' s.heap.objs.size (fun j => decide (j ∈ ns)) c ∧ c ≤ ns.length ∧ ∀ b o, s.heap.get? b = some o → h'.get? b = some o
theorem set_of_list {l : Addr} {items : Array Value} (ns : List Int) {Q : Value → Shared → Prop} (hh : A.handled = none) (hl : s.heap.IsList l items) (hit : IntsAre items.toList ns) (hb : ns.length + 1 < scanBound)
    (h : ∀ s2, Filled w s ns s2 → Q (.ref s.heap.objs.size) s2) : wpAny (model P w) A (call (.type "set") [.ref l]) Q E s := by
  have hisz : items.size = ns.length := by
    have q := IntsAre.length hit
    rwa [Array.length_toList] at q
  have hS : (s.heap.push (nul w)).get? s.heap.objs.size = some (nul w) := Heap.get?_push_size _ rfl
  have hlt : l < s.heap.objs.size := by
    obtain ⟨o, ho, _⟩ := hl
    exact Heap.lt_size ho
  obtain ⟨c, tl, hmro⟩ := F.called_set.mro
  have m1 := F.called_set.made
  have m2 := F.called_set.sub
  refine wpAny_call (codeAny_of_tree ?_)
  show wpAny _ _ (callAny (.type "set") _) _ _ _
  refine wpAny_pure ⟨Code.quiet_builtin _ (by decide +kernel), codeAny_builtin F.entry_type_call ?_⟩
  rw [Around.under_plain (weight_type_call_type "set" [.ref l] []) rfl]
  have m3 := F.called_set.notType
  have m4 := F.called_set.canCreate
  have m5 := F.typeCall_set_1 (.ref l)
  repeat (any_goals (first | assumption | wp_step))
  refine codeAny_mono (code_set_led1 (.ref l) (E := E) (Q₁ := fun obj s1 => obj = .ref s.heap.objs.size ∧ s1 = { s with heap := s.heap.push (nul w) }) ⟨rfl, rfl⟩) fun r s1 hr => ?_
  cases r with
  | error e => exact hr
  | ok fl =>
    cases fl with
    | next => exact hr.elim
    | brk => exact hr.elim
    | cont => exact hr.elim
    | ret obj =>
      obtain ⟨rfl, rfl⟩ := hr
      have hT : Shared.TypeIs { s with heap := s.heap.push (nul w) } (.ref s.heap.objs.size) "set" := ⟨_, hS, rfl⟩
      have m6 := F.called_set.init.lookup
      have m7 := F.called_set.init.bind (.ref s.heap.objs.size)
      repeat (any_goals (first | assumption | wp_step))
      refine codeAny_mono (codeAny_call_builtin (R := wants (fun r s2 => r = .none ∧ Filled w s ns s2) E) F.called_set.init.plain F.entry_set_init (check_set_init_1 hT ?_)) fun r2 s2 hr2 => ?_
      · obtain ⟨ol, hol, hcl, nl, hdl⟩ := hl
        obtain ⟨ocls, odict, odata, oslots⟩ := ol
        simp only at hcl hdl
        subst hcl
        subst hdl
        have hol' := Heap.get?_push_of_some (nul w) hol
        have q1 := F.sub_list_set
        have q2 := F.sub_list_frozenset
        have q3 : (Value.type "list" == Value.type "dict") = false := by decide
        have hl1 : (s.heap.push (nul w)).IsList l items := ⟨_, hol', rfl, nl, rfl⟩
        unfold Builtin.«set.__init__» noKeywords Builtin.Frozenset.updateFrom
        generalize hPI : pyIter = PI
        wp_walk
        subst hPI
        refine wpAny_pyIter_list hl1 ?_
        refine wpAny_bind (wpAny_runValue ?_)
        have hh3 : A.in1.in1.in1.handled = none := by simp [hh]
        have n1 : l ≠ (s.heap.push (nul w)).objs.size := by
          rw [Heap.size_push]
          exact Nat.ne_of_lt (Nat.lt_succ_of_lt hlt)
        have n2 : s.heap.objs.size ∉ [(s.heap.push (nul w)).objs.size, l] := by
          rw [Heap.size_push]
          simp only [List.mem_cons, List.not_mem_nil, or_false, not_or]
          exact ⟨Nat.ne_of_lt (Nat.lt_succ_self _), Nat.ne_of_gt hlt⟩
        have vals : ∀ (i : Nat) (v : Value), items[i]? = some v → ∃ k t, ns[i]? = some k ∧ v = .int k t := fun i v hv => by
          have hi : i < ns.length := by rw [← hisz]; exact (Array.getElem?_eq_some_iff.mp hv).1
          obtain ⟨t, e⟩ := PyProof.Rows.IntsAre.int_at hit i v (by rw [Array.getElem?_toList]; exact hv)
          exact ⟨ns[i], t, List.getElem?_eq_getElem hi, by rw [e, List.getD_eq_getElem?_getD, List.getElem?_eq_getElem hi]; rfl⟩
        refine set_update_ints ((Walks.list hh3 _ l n1 items).toS) s.heap.objs.size n2 ns hisz hb vals (items.size - 0) 0 _ (by omega) (Nat.zero_le _)
          ⟨⟨_, Heap.get?_push_size _ rfl, rfl, rfl⟩, (hl1.push _)⟩ ⟨0, Nat.le_refl 0, setR_new_at (Heap.get?_push_of_some _ hS)⟩ fun s' c' hm hc' hS' => ?_
        obtain ⟨h', g2, d', tk', os'⟩ := s'
        obtain rfl : g2 = s.gens := hm.gens
        obtain rfl : d' = s.drawn := hm.drawn
        obtain rfl : os' = s.os := hm.os
        show wpAny _ _ _ _ _ _
        refine wpAny_pure ?_
        show wpAny _ _ (ret Value.none) _ _ _
        rw [hisz] at hc'
        refine wpAny_pure ⟨rfl, h', tk', c', rfl, hS', hc', fun b o e => ?_⟩
        have b0 : b < s.heap.objs.size := Heap.lt_size e
        refine hm.heap b o ?_ (Heap.get?_push_of_some _ (Heap.get?_push_of_some _ e))
        rw [Heap.size_push]
        simp only [List.mem_cons, List.not_mem_nil, or_false, not_or]
        exact ⟨Nat.ne_of_lt b0, Nat.ne_of_lt (Nat.lt_succ_of_lt b0)⟩
      · cases r2 with
        | error e => exact hr2
        | ok fl2 =>
          cases fl2 with
          | next => exact hr2.elim
          | brk => exact hr2.elim
          | cont => exact hr2.elim
          | ret r =>
            obtain ⟨rfl, hf⟩ := hr2
            have hf2 := hf
            obtain ⟨h', tk, c, rfl, _⟩ := hf2
            repeat (any_goals (first | assumption | wp_step))
            exact h _ hf
end
section
variable {X : Cx} {K : PySem.W.Frag} {w : World}
/-- set(xs), xs a list of ints -/
def rSetLI (K : PySem.W.Frag) (w : World) : List V → Hp → VK → Prop := fun xs H Q => ∃ (l : Addr) (ns : List Int), xs = [V.ref l] ∧ SqL K H l (ns.map V.int) ∧ ns.length + 1 < scanBound ∧
  ∀ p c, H p = none → c ≤ ns.length → Q (.ref p) (upd H p (SetO w p (fun j => decide (j ∈ ns)) c))
theorem cr_setLI (h : X.K = K) (hw : X.w = w) (hc : X.calm = true) : CallR X (.type "set") (rSetLI K w) := by
  subst h
  subst hw
  intro pins s σ H xs us Q I r h
  obtain ⟨l, ns, rfl, hl, hb, q⟩ := h
  rw [Vals.ref1 r]
  obtain ⟨its, rv, pl, hz⟩ := I.list hl
  refine set_of_list (P := X.prog) (w := X.w) ns (I.ok.hd hc) pl.isList rv.ints hb fun s2 hf => ?_
  obtain ⟨h', tk, c, rfl, R, hcl, hk⟩ := hf
  exact ⟨.ref _, upd H s.heap.objs.size (SetO X.w s.heap.objs.size (fun j => decide (j ∈ ns)) c), I.laid (t' := tk) hk (Nat.le_refl _) (setO_new R), rfl, q _ c (I.hok.fresh (Nat.le_refl _)) hcl⟩
theorem cr_sortedSet' (hw : X.w = w) (hc : X.calm = true) : CallR X (.builtin "sorted") (rSortedSet w) := by
  subst hw
  exact cr_sortedSet hc
end
end Tz

namespace Bx
open PySem PySem.Spec PyProof.Rows L2
def mf (I O L : Int) (ot rt : Addr) : List (Str × V) := putF "rows" (.ref rt) (putF "opening" (.ref ot) (putF "lead" (.int L) (putF "outputs" (.int O) (putF "inputs" (.int I) []))))
theorem mf_I (I O L : Int) (a b : Addr) : (mf I O L a b).lookup ("inputs" : Str) = some (.int I) := by
  unfold mf
  rw [lookup_putF, if_neg (by decide +kernel), lookup_putF, if_neg (by decide +kernel), lookup_putF, if_neg (by decide +kernel), lookup_putF, if_neg (by decide +kernel), lookup_putF, if_pos rfl]
theorem mf_O (I O L : Int) (a b : Addr) : (mf I O L a b).lookup ("outputs" : Str) = some (.int O) := by
  unfold mf
  rw [lookup_putF, if_neg (by decide +kernel), lookup_putF, if_neg (by decide +kernel), lookup_putF, if_neg (by decide +kernel), lookup_putF, if_pos rfl]
theorem mf_L (I O L : Int) (a b : Addr) : (mf I O L a b).lookup ("lead" : Str) = some (.int L) := by
  unfold mf
  rw [lookup_putF, if_neg (by decide +kernel), lookup_putF, if_neg (by decide +kernel), lookup_putF, if_pos rfl]
theorem mf_o (I O L : Int) (a b : Addr) : (mf I O L a b).lookup ("opening" : Str) = some (.ref a) := by
  unfold mf
  rw [lookup_putF, if_neg (by decide +kernel), lookup_putF, if_pos rfl]
theorem mf_r (I O L : Int) (a b : Addr) : (mf I O L a b).lookup ("rows" : Str) = some (.ref b) := by
  unfold mf
  rw [lookup_putF, if_pos rfl]
structure MchC (K : PySem.W.Frag) (C : Addr) : Prop where
  cl : Cls K C
  nI : NoAttr K C "inputs"
  nO : NoAttr K C "outputs"
  nL : NoAttr K C "lead"
  no : NoAttr K C "opening"
  nr : NoAttr K C "rows"
/-- rows of pairs -/
structure RP (mk : List V → HO) (H : Hp) (as : List Addr) (c : List (List (Int × Int))) : Prop where
  len : as.length = c.length
  g : ∀ (i : Nat) (a : Addr), as[i]? = some a → ∃ (bs : List Addr) (row : List (Int × Int)), c[i]? = some row ∧ H a = some (mk (bs.map V.ref)) ∧ bs.length = row.length ∧ ∀ (j : Nat) (b : Addr), bs[j]? = some b → ∃ t l, row[j]? = some (t, l) ∧ H b = some (.tup [.int t, .int l])
theorem RP.same {mk : List V → HO} {H H' : Hp} {as : List Addr} {c : List (List (Int × Int))} (s : Same H H') (h : RP mk H as c) : RP mk H' as c := ⟨h.len, fun i a e => by
  obtain ⟨bs, row, h1, h2, h3, h4⟩ := h.g i a e
  exact ⟨bs, row, h1, s _ _ h2, h3, fun j b hb => by obtain ⟨t, l, h5, h6⟩ := h4 j b hb; exact ⟨t, l, h5, s _ _ h6⟩⟩⟩
def LPr (H : Hp) (r : Addr) (as : List Addr) (c : List (List (Int × Int))) : Prop := H r = some (.lst (as.map V.ref)) ∧ RP .lst H as c
theorem LPr.same {H H' : Hp} {r : Addr} {as : List Addr} {c : List (List (Int × Int))} (s : Same H H') (h : LPr H r as c) : LPr H' r as c := ⟨s _ _ h.1, h.2.same s⟩
def MchAt (C : Addr) (H : Hp) (x : Addr) (I O L : Int) (op : List Int) (c : List (List (Int × Int))) : Prop := ∃ (dx ot rt : Addr) (as : List Addr), H x = some (.ins C dx (mf I O L ot rt)) ∧ TupI H ot op ∧ H rt = some (.tup (as.map V.ref)) ∧ RP .tup H as c
theorem mch_same {C : Addr} {H H' : Hp} {x : Addr} {I O L : Int} {op : List Int} {c : List (List (Int × Int))} (s : Same H H') (h : MchAt C H x I O L op c) : MchAt C H' x I O L op c := by
  obtain ⟨dx, ot, rt, as, e1, e2, e3, e4⟩ := h
  exact ⟨dx, ot, rt, as, s _ _ e1, s _ _ e2, s _ _ e3, e4.same s⟩
/-- objects that are no lists stay where only lists change -/
theorem RP.keepT {H H' : Hp} {as : List Addr} {c : List (List (Int × Int))} (k : ∀ b xs, H b = some (.tup xs) → H' b = some (.tup xs)) (h : RP .tup H as c) : RP .tup H' as c := ⟨h.len, fun i a e => by
  obtain ⟨bs, row, h1, h2, h3, h4⟩ := h.g i a e
  exact ⟨bs, row, h1, k _ _ h2, h3, fun j b hb => by obtain ⟨t, l, h5, h6⟩ := h4 j b hb; exact ⟨t, l, h5, k _ _ h6⟩⟩⟩
/-- what holds of a machine -/
structure Vm (I O L : Int) (op : List Int) (c : List (List (Int × Int))) : Prop where
  i1 : 1 ≤ I
  o1 : 1 ≤ O
  l0 : -3 ≤ L
  l1 : L ≤ 2
  op_len : (op.length : Int) = max 0 (-L)
  ne : c ≠ []
  w : ∀ r ∈ c, (r.length : Int) = I
  st : ∀ r ∈ c, ∀ p ∈ r, 0 ≤ p.1 ∧ p.1 < (c.length : Int)
  op_in : ∀ z ∈ op, 0 ≤ z ∧ z < O
  em : ∀ r ∈ c, ∀ p ∈ r, 0 ≤ p.2 ∧ p.2 < O
end Bx
/-! own rule: a tuple times 1 is that tuple -/
namespace Bx
open PySem PySem.Spec PyProof.Rows L2
theorem mul_one (l : Addr) (items : Array Value) (n : Nat) (dd : Option Addr) (sl : Array (Option Value)) (u : Tok) :
    Meets (Builtin.«tuple.__mul__» ⟨[.ref l, .int 1 u], []⟩) (fun _ R s => s.heap.get? l = some { cls := .type "tuple", dict := dd, data := .seq items n, slots := sl } ∧ R (.ok (.ret (.ref l))) s) := .of_wp fun prog w A R s h => by
  obtain ⟨hp, g, d, tk, os⟩ := s
  obtain ⟨hl, h⟩ := h
  have q1 := AutoSeq1.idx_int
  wp_walk using AutoSeq1.wpAny_loadPart' hl
  repeat (first
    | (refine wpAny_ite_true (decide_eq_true (by simp)) ?_; wp_walk using AutoSeq1.wpAny_loadPart' hl)
    | (refine wpAny_ite_false (decide_eq_false (by simp)) ?_; wp_walk using AutoSeq1.wpAny_loadPart' hl))
  exact ⟨_, rfl, h⟩
def rRep1 (K : PySem.W.Frag) : R2 := fun x y H Q => ∃ l k xs, x = .ref l ∧ y = .int k ∧ SqT K H l xs ∧ xs ≠ [] ∧ 1 ≤ k ∧ k ≤ 1000 ∧ xs.length ≤ 1000 ∧ (k = 1 → Q (.ref l) H) ∧ (2 ≤ k → ∀ p, H p = none → Q (.ref p) (upd H p (.tup (List.replicate k.toNat xs).flatten)))
theorem op_rep1K {X : Cx} {K : PySem.W.Frag} (h : X.K = K) : OpR X (binaryOp .Mult) (rRep1 K) := by
  subst h
  intro pins s σ H x y v u Q I rx ry h
  obtain ⟨l, k, xs, ex, ey, hT, hne, h1, h2, hz, q1, q2⟩ := h
  by_cases c : k = 1
  · subst c
    subst ex
    subst ey
    cases rx
    obtain ⟨t, rfl⟩ := ry
    obtain ⟨its, r, ⟨⟨cls, dd, data, sl⟩, ho, hc, n, hd⟩, _⟩ := I.tuple hT
    simp only at hc hd
    subst hc hd
    refine wpAny_binaryOp_repeat_ref (T := "tuple") (U := "int") (by decide) ⟨_, ho, rfl⟩ (fun s' => typeIs_int s' 1 t) noFill_tuple_mul F.fills_int_mul F.slot_int_rmul repeat_tuple F.slot_int_index.lookup
      (call_meets F.slot_int_rmul (typeIs_int s 1 t) F.entry_int_rmul (F.args_int_rmul_2 _ _) (int_rmul_tuple 1 t l its.toArray n dd sl)
        ⟨ho, rfl, ⟨_, ho, rfl⟩, call_meets F.slot_tuple_mul ⟨_, ho, rfl⟩ F.entry_tuple_mul (F.args_tuple_mul_2 _ _) (mul_one l its.toArray n dd sl t) ⟨ho, ?_⟩⟩)
    exact ⟨.ref l, H, I, rfl, q1 rfl⟩
  · exact op_repT pins s σ H x y v u Q I rx ry ⟨l, k, xs, ex, ey, hT, hne, by omega, h2, hz, q2 (by omega)⟩
end Bx
namespace Bx
open PySem PySem.Spec PyProof.Rows L2
section
variable {X : Cx} {K : PySem.W.Frag}
theorem pe_revLK {e : Expr} {te : TE} {k : Nat} {p1 p2 p3 pos : Pos} (h : X.K = K) (he : PE X e te) : PE X (.Subscript e (.Slice none none (some (.UnaryOp .USub (.Constant (.int 1) k p1) p2)) p3) pos) (tRevL K te) := by
  subst h
  exact pe_revL he
end
section
variable {X : Cx} {k : Nat} {C f : Addr} {fd : FuncData} {ps : List Str} {sp : Sp} {W : WX} {m fl : Str} {p pos apos : Pos} {e o : Expr} {es : List Expr} {ta : TE} {t : TA}
/-- o.f as a target -/
def gFld (K : PySem.W.Frag) (to : TE) (f : Str) : TG := fun v σ H Q => to σ H fun x H2 => ∃ a C dx fs, x = .ref a ∧ H2 a = some (.ins C dx fs) ∧ Cls K C ∧ NoAttr K C f ∧ fs.length < 1000 ∧ Q σ (upd H2 a (.ins C dx (putF f v fs)))
theorem pg_fld (ho : PE X o ta) (ha : ∀ v, assign (.Attribute o fl pos) X.env v = (do
      let ov ← holding [v] (eval o X.env)
      standAt pos.atName
      holding [v, ov] (setAttr ov fl v)
      release [v, ov] []) := by intro _; rfl) : PG X (.Attribute o fl pos) (gFld X.K ta fl) := by
  refine ⟨fun pins s σ H v u Q I r h => ?_⟩
  rw [ha]
  refine wpAny_bind (wpAny_holding (thn (ho.run pins s σ H _ I h) fun ov s1 ⟨x, H1, I1, r1, a, C, dx, fs, ex, ea, c, n, l, q⟩ => ?_))
  subst ex
  obtain rfl : ov = Value.ref a := r1
  refine wpAny_bind (wpAny_standAt (wpAny_bind (wpAny_holding (setattr_ok I1 ea c n l r fun s3 I3 => ?_))))
  exact wpAny_release ⟨σ, _, I3, q⟩
/-- o.m(e) where the method may raise, in a try -/
def tMethX (C : Addr) (m : Str) (sp : Sp) (E : L2.St → XK) (ta : TE) (t : TA) : TE := fun σ H Q => ta σ H fun x H1 => ∃ a dx fs, x = .ref a ∧ H1 a = some (.ins C dx fs) ∧ fs.lookup m = none ∧ t σ H1 fun vs H2 => sp (x :: vs) H2 Q (E σ)
theorem pe_methX {pl : Sem Bool} (he : PE X o ta) (c : Cls X.K C) (hm : Meth X.K C m f) (F : FnOk X.prog X.w X.K X.mg X.base (L2.CX X.prog X.w) k f fd ps sp) (hr : Room k X.A) (hb : Binds X.K fd ps []) (tk : Takes X W) (ha : PA X (e :: es) t)
    (hst : starEach (e :: es) X.env = (false, eval e X.env) :: starEach es X.env := by rfl) (hpl : (backTo pos (starEach es X.env)).any (·.1) = false := by rfl)
    (ht : eval (.Call (.Attribute o m apos) (e :: es) [] pos) X.env = (do
      let ov ← eval o X.env
      standAt apos.atName
      let (f, first) ← holding [ov] (getMethod ov m pl)
      callWith pos f first (backTo pos (starEach (e :: es) X.env)) (backToKw pos (keywordEach [] X.env))) := by rfl) :
    PE X (.Call (.Attribute o m apos) (e :: es) [] pos) (tMethX C m sp (WE W) ta t) := by
  refine ⟨fun pins s σ H Q I h => ?_⟩
  refine PySem.W.methodCall_KW (pl := pl) (thn (he.run pins s σ H _ I h) fun u s1 ⟨x, H1, I1, rx, a, dx, fs, ex, ea, l, q⟩ => ?_) ht
  subst ex
  obtain rfl : u = Value.ref a := rx
  refine getmeth_ok I1 ea c hm l ?_
  refine PySem.W.callWith_K (first := [.ref a]) (h₀ := X.base) I.ok.mod.kin hm.kp (thn (ha.run pos pins s1 σ H1 _ I1 q) fun us s2 ⟨vs, H2, I2, r, q2⟩ => ⟨I2.kIn, ?_⟩) hst hpl
  exact run_fnS (us := .ref a :: us) (vs := .ref a :: vs) F hr hb (passAt tk σ) I2 (.cons rfl r) q2
end
/-- a journal's attributes -/
def jf (ma : Addr) (sp : Int) (tx : Str) (st tu : Int) (an : Addr) : List (Str × V) := [("machine", .ref ma), ("spacing", .int sp), ("text", .str tx), ("state", .int st), ("turns", .int tu), ("answers", .ref an)]
theorem jf_text (ma sp tx st tu an t') : putF "text" (.str t') (jf ma sp tx st tu an) = jf ma sp t' st tu an := by rfl
theorem jf_state (ma sp tx st tu an t') : putF "state" (.int t') (jf ma sp tx st tu an) = jf ma sp tx t' tu an := by rfl
theorem jf_turns (ma sp tx st tu an t') : putF "turns" (.int t') (jf ma sp tx st tu an) = jf ma sp tx st t' an := by rfl
theorem jl_m (ma sp tx st tu an) : (jf ma sp tx st tu an).lookup ("machine" : Str) = some (V.ref ma) := by rfl
theorem jl_sp (ma sp tx st tu an) : (jf ma sp tx st tu an).lookup ("spacing" : Str) = some (V.int sp) := by rfl
theorem jl_tx (ma sp tx st tu an) : (jf ma sp tx st tu an).lookup ("text" : Str) = some (V.str tx) := by rfl
theorem jl_st (ma sp tx st tu an) : (jf ma sp tx st tu an).lookup ("state" : Str) = some (V.int st) := by rfl
theorem jl_tu (ma sp tx st tu an) : (jf ma sp tx st tu an).lookup ("turns" : Str) = some (V.int tu) := by rfl
theorem jl_an (ma sp tx st tu an) : (jf ma sp tx st tu an).lookup ("answers" : Str) = some (V.ref an) := by rfl
theorem jl_hear (ma sp tx st tu an) : (jf ma sp tx st tu an).lookup ("hear" : Str) = none := by rfl
theorem jf_new (ma : Addr) (sp : Int) (tx : Str) (an : Addr) : putF "answers" (.ref an) (putF "turns" (.int 0) (putF "state" (.int 0) (putF "text" (.str tx) (putF "spacing" (.int sp) (putF "machine" (.ref ma) []))))) = jf ma sp tx 0 0 an := by rfl
structure JrnC (K : PySem.W.Frag) (C : Addr) : Prop where
  cl : Cls K C
  nm : NoAttr K C "machine"
  nsp : NoAttr K C "spacing"
  ntx : NoAttr K C "text"
  nst : NoAttr K C "state"
  ntu : NoAttr K C "turns"
  nan : NoAttr K C "answers"
/-- all but some objects stay -/
def Kpl (l : List Addr) (H H' : Hp) : Prop := ∀ b o, b ∉ l → H b = some o → H' b = some o
theorem Kpl.refl (l : List Addr) (H : Hp) : Kpl l H H := fun _ _ _ h => h
theorem Kpl.trans {l : List Addr} {H H1 H2 : Hp} (a : Kpl l H H1) (b : Kpl l H1 H2) : Kpl l H H2 := fun x o n h => b _ _ n (a _ _ n h)
theorem Kpl.same {l : List Addr} {H H1 : Hp} (s : Same H H1) : Kpl l H H1 := fun x o _ h => s _ _ h
theorem Kpl.own {l : List Addr} {H : Hp} {a : Addr} {o : HO} (h : a ∈ l) : Kpl l H (upd H a o) := fun x o' n hx => by rw [upd_ne (fun z => n (by rw [z]; exact h))]; exact hx
theorem Kpl.more {l l' : List Addr} {H H1 : Hp} (k : Kpl l H H1) (h : ∀ a ∈ l, a ∈ l') : Kpl l' H H1 := fun x o n hx => k _ _ (fun z => n (h _ z)) hx
theorem sat {H H' : Hp} {a : Addr} {o : HO} (s : Same H H') (h : H a = some o) : H' a = some o := s _ _ h
end Bx
namespace Dm
open PySem PySem.Builtin TL
def pad (k : Nat) (l : List Nat) : List Nat := List.replicate (k - l.length) 48 ++ l
theorem pad_snoc (k : Nat) (l : List Nat) (c : Nat) : pad (k + 1) (l ++ [c]) = pad k l ++ [c] := by
  unfold pad
  rw [List.length_append, show k + 1 - (l.length + [c].length) = k - l.length by simp only [List.length_singleton]; omega, List.append_assoc]
theorem numL_pad : ∀ (k q r : Nat), 1 ≤ q → r < 10 ^ (k + 1) → numL (q * 10 ^ (k + 1) + r) = numL q ++ pad (k + 1) (numL r)
  | 0, q, r, hq, hr => by
    have hr : r < 10 := by simpa using hr
    rw [numL_step (by omega), show (q * 10 ^ (0 + 1) + r) / 10 = q by omega, show (q * 10 ^ (0 + 1) + r) % 10 = r by omega, numL_lt hr]
    rfl
  | k + 1, q, r, hq, hr => by
    have e1 : q * 10 ^ (k + 1 + 1) + r = (q * 10 ^ (k + 1)) * 10 + r := by rw [Nat.pow_succ 10 (k + 1), Nat.mul_assoc]
    have hp : 1 ≤ 10 ^ (k + 1) := Nat.one_le_iff_ne_zero.mpr (Nat.pos_iff_ne_zero.mp (Nat.pow_pos (by decide)))
    have hq1 : 1 ≤ q * 10 ^ (k + 1) := Nat.mul_le_mul hq hp
    have hr2 : r / 10 < 10 ^ (k + 1) := by
      rw [Nat.pow_succ 10 (k + 1)] at hr
      omega
    rw [e1, numL_step (by omega), show ((q * 10 ^ (k + 1)) * 10 + r) / 10 = q * 10 ^ (k + 1) + r / 10 by omega, show ((q * 10 ^ (k + 1)) * 10 + r) % 10 = r % 10 by omega, numL_pad k q (r / 10) hq hr2]
    by_cases h : r < 10
    · rw [numL_lt h, show r / 10 = 0 by omega, show r % 10 = r by omega, numL_lt (by decide : (0 : Nat) < 10)]
      unfold pad
      simp only [List.length_singleton]
      rw [show k + 1 + 1 - 1 = (k + 1 - 1) + 1 by omega, List.replicate_succ', List.append_assoc, List.append_assoc]
    · rw [numL_step (show 10 ≤ r by omega), pad_snoc, List.append_assoc]
theorem zf {r : Nat} (hr : r < 10 ^ 18) : tl (Txt.zfill (Str.ofString (toString ((r : Nat) : Int))) 18) = pad 18 (numL r) := by
  have hl : (Str.ofString (toString ((r : Nat) : Int))).length = (numL r).length := by rw [len_tl, tl_num]
  have hle := numL_len (by decide : 0 < 18) hr
  unfold Txt.zfill
  rw [hl]
  by_cases h : (18 : Int) ≤ ((numL r).length : Nat)
  · rw [if_pos h, tl_num]
    unfold pad
    rw [show 18 - (numL r).length = 0 by omega]
    rfl
  · rw [if_neg h]
    have hz : ∀ (x : Str) (m : Nat), (∀ c, x.cps[0]? = some c → 48 ≤ c) → tl (zfilled x m) = List.replicate m 48 ++ tl x := by
      intro x m hc
      unfold zfilled
      have hp : tl (Builtin.Str.padded x m 0 48) = List.replicate m 48 ++ tl x := by
        unfold Builtin.Str.padded
        show (Array.replicate m 48 ++ x.cps ++ Array.replicate 0 48).toList = _
        simp [tl]
      split
      · rename_i e; have := hc _ e; omega
      · rename_i e; have := hc _ e; omega
      · exact hp
    rw [hz, tl_num]
    · unfold pad
      rw [show (18 : Int).toNat - (numL r).length = 18 - (numL r).length from rfl]
    · intro c hc
      have : c ∈ numL r := by
        rw [← tl_num]
        have := Array.getElem?_eq_some_iff.mp hc
        obtain ⟨h1, h2⟩ := this
        exact Array.mem_toList_iff.mpr (by rw [← h2]; exact Array.getElem_mem h1)
      exact (numL_digits r c this).1
end Dm
namespace Bx
open PySem PySem.Spec PyProof.Rows L2
/-- for c in text -/
theorem for_str {x : Str} {g : TG} {tb : TS} {D : Ends} {σ : L2.St} {H : Hp} (Pv : Nat → L2.St → Hp → Prop) (h0 : Pv 0 σ H)
    (hs : ∀ i c σ H, x.cps[i]? = some c → Pv i σ H → g (.str ⟨#[c]⟩) σ H fun σ2 H2 => tb { D with nx := Pv (i + 1), ct := Pv (i + 1), bk := D.nx } σ2 H2) (hd : ∀ σ H, Pv x.cps.size σ H → D.nx σ H) :
    ∃ W : Nat → Nat → L2.St → Hp → Prop, (∃ m, W 0 m σ H) ∧ ∀ i m σ H, W i m σ H →
      ((Its x).stop i H ∧ D.nx σ H) ∨ ((Its x).go i H ∧ ∃ N : L2.St → Hp → Prop, (∀ σ' H', N σ' H' → ∃ m', m' < m ∧ W (i + 1) m' σ' H') ∧ ∀ v H', (Its x).yld i H v H' → g v σ H' fun σ2 H2 => tb { D with nx := N, ct := N, bk := D.nx } σ2 H2) := by
  refine ⟨fun i m σ H => m = x.cps.size - i ∧ i ≤ x.cps.size ∧ Pv i σ H, ⟨x.cps.size, by simp, Nat.zero_le _, h0⟩, ?_⟩
  rintro i m σ H ⟨rfl, hi, p⟩
  by_cases hlt : i < x.cps.size
  · refine .inr ⟨hlt, Pv (i + 1), fun σ' H' p' => ⟨x.cps.size - (i + 1), by omega, rfl, hlt, p'⟩, fun v H' y => ?_⟩
    obtain ⟨e, c, hc, rfl⟩ := y
    subst e
    exact hs i c σ _ hc p
  · have e : i = x.cps.size := by omega
    subst e
    exact .inl ⟨Nat.le_refl _, hd _ _ p⟩
end Bx
namespace Bx
open PySem PySem.Spec PyProof.Rows L2
/-- {k: v}, k a tuple of numbers and texts -/
def dispQ (p : Addr) (Q : VK) : List (V × V) → Hp → Prop
  | [(y, z)], H2 => ∃ (b : Addr) (ks : List L2.Key), y = .ref b ∧ H2 b = some (.tup (ks.map kV)) ∧ H2 p = some (.dT []) ∧ Q (.ref p) (upd H2 p (.dT [(ks, z)]))
  | _, _ => False
def tDispT (tk tv : TE) : TE := fun σ H Q => ∀ p, H p = none → tk σ (upd H p (.dT [])) fun y H1 => tv σ H1 fun z H2 => dispQ p Q [(y, z)] H2
theorem pe_dispT {X : Cx} {pos : Pos} {k v : Expr} {tk tv : TE} (hu : X.A.units + 1 < cLine) (hk : PE X k tk) (hv : PE X v tv) : PE X (.Dict [some k] [v] pos) (tDispT tk tv) := by
  refine ⟨fun pins s σ H Q I h => ?_⟩
  refine wpAny_Dict_any rfl rfl (by simp) (by show 1 ≤ 15; decide) ?_
  have hf : H s.heap.objs.size = none := I.hok.fresh (Nat.le_refl _)
  have h1 := h s.heap.objs.size hf
  have I1 : Inv X pins σ (upd H s.heap.objs.size (.dT [])) { heap := s.heap.push { cls := .type "dict", data := .dict #[] }, gens := s.gens, drawn := s.drawn, toks := s.toks, os := s.os } := by
    refine I.laid (t' := s.toks) (fun b o hb => ?_) (Nat.le_refl _) (dt_empty s.heap ?_)
    · exact Heap.get?_push_of_some _ hb
    · exact I.big
  refine wpAny_mono ((pps_cons hk hv pps_nil).run pins _ σ _ (dispQ s.heap.objs.size Q) I1 h1) (fun vs s1 hq => ?_) (fun _ _ z => z)
  obtain ⟨ps, H2, I2, rv, hq⟩ := hq
  match ps, rv, hq with
  | [(y, z)], rv, ⟨b, ks, e, eb, ed, q⟩ =>
    subst e
    obtain ⟨_, hsm, xs, kt, D⟩ := dt_of I2.hok ed
    cases kt
    cases rv with
    | cons r0 rt =>
      rename_i u0 us0
      cases rt
      obtain ⟨u, r⟩ := u0
      obtain ⟨ra, rb⟩ := r0
      cases ra
      unfold storeAll
      simp only [List.forIn_cons, List.forIn_nil]
      refine wpAny_bind (wpAny_bind (wpAny_dictSet_heap (knd := tupleKind (mixKind X.prog X.w)) (Nat.lt_of_le_of_lt (Nat.le_succ _) hu) (key_of I2.hok eb) D (fun h' D' sb => ?_) (by show 0 ≤ sizeLine; exact Nat.zero_le _)))
      refine wpAny_pure ?_
      refine wpAny_pure ?_
      refine ⟨.ref s.heap.objs.size, upd H2 s.heap.objs.size (.dT [(ks, z)]), ?_, rfl, q⟩
      refine d_write I2 (by rw [ed]; exact True.intro) sb ?_ ?_
      · obtain ⟨o, es, ep, g, _⟩ := D'
        exact ⟨o, g⟩
      · have nb : b ≠ s.heap.objs.size := fun e => by rw [e, ed] at eb; cases eb
        refine ⟨by show 1 ≤ sizeLine; decide, hsm, [(ks, b, r)], .cons ⟨rfl, by rw [upd_ne nb]; exact eb, rb⟩ .nil, ?_⟩
        obtain ⟨o, es, ep, g1, g2, g3, g4, _, g5⟩ := D'
        exact ⟨o, es, ep, g1, g2, g3, g4, g5⟩
theorem op_notInDK {X : Cx} {K : PySem.W.Frag} (h : X.K = K) (hu : X.A.units + 65 < cLine) : OpR X (compareOp .NotIn) (rNotInD K) := by
  subst h
  exact op_notInD hu
end Bx
namespace Gr
/-! Directed graphs as rows; what a depth-first order and components by it are. -/
abbrev G := List (List Nat)
def row (g : G) (u : Nat) : List Nat := g.getD u []
def E (g : G) (u v : Nat) : Prop := v ∈ row g u
inductive Rc (g : G) : Nat → Nat → Prop
  | refl (u : Nat) : Rc g u u
  | step {u v w : Nat} : E g u v → Rc g v w → Rc g u w
theorem Rc.one {g : G} {u v : Nat} (h : E g u v) : Rc g u v := .step h (.refl v)
theorem Rc.trans {g : G} {u v w : Nat} (h : Rc g u v) (k : Rc g v w) : Rc g u w := by
  induction h with
  | refl _ => exact k
  | step e _ ih => exact .step e (ih k)
theorem Rc.snoc {g : G} {u v w : Nat} (h : Rc g u v) (k : E g v w) : Rc g u w := h.trans (.one k)
/-- a way that leaves a set crosses its border -/
theorem Rc.cross {g : G} {S : Nat → Prop} {u v : Nat} (h : Rc g u v) (hu : S u) (hv : ¬ S v) : ∃ b y, S b ∧ E g b y ∧ ¬ S y ∧ Rc g u b ∧ Rc g y v := by
  induction h with
  | refl _ => exact absurd hu hv
  | @step a b c e r ih =>
    by_cases hb : S b
    · obtain ⟨x, y, h1, h2, h3, h4, h5⟩ := ih hb hv
      exact ⟨x, y, h1, h2, h3, .step e h4, h5⟩
    · exact ⟨a, b, hu, e, hb, .refl _, r⟩
def Ok (g : G) : Prop := ∀ u, ∀ v ∈ row g u, v < g.length
theorem Ok.rc {g : G} (h : Ok g) {u v : Nat} (r : Rc g u v) (hu : u < g.length) : v < g.length := by
  induction r with
  | refl _ => exact hu
  | step e _ ih => exact ih (h _ _ e)
/-- mutual -/
def Mu (g : G) (u v : Nat) : Prop := Rc g u v ∧ Rc g v u
theorem Mu.symm {g : G} {u v : Nat} (h : Mu g u v) : Mu g v u := ⟨h.2, h.1⟩
theorem Mu.refl (g : G) (u : Nat) : Mu g u u := ⟨.refl _, .refl _⟩
theorem Mu.trans {g : G} {u v w : Nat} (h : Mu g u v) (k : Mu g v w) : Mu g u w := ⟨h.1.trans k.1, k.2.trans h.2⟩

/-- the last one in a list -/
theorem last_split {P : Nat → Prop} : ∀ {l : List Nat}, (∃ x ∈ l, P x) → ∃ A w B, l = A ++ w :: B ∧ P w ∧ ∀ b ∈ B, ¬ P b
  | [], h => by obtain ⟨_, h, _⟩ := h; cases h
  | y :: l, h => by
    by_cases k : ∃ x ∈ l, P x
    · obtain ⟨A, w, B, e, h1, h2⟩ := last_split k
      exact ⟨y :: A, w, B, by rw [e]; rfl, h1, h2⟩
    · obtain ⟨x, hx, p⟩ := h
      rcases List.mem_cons.mp hx with rfl | hx
      · exact ⟨[], x, l, rfl, p, fun b hb z => k ⟨b, hb, z⟩⟩
      · exact absurd ⟨x, hx, p⟩ k

/-! ### the order of leaving -/
structure Dfs (g : G) (ord : List Nat) (stk : List (Nat × Nat)) : Prop where
  nd : (ord ++ stk.map (·.1)).Nodup
  lt : ∀ u ∈ ord ++ stk.map (·.1), u < g.length
  ch : stk.Pairwise fun a b => Rc g b.1 a.1
  fo : ∀ x ∈ stk, x.2 ≤ (row g x.1).length ∧ ∀ i y, i < x.2 → (row g x.1)[i]? = some y → y ∈ ord ++ stk.map (·.1)
  bl : ∀ b ∈ ord, ∀ y ∈ row g b, y ∈ ord ++ stk.map (·.1)
  sp : ∀ A u B, ord = A ++ u :: B → ∀ b ∈ A ++ [u], ∀ y ∈ row g b, y ∈ A ++ [u] ∨ Rc g y u
theorem Dfs.nil (g : G) : Dfs g [] [] := ⟨List.nodup_nil, fun u h => (by cases h), List.Pairwise.nil, fun x h => (by cases h), fun b h => (by cases h), fun A u B h => (by cases A <;> cases h)⟩
theorem mem_oc {ord : List Nat} {n f f' : Nat} {stk : List (Nat × Nat)} {y : Nat} : y ∈ ord ++ ((n, f) :: stk).map (·.1) ↔ y ∈ ord ++ ((n, f') :: stk).map (·.1) := Iff.rfl
/-- one edge more, to a node that has been found -/
theorem Dfs.skip {g : G} {ord : List Nat} {n f t : Nat} {stk : List (Nat × Nat)} (h : Dfs g ord ((n, f) :: stk)) (e : (row g n)[f]? = some t) (ht : t ∈ ord ++ ((n, f) :: stk).map (·.1)) : Dfs g ord ((n, f + 1) :: stk) := by
  refine ⟨h.nd, h.lt, ?_, fun x hx => ?_, h.bl, h.sp⟩
  · have := h.ch
    rw [List.pairwise_cons] at this ⊢
    exact this
  · rcases List.mem_cons.mp hx with rfl | hx
    · have hf : f < (row g n).length := by
        rcases Nat.lt_or_ge f (row g n).length with k | k
        · exact k
        · rw [List.getElem?_eq_none k] at e; cases e
      refine ⟨hf, fun i y hi hy => ?_⟩
      rcases Nat.lt_or_ge i f with k | k
      · exact (h.fo _ List.mem_cons_self).2 i y k hy
      · have : i = f := Nat.le_antisymm (Nat.le_of_lt_succ hi) k
        subst this
        have hy : (row g n)[i]? = some y := hy
        rw [e] at hy
        cases hy
        exact ht
    · exact h.fo x (List.mem_cons_of_mem _ hx)
theorem Dfs.skip2 {g : G} {ord : List Nat} {n f t : Nat} {s : Nat × Nat} {stk : List (Nat × Nat)} (h : Dfs g ord (s :: (n, f) :: stk)) (e : (row g n)[f]? = some t) (ht : t ∈ ord ++ (s :: (n, f) :: stk).map (·.1)) : Dfs g ord (s :: (n, f + 1) :: stk) := by
  refine ⟨h.nd, h.lt, ?_, fun x hx => ?_, h.bl, h.sp⟩
  · have := h.ch
    rw [List.pairwise_cons, List.pairwise_cons] at this ⊢
    refine ⟨fun a ha => ?_, this.2⟩
    rcases List.mem_cons.mp ha with rfl | ha
    · exact this.1 (n, f) List.mem_cons_self
    · exact this.1 a (List.mem_cons_of_mem _ ha)
  · rcases List.mem_cons.mp hx with rfl | hx
    · exact h.fo x List.mem_cons_self
    rcases List.mem_cons.mp hx with rfl | hx
    · have hf : f < (row g n).length := by
        rcases Nat.lt_or_ge f (row g n).length with k | k
        · exact k
        · rw [List.getElem?_eq_none k] at e; cases e
      refine ⟨hf, fun i y hi hy => ?_⟩
      rcases Nat.lt_or_ge i f with k | k
      · exact (h.fo (n, f) (by simp)).2 i y k hy
      · have : i = f := Nat.le_antisymm (Nat.le_of_lt_succ hi) k
        subst this
        have hy : (row g n)[i]? = some y := hy
        rw [e] at hy
        cases hy
        exact ht
    · exact h.fo x (by simp [hx])
/-- a new node -/
theorem Dfs.push {g : G} {ord : List Nat} {t : Nat} {stk : List (Nat × Nat)} (h : Dfs g ord stk) (hl : t < g.length) (ht : t ∉ ord ++ stk.map (·.1)) (hr : ∀ x ∈ stk, Rc g x.1 t) : Dfs g ord ((t, 0) :: stk) := by
  have up : ∀ y, y ∈ ord ++ stk.map (·.1) → y ∈ ord ++ ((t, 0) :: stk).map (·.1) := fun y hy => by
    rcases List.mem_append.mp hy with k | k
    · exact List.mem_append.mpr (.inl k)
    · exact List.mem_append.mpr (.inr (List.mem_cons_of_mem _ k))
  refine ⟨?_, fun u hu => ?_, ?_, fun x hx => ?_, fun b hb y hy => up y (h.bl b hb y hy), h.sp⟩
  · show (ord ++ t :: stk.map (·.1)).Nodup
    have hn := h.nd
    rw [List.nodup_append] at hn ⊢
    refine ⟨hn.1, ?_, fun a ha b hb => ?_⟩
    · rw [List.nodup_cons]
      exact ⟨fun z => ht (List.mem_append.mpr (.inr z)), hn.2.1⟩
    · rcases List.mem_cons.mp hb with rfl | hb
      · exact fun z => ht (List.mem_append.mpr (.inl (z ▸ ha)))
      · exact hn.2.2 a ha b hb
  · rcases List.mem_append.mp hu with k | k
    · exact h.lt u (List.mem_append.mpr (.inl k))
    · rcases List.mem_cons.mp k with rfl | k
      · exact hl
      · exact h.lt u (List.mem_append.mpr (.inr k))
  · rw [List.pairwise_cons]
    exact ⟨fun x hx => hr x hx, h.ch⟩
  · rcases List.mem_cons.mp hx with rfl | hx
    · exact ⟨Nat.zero_le _, fun i y hi => absurd hi (Nat.not_lt_zero _)⟩
    · exact ⟨(h.fo x hx).1, fun i y hi hy => up y ((h.fo x hx).2 i y hi hy)⟩
/-- the top is left -/
theorem Dfs.pop {g : G} {ord : List Nat} {n : Nat} {stk : List (Nat × Nat)} (h : Dfs g ord ((n, (row g n).length) :: stk)) : Dfs g (ord ++ [n]) stk := by
  have perm : ∀ y, y ∈ ord ++ ((n, (row g n).length) :: stk).map (·.1) ↔ y ∈ (ord ++ [n]) ++ stk.map (·.1) := fun y => by
    rw [List.append_assoc]; rfl
  have succ : ∀ y ∈ row g n, y ∈ ord ++ ((n, (row g n).length) :: stk).map (·.1) := fun y hy => by
    obtain ⟨i, hi⟩ := List.mem_iff_getElem?.mp hy
    have hl : i < (row g n).length := by
      rcases Nat.lt_or_ge i (row g n).length with k | k
      · exact k
      · rw [List.getElem?_eq_none k] at hi; cases hi
    exact (h.fo _ List.mem_cons_self).2 i y hl hi
  have ch := h.ch
  rw [List.pairwise_cons] at ch
  refine ⟨?_, fun u hu => h.lt u ((perm u).mpr hu), ch.2, fun x hx => ?_, fun b hb y hy => ?_, fun A u B e b hb y hy => ?_⟩
  · have := h.nd
    rw [List.append_assoc]
    exact this
  · have := h.fo x (List.mem_cons_of_mem _ hx)
    exact ⟨this.1, fun i y hi hy => (perm y).mp (this.2 i y hi hy)⟩
  · rcases List.mem_append.mp hb with k | k
    · exact (perm y).mp (h.bl b k y hy)
    · rw [List.mem_singleton] at k
      subst k
      exact (perm y).mp (succ y hy)
  · rcases List.eq_nil_or_concat B with rfl | ⟨B', z, rfl⟩
    · have e2 := List.append_inj' e rfl
      have eA := e2.1
      have eu : n = u := (List.cons.inj e2.2).1
      subst eA; subst eu
      have hy' : y ∈ ord ++ ((n, (row g n).length) :: stk).map (·.1) := by
        rcases List.mem_append.mp hb with k | k
        · exact h.bl b k y hy
        · rw [List.mem_singleton] at k
          subst k
          exact succ y hy
      rcases List.mem_append.mp hy' with k | k
      · exact .inl (List.mem_append.mpr (.inl k))
      · rcases List.mem_cons.mp k with k | k
        · exact .inl (List.mem_append.mpr (.inr (by rw [k]; exact List.mem_singleton.mpr rfl)))
        · obtain ⟨x, hx, rfl⟩ := List.mem_map.mp k
          exact .inr (ch.1 x hx)
    · have e2 : ord ++ [n] = (A ++ u :: B') ++ [z] := by rw [e, List.concat_eq_append, List.append_assoc]; rfl
      exact h.sp A u B' (List.append_inj' e2 rfl).1 b hb y hy

/-- what a finished search has -/
structure Fin (g : G) (ord : List Nat) : Prop where
  nd : ord.Nodup
  all : ∀ u, u ∈ ord ↔ u < g.length
  sp : ∀ A u B, ord = A ++ u :: B → ∀ b ∈ A ++ [u], ∀ y ∈ row g b, y ∈ A ++ [u] ∨ Rc g y u
theorem Dfs.fin {g : G} {ord : List Nat} (h : Dfs g ord []) (k : ∀ u, u < g.length → u ∈ ord) : Fin g ord := by
  have hn := h.nd
  simp only [List.map_nil, List.append_nil] at hn
  exact ⟨hn, fun u => ⟨fun z => h.lt u (List.mem_append.mpr (.inl z)), k u⟩, h.sp⟩
theorem nodup_split {A B : List Nat} {w : Nat} (h : (A ++ w :: B).Nodup) : w ∉ A ∧ w ∉ B ∧ ∀ a ∈ A, a ∉ B := by
  rw [List.nodup_append, List.nodup_cons] at h
  exact ⟨fun z => h.2.2 w z w List.mem_cons_self rfl, h.2.1.1, fun a ha hb => h.2.2 a ha a (List.mem_cons_of_mem _ hb) rfl⟩
/-- from a node that may not stand behind s (nor its companions) no way leads to s, but in a circle -/
theorem Fin.back {g : G} {A B : List Nat} {s u : Nat} (ok : Ok g) (h : Fin g (A ++ s :: B)) (hu : u < g.length) (r : Rc g u s) (no : ∀ b ∈ B, ¬ Mu g u b) : Rc g s u := by
  obtain ⟨A1, w, B1, e, hw, hB⟩ := last_split (P := fun x => Mu g u x) (l := A ++ s :: B) ⟨u, (h.all u).mpr hu, Mu.refl g u⟩
  have nd := h.nd
  have hwm : w ∈ A ++ s :: B := by rw [e]; simp
  by_cases ews : w = s
  · subst ews; exact hw.2
  have hwA : w ∈ A := by
    rcases List.mem_append.mp hwm with k | k
    · exact k
    · rcases List.mem_cons.mp k with k | k
      · exact absurd k ews
      · exact absurd hw (no w k)
  -- s stands behind w
  have hsB : s ∉ A1 ++ [w] := by
    intro hs
    have hs1 : s ∈ A1 := by
      rcases List.mem_append.mp hs with k | k
      · exact k
      · exact absurd (List.mem_singleton.mp k).symm ews
    -- then A is shorter than A1: w ∈ A stands ahead of s, so w ∈ A1
    obtain ⟨C, D, eC⟩ := List.append_of_mem hs1
    have e2 : A ++ s :: B = C ++ s :: (D ++ w :: B1) := by rw [e, eC, List.append_assoc]; rfl
    have nd2 := nd
    rw [e2] at nd2
    have n1 := nodup_split nd
    have n2 := nodup_split nd2
    have : w ∈ B := by
      rcases List.append_eq_append_iff.mp e2 with ⟨F, h1, h2⟩ | ⟨F, h1, h2⟩
      · cases F with
        | nil => rw [List.nil_append] at h2; rw [(List.cons.inj h2).2]; simp
        | cons x F =>
          have h3 := List.cons.inj h2
          exact absurd (by rw [h1, ← h3.1]; simp) n2.1
      · cases F with
        | nil => rw [List.nil_append] at h2; rw [← (List.cons.inj h2).2]; simp
        | cons x F =>
          have h3 := List.cons.inj h2
          exact absurd (by rw [h1, ← h3.1]; simp) n1.1
    exact n1.2.2 w hwA this
  have huA : u ∈ A1 ++ [w] := by
    have hum : u ∈ A1 ++ w :: B1 := by rw [← e]; exact (h.all u).mpr hu
    rcases List.mem_append.mp hum with k | k
    · exact List.mem_append.mpr (.inl k)
    · rcases List.mem_cons.mp k with k | k
      · rw [k]; simp
      · exact absurd (Mu.refl g u) (hB u k)
  obtain ⟨b, y, hb, hy, hny, r1, r2⟩ := r.cross (S := fun x => x ∈ A1 ++ [w]) huA hsB
  rcases h.sp A1 w B1 e b hb y hy with k | k
  · exact absurd k hny
  · have mu : Mu g u y := ⟨r1.snoc hy, k.trans hw.2⟩
    have hym : y ∈ A1 ++ w :: B1 := by rw [← e]; exact (h.all y).mpr (ok b y hy)
    rcases List.mem_append.mp hym with z | z
    · exact absurd (List.mem_append.mpr (.inl z)) hny
    · rcases List.mem_cons.mp z with z | z
      · exact absurd (by rw [z]; simp) hny
      · exact absurd mu (hB y z)

/-! ### components: homes are numbers of nodes, -1 for none -/
/-- H u is u's number if it has one -/
structure Cmp (g : G) (H : Nat → Option Nat) (c : Nat) : Prop where
  lt : ∀ u i, H u = some i → i < c ∧ u < g.length
  eq : ∀ u v i j, H u = some i → H v = some j → (i = j ↔ Mu g u v)
  mu : ∀ u v i, H u = some i → Mu g u v → H v ≠ none
  ed : ∀ u v j, E g u v → u < g.length → H v = some j → ∃ i, H u = some i ∧ i ≤ j
  us : ∀ i, i < c → ∃ u, H u = some i
theorem Cmp.nil (g : G) : Cmp g (fun _ => none) 0 := ⟨fun _ _ h => (by cases h), fun _ _ _ _ h => (by cases h), fun _ _ _ h => (by cases h), fun _ _ _ _ _ h => (by cases h), fun i h => absurd h (Nat.not_lt_zero i)⟩
theorem Cmp.rc {g : G} {H : Nat → Option Nat} {c : Nat} (h : Cmp g H c) {u v j : Nat} (ok : Ok g) (r : Rc g u v) (hu : u < g.length) (hv : H v = some j) : ∃ i, H u = some i ∧ i ≤ j := by
  induction r with
  | refl _ => exact ⟨j, hv, Nat.le_refl _⟩
  | step e _ ih =>
    obtain ⟨i, h1, h2⟩ := ih (ok _ _ e) hv
    obtain ⟨i', h3, h4⟩ := h.ed _ _ i e hu h1
    exact ⟨i', h3, Nat.le_trans h4 h2⟩
/-- one component more: the set S of the nodes without a number from which start can be reached -/
theorem Cmp.more {g : G} {H H' : Nat → Option Nat} {c s : Nat} {A B : List Nat} (ok : Ok g) (h : Cmp g H c) (f : Fin g (A ++ s :: B)) (hB : ∀ b ∈ B, H b ≠ none) (hs : H s = none)
    (h1 : ∀ u i, H u = some i → H' u = some i) (h2 : ∀ u i, H u = none → H' u = some i → i = c ∧ u < g.length ∧ Rc g u s) (h3 : ∀ u, u < g.length → Rc g u s → H u = none → H' u = some c) : Cmp g H' (c + 1) := by
  have hsl : s < g.length := (f.all s).mp (by simp)
  -- the new ones are mutual with s
  have new : ∀ u, H u = none → u < g.length → Rc g u s → Mu g u s := fun u hu hl r => ⟨r, f.back ok hl r fun b hb m => by
    cases e : H b with
    | none => exact hB b hb e
    | some i => exact h.mu b u i e m.symm hu⟩
  have old : ∀ u i, H' u = some i → H u = some i ∨ (H u = none ∧ i = c ∧ u < g.length ∧ Mu g u s) := fun u i e => by
    cases k : H u with
    | none =>
      obtain ⟨e1, e2, e3⟩ := h2 u i k e
      exact .inr ⟨rfl, e1, e2, new u k e2 e3⟩
    | some j =>
      rw [h1 u j k] at e
      exact .inl e
  refine ⟨fun u i e => ?_, fun u v i j e1 e2 => ?_, fun u v i e m => ?_, fun u v j e hu ev => ?_, fun i hi => ?_⟩
  · rcases old u i e with k | ⟨_, k1, k2, _⟩
    · exact ⟨Nat.lt_succ_of_lt (h.lt u i k).1, (h.lt u i k).2⟩
    · exact ⟨by omega, k2⟩
  · rcases old u i e1 with k | ⟨a1, a2, a3, a4⟩ <;> rcases old v j e2 with l | ⟨b1, b2, b3, b4⟩
    · exact h.eq u v i j k l
    · refine ⟨fun z => ?_, fun m => absurd b1 (h.mu u v i k m)⟩
      have := (h.lt u i k).1
      omega
    · refine ⟨fun z => ?_, fun m => absurd a1 (h.mu v u j l m.symm)⟩
      have := (h.lt v j l).1
      omega
    · exact ⟨fun _ => a4.trans b4.symm, fun _ => by rw [a2, b2]⟩
  · rcases old u i e with k | ⟨a1, a2, a3, a4⟩
    · intro z
      cases e' : H v with
      | none => exact h.mu u v i k m e'
      | some j => rw [h1 v j e'] at z; cases z
    · intro z
      have hv : v < g.length := ok.rc m.1 a3
      cases e' : H v with
      | none => rw [h3 v hv (m.2.trans a4.1) e'] at z; cases z
      | some j => rw [h1 v j e'] at z; cases z
  · rcases old v j ev with k | ⟨a1, a2, a3, a4⟩
    · obtain ⟨i, k1, k2⟩ := h.ed u v j e hu k
      exact ⟨i, h1 u i k1, k2⟩
    · cases k : H u with
      | none => exact ⟨c, h3 u hu (.step e a4.1) k, by omega⟩
      | some i => exact ⟨i, h1 u i k, by have := (h.lt u i k).1; omega⟩
  · rcases Nat.lt_or_ge i c with k | k
    · obtain ⟨u, e⟩ := h.us i k
      exact ⟨u, h1 u i e⟩
    · exact ⟨s, by rw [h3 s hsl (.refl s) hs]; congr 1; omega⟩
/-- finished: every node has a number -/
structure Comps (g : G) (h : List Nat) (c : Nat) : Prop where
  len : h.length = g.length
  lt : ∀ i ∈ h, i < c
  eq : ∀ u v i j, h[u]? = some i → h[v]? = some j → (i = j ↔ Mu g u v)
  ed : ∀ u v i j, E g u v → h[u]? = some i → h[v]? = some j → i ≤ j
  us : ∀ i, i < c → i ∈ h
/-- on a cycle -/
def Cyc (g : G) (u : Nat) : Prop := ∃ v, E g u v ∧ Rc g v u
theorem Rc.cases_step {g : G} {u v : Nat} (r : Rc g u v) : u = v ∨ ∃ w, E g u w ∧ Rc g w v := by
  cases r with
  | refl _ => exact .inl rfl
  | step e r => exact .inr ⟨_, e, r⟩
/-- a node's component has an inner edge exactly if the node lies on a cycle -/
theorem cyc_iff {g : G} {h : List Nat} {c : Nat} (ok : Ok g) (k : Comps g h c) {u i : Nat} (hu : h[u]? = some i) : Cyc g u ↔ ∃ a b, E g a b ∧ h[a]? = some i ∧ h[b]? = some i := by
  have hl : ∀ {x j : Nat}, h[x]? = some j → x < g.length := fun {x j} e => by
    rw [← k.len]
    rcases Nat.lt_or_ge x h.length with z | z
    · exact z
    · rw [List.getElem?_eq_none z] at e; cases e
  constructor
  · rintro ⟨v, e, r⟩
    have hv : v < h.length := by rw [k.len]; exact ok u v e
    refine ⟨u, v, e, hu, ?_⟩
    have e2 := List.getElem?_eq_getElem hv
    rw [e2]
    congr 1
    exact ((k.eq u v i _ hu e2).mpr ⟨.one e, r⟩).symm
  · rintro ⟨a, b, e, ha, hb⟩
    have m1 := (k.eq u a i i hu ha).mp rfl
    have m2 := (k.eq u b i i hu hb).mp rfl
    rcases m1.1.cases_step with rfl | ⟨w, e1, r1⟩
    · exact ⟨b, e, m2.2⟩
    · exact ⟨w, e1, r1.trans (.step e m2.2)⟩

/-! ### all edges turned round -/
def Rev (g t : G) : Prop := t.length = g.length ∧ ∀ u v, E t v u ↔ (E g u v ∧ u < g.length ∧ v < g.length)
/-! ### what can be reached -/
theorem rc_sets {g : G} {S : Nat → Prop} (cl : ∀ u v, S u → E g u v → S v) {u v : Nat} (r : Rc g u v) (hu : S u) : S v := by
  induction r with
  | refl _ => exact hu
  | step e _ ih => exact ih (cl _ _ hu e)
/-! ### counting -/
def wsum (w : Nat → Nat) (l : List Nat) : Nat := (l.map w).foldr (· + ·) 0
theorem wsum_cons (w : Nat → Nat) (x : Nat) (l : List Nat) : wsum w (x :: l) = w x + wsum w l := rfl
theorem wsum_append (w : Nat → Nat) (l m : List Nat) : wsum w (l ++ m) = wsum w l + wsum w m := by
  induction l with
  | nil => simp [wsum]
  | cons x l ih => rw [List.cons_append, wsum_cons, wsum_cons, ih]; omega
def below (w : Nat → Nat) : Nat → Nat
  | 0 => 0
  | n + 1 => below w n + w n
theorem wsum_erase (w : Nat → Nat) (x : Nat) : ∀ {l : List Nat}, x ∈ l → wsum w l = w x + wsum w (l.erase x)
  | [], h => by cases h
  | y :: l, h => by
    by_cases e : y = x
    · subst e
      rw [List.erase_cons_head]; rfl
    · rw [List.erase_cons_tail (by simpa using e), wsum_cons, wsum_cons]
      rcases List.mem_cons.mp h with k | k
      · exact absurd k.symm e
      · rw [wsum_erase w x k]; omega
theorem wsum_le (w : Nat → Nat) : ∀ (n : Nat) {l : List Nat}, l.Nodup → (∀ x ∈ l, x < n) → wsum w l ≤ below w n
  | 0, l, _, h => by
    cases l with
    | nil => exact Nat.le_refl 0
    | cons x l => exact absurd (h x List.mem_cons_self) (Nat.not_lt_zero x)
  | n + 1, l, nd, h => by
    by_cases k : n ∈ l
    · rw [wsum_erase w n k]
      have := wsum_le w n (l := l.erase n) (nd.erase n) fun x hx => by
        have h1 := h x (List.mem_of_mem_erase hx)
        have h2 : x ≠ n := fun z => by
          rw [z] at hx
          exact (List.Nodup.mem_erase_iff nd).mp hx |>.1 rfl
        omega
      show _ ≤ below w n + w n
      omega
    · have := wsum_le w n nd fun x hx => by
        have h1 := h x hx
        have h2 : x ≠ n := fun z => k (z ▸ hx)
        omega
      show _ ≤ below w n + w n
      omega
def steps (g : G) (ord : List Nat) (stk : List (Nat × Nat)) : Nat := wsum (fun u => (row g u).length + 1) ord + wsum (·) (stk.map (·.2))
theorem steps_lt {g : G} {ord : List Nat} {stk : List (Nat × Nat)} {x : Nat × Nat} (h : Dfs g ord (x :: stk)) : steps g ord (x :: stk) < below (fun u => (row g u).length + 1) g.length := by
  have h1 := wsum_le (fun u => (row g u).length + 1) g.length h.nd h.lt
  rw [wsum_append] at h1
  have h2 : ∀ l : List (Nat × Nat), (∀ y ∈ l, y.2 ≤ (row g y.1).length) → wsum (·) (l.map (·.2)) + l.length ≤ wsum (fun u => (row g u).length + 1) (l.map (·.1)) := by
    intro l
    induction l with
    | nil => intro _; exact Nat.le_refl 0
    | cons y l ih =>
      intro hl
      have a := hl y List.mem_cons_self
      have b := ih fun z hz => hl z (List.mem_cons_of_mem _ hz)
      simp only [List.map_cons, wsum_cons, List.length_cons]
      omega
  have h3 := h2 (x :: stk) fun y hy => (h.fo y hy).1
  simp only [List.length_cons] at h3
  unfold steps
  omega
theorem steps_pop {g : G} {ord : List Nat} {n : Nat} {stk : List (Nat × Nat)} : steps g (ord ++ [n]) stk = steps g ord ((n, (row g n).length) :: stk) + 1 := by
  unfold steps
  rw [wsum_append]
  simp only [List.map_cons, wsum_cons]
  show _ + ((row g n).length + 1 + 0) + _ = _
  omega
theorem steps_skip {g : G} {ord : List Nat} {n f : Nat} {stk : List (Nat × Nat)} : steps g ord ((n, f + 1) :: stk) = steps g ord ((n, f) :: stk) + 1 := by
  unfold steps
  simp only [List.map_cons, wsum_cons]
  omega
theorem steps_push {g : G} {ord : List Nat} {n : Nat} {stk : List (Nat × Nat)} : steps g ord ((n, 0) :: stk) = steps g ord stk := by
  unfold steps
  simp only [List.map_cons, wsum_cons]
  omega
end Gr
namespace Bx
open PySem PySem.Spec PyProof.Rows L2
abbrev VN (n : Nat) : V := .int (n : Int)
def Sq (K : PySem.W.Frag) (H : Hp) (a : Addr) (xs : List V) : Prop := SqL K H a xs ∨ SqT K H a xs
theorem sqL_same {K : PySem.W.Frag} {H H' : Hp} {a : Addr} {xs : List V} (s : Same H H') (h : SqL K H a xs) : SqL K H' a xs := by
  rcases h with h | h
  · exact .inl (by
      rcases h with h | ⟨o, h⟩
      · exact .inl (s _ _ h)
      · exact .inr ⟨o, s _ _ h⟩)
  · exact .inr h
theorem sqT_same {K : PySem.W.Frag} {H H' : Hp} {a : Addr} {xs : List V} (s : Same H H') (h : SqT K H a xs) : SqT K H' a xs := by
  rcases h with h | h
  · exact .inl (by
      rcases h with h | ⟨o, h⟩
      · exact .inl (s _ _ h)
      · exact .inr ⟨o, s _ _ h⟩)
  · exact .inr h
theorem Sq.same {K : PySem.W.Frag} {H H' : Hp} {a : Addr} {xs : List V} (s : Same H H') (h : Sq K H a xs) : Sq K H' a xs := by
  rcases h with h | h
  · exact .inl (sqL_same s h)
  · exact .inr (sqT_same s h)
theorem nw {H H1 : Hp} {p : Addr} {o : HO} (hp : H p = none) (e : upd H p o = H1) : Same H H1 ∧ H1 p = some o := e ▸ ⟨same_new hp, upd_same⟩
theorem mw {H0 H H1 : Hp} {p : Addr} {o : HO} (s : Same H0 H) (hp : H0 p = none) (e : upd H p o = H1) : Same H0 H1 ∧ H1 p = some o ∧ ∀ q, q ≠ p → H1 q = H q := e ▸ ⟨fun b x hb => by
  rw [upd_ne (ne_of_none hb hp)]
  exact s _ _ hb, upd_same, fun q hq => upd_ne hq⟩
theorem mwt {H H1 : Hp} {p : Addr} {o : HO} {l : List V} (h : H p = some (.lst l)) (e : upd H p o = H1) : ∀ b xs, H b = some (.tup xs) → H1 b = some (.tup xs) := e ▸ fun b xs hb => by
  rw [upd_ne (fun z => by rw [z, h] at hb; cases hb)]
  exact hb
theorem Same.fr {H H' : Hp} {p : Addr} (s : Same H H') (h : H' p = none) : H p = none := by
  cases e : H p with
  | none => rfl
  | some o => rw [s _ _ e] at h; cases h
/-- a graph, by rows of lists or tuples -/
def GrAt (K : PySem.W.Frag) (H : Hp) (r : Addr) (g : Gr.G) : Prop := ∃ as : List Addr, Sq K H r (as.map V.ref) ∧ as.length = g.length ∧ ∀ i a, as[i]? = some a → Sq K H a ((Gr.row g i).map VN)
theorem GrAt.same {K : PySem.W.Frag} {H H' : Hp} {r : Addr} {g : Gr.G} (s : Same H H') (h : GrAt K H r g) : GrAt K H' r g := by
  obtain ⟨as, h1, h2, h3⟩ := h
  exact ⟨as, h1.same s, h2, fun i a e => (h3 i a e).same s⟩
theorem iteB_t {c : Bool} {A B : Prop} (e : c = true) (h : A) : if c = true then A else B := by rw [if_pos e]; exact h
theorem iteB_f {c : Bool} {A B : Prop} (e : c = false) (h : B) : if c = true then A else B := by rw [if_neg (by rw [e]; exact Bool.false_ne_true)]; exact h
theorem snocg {α : Type} {xs : List α} {x y : α} {j : Nat} (h : (xs ++ [x])[j]? = some y) : (j < xs.length ∧ xs[j]? = some y) ∨ (j = xs.length ∧ y = x) := by
  rcases Nat.lt_or_ge j xs.length with c | c
  · rw [List.getElem?_append_left c] at h
    exact .inl ⟨c, h⟩
  · rw [List.getElem?_append_right c] at h
    have e : j - xs.length = 0 := by
      cases e : j - xs.length with
      | zero => rfl
      | succ n => rw [e] at h; cases h
    rw [e] at h
    exact .inr ⟨by omega, (Option.some.inj h).symm⟩
theorem nats_get {xs : List Nat} {j : Nat} {y : V} (h : (xs.map VN)[j]? = some y) : ∃ t, xs[j]? = some t ∧ y = VN t := by
  rw [List.getElem?_map] at h
  cases e : xs[j]? with
  | none => rw [e] at h; cases h
  | some t => rw [e] at h; exact ⟨t, rfl, (Option.some.inj h).symm⟩
theorem refsg {as : List Addr} {i : Nat} {v : V} (h : (as.map V.ref)[i]? = some v) : ∃ a, as[i]? = some a ∧ v = .ref a := by
  rw [List.getElem?_map] at h
  cases e : as[i]? with
  | none => rw [e] at h; cases h
  | some z => rw [e] at h; exact ⟨z, rfl, (Option.some.inj h).symm⟩
theorem mapg {α β : Type} {f : α → β} {xs : List α} {i : Nat} {y : β} (h : (xs.map f)[i]? = some y) : ∃ x, xs[i]? = some x ∧ y = f x := by
  rw [List.getElem?_map] at h
  cases e : xs[i]? with
  | none => rw [e] at h; cases h
  | some z => rw [e] at h; exact ⟨z, rfl, (Option.some.inj h).symm⟩
/-- an item by its number, as atI wants it -/
theorem atN {α : Type} {f : α → V} {xs : List α} {i : Nat} {x : α} (h : xs[i]? = some x) : atI (xs.map f) (i : Int) = some (f x) := atI_nat (by rw [List.getElem?_map, h]; rfl)
theorem lt_of_get {α : Type} {xs : List α} {i : Nat} {x : α} (h : xs[i]? = some x) : i < xs.length := (List.getElem?_eq_some_iff.mp h).1
theorem nd_inj {α : Type} {xs : List α} (h : xs.Nodup) {i j : Nat} {x : α} (h1 : xs[i]? = some x) (h2 : xs[j]? = some x) : i = j := (List.getElem?_inj (lt_of_get h1) h).mp (h1.trans h2.symm)
theorem for_sqB {K : PySem.W.Frag} {i : Nat} {a : Addr} {xs : List V} {g : TG} {tb : TS} {D : Ends} {σ : L2.St} {H0 H : Hp} (hv : σ[i]? = some (some (.ref a))) (hq : SeqV H0 a xs) (Pv : Nat → L2.St → Hp → Prop) (h0 : Pv 0 σ H) (hS : ∀ i σ' H', Pv i σ' H' → Same H0 H')
    (hs : ∀ i x σ H, xs[i]? = some x → Pv i σ H → g x σ H fun σ2 H2 => tb { D with nx := Pv (i + 1), ct := Pv (i + 1), bk := D.nx } σ2 H2) (hd : ∀ σ H, Pv xs.length σ H → D.nx σ H) : tFor (iSeq K (tVar i)) g tb D σ H := by
  rcases hq with h | h
  · exact .inl ⟨_, hv, a, rfl, ⟨_, .of (hS 0 σ H h0 _ _ h)⟩, for_list Pv h0 (fun i σ' H' _ p => .of (hS i σ' H' p _ _ h)) hs hd⟩
  · exact .inr ⟨_, hv, a, rfl, ⟨_, .of (hS 0 σ H h0 _ _ h)⟩, for_tup Pv h0 (fun i σ' H' _ p => .of (hS i σ' H' p _ _ h)) hs hd⟩
/-- a dict comprehension over anything walked -/
theorem dc_it {J : It} {n : Nat} {G : Hp → Prop} {Y : Nat → Hp → V → Hp → Prop} (w : Walk J n G Y) {g : TG} {tt : TT} {tk tv : TE} {vs : List Nat} {σ : L2.St} {H1 : Hp} {D : Addr} {Qd : Hp → Prop} (Pv : Nat → Hp → Prop) (h0 : Pv 0 (upd H1 D (.dK []))) (hG : ∀ i H, i ≤ n → Pv i H → G H)
    (hs : ∀ i x H H', i < n → Pv i H → Y i H x H' → g x (wipe σ vs) H' fun σ2 H2 => wipe σ2 vs = wipe σ vs ∧ tt σ2 H2 fun b H3 =>
      if b = true then tk σ2 H3 fun y H4 => tv σ2 H4 fun z H5 => ∃ kvs k, y = kV k ∧ H5 D = some (.dK kvs) ∧ kvs.length < sizeLine ∧ Pv (i + 1) (upd H5 D (.dK (putK kvs k z))) else Pv (i + 1) H3) (hd : ∀ H, Pv n H → Qd H) :
    ∃ W : Nat → Nat → Hp → Prop, (∃ m, W 0 m (upd H1 D (.dK []))) ∧ ∀ i m H, W i m H →
      (J.stop i H ∧ Qd H) ∨ (J.go i H ∧ ∃ Nx : Hp → Prop, (∀ H', Nx H' → ∃ m', m' < m ∧ W (i + 1) m' H') ∧ ∀ x H', J.yld i H x H' → g x (wipe σ vs) H' fun σ2 H2 => wipe σ2 vs = wipe σ vs ∧ tt σ2 H2 fun b H3 =>
        if b = true then tk σ2 H3 fun y H4 => tv σ2 H4 fun z H5 => ∃ kvs k, y = kV k ∧ H5 D = some (.dK kvs) ∧ kvs.length < sizeLine ∧ Nx (upd H5 D (.dK (putK kvs k z))) else Nx H3) := by
  refine ⟨fun i m H => m = n - i ∧ i ≤ n ∧ Pv i H, ⟨n, by simp, Nat.zero_le _, h0⟩, ?_⟩
  rintro i m H ⟨rfl, hi, p⟩
  have q := hG i H hi p
  by_cases hlt : i < n
  · refine .inr ⟨w.goes i H hlt q, Pv (i + 1), fun H' p' => ⟨n - (i + 1), by omega, rfl, hlt, p'⟩, fun x H' y => hs i x H H' hlt p (w.yields i H x H' hlt q y)⟩
  · have e : i = n := by omega
    subst e
    exact .inl ⟨w.stops H q, hd H p⟩
/-- the numbers of the nodes of a list, as a dict -/
def numK (us : List Nat) : List (L2.Key × V) := us.zipIdx.map fun p => (Sum.inl (p.1 : Int), VN p.2)
theorem numK_len (us : List Nat) : (numK us).length = us.length := by unfold numK; rw [List.length_map, List.length_zipIdx]
theorem numK_snoc (us : List Nat) (u : Nat) : numK (us ++ [u]) = numK us ++ [(Sum.inl (u : Int), VN us.length)] := by
  unfold numK
  rw [List.zipIdx_append, List.map_append]
  simp
theorem numK_put {us : List Nat} {u : Nat} (h : u ∉ us) : putK (numK us) (Sum.inl (u : Int)) (VN us.length) = numK (us ++ [u]) := by
  rw [numK_snoc]
  unfold putK
  rw [if_neg ?_]
  intro z
  rw [List.any_eq_true] at z
  obtain ⟨kv, hm, e⟩ := z
  have e := of_decide_eq_true e
  unfold numK at hm
  obtain ⟨p, hp, rfl⟩ := List.mem_map.mp hm
  have e2 : (p.1 : Int) = (u : Int) := Sum.inl.inj e
  have := List.mem_zipIdx' hp
  exact h (by have h3 : p.1 = u := by omega
              rw [← h3]
              exact this.2 ▸ List.getElem_mem _)
theorem numK_valF (z : Int) : ∀ (us : List Nat) (k : Nat), ((us.zipIdx k).map fun p => ((Sum.inl (p.1 : Int) : L2.Key), VN p.2)).find? (fun kv => decide (kv.1 = (Sum.inl z : L2.Key))) = if (z.toNat ∈ us ∧ 0 ≤ z) then some (Sum.inl z, VN (us.idxOf z.toNat + k)) else none
  | [], k => by simp
  | u :: us, k => by
    rw [List.zipIdx_cons, List.map_cons, List.find?_cons]
    by_cases e : (u : Int) = z
    · have hz : z.toNat = u := by omega
      rw [decide_eq_true (by show (Sum.inl (u : Int) : L2.Key) = Sum.inl z; rw [e]), if_pos ⟨by rw [hz]; exact List.mem_cons_self, by omega⟩, hz, List.idxOf_cons_self, Nat.zero_add]
      show some ((Sum.inl (u : Int) : L2.Key), VN k) = _
      rw [e]
    · rw [decide_eq_false (by intro h; exact e (Sum.inl.inj h)), numK_valF z us (k + 1)]
      by_cases h0 : 0 ≤ z
      · have hne : u ≠ z.toNat := by omega
        have hiff : (z.toNat ∈ u :: us ∧ 0 ≤ z) ↔ (z.toNat ∈ us ∧ 0 ≤ z) := by simp [hne.symm]
        simp only [hiff]
        split
        · have e2 : (u :: us).idxOf z.toNat + k = us.idxOf z.toNat + (k + 1) := by
            rw [List.idxOf_cons, show (u == z.toNat) = false by simpa using hne]
            show us.idxOf z.toNat + 1 + k = _
            omega
          rw [e2]
        · rfl
      · rw [if_neg (fun q => h0 q.2), if_neg (fun q => h0 q.2)]
theorem numK_val (us : List Nat) (z : Int) : valV (numK us) (Sum.inl z : L2.Key) = if (z.toNat ∈ us ∧ 0 ≤ z) then some (VN (us.idxOf z.toNat)) else none := by
  unfold valV numK
  have := numK_valF z us 0
  rw [show us.zipIdx = us.zipIdx 0 from rfl, this]
  split <;> rfl
end Bx
/-! What `lives` says: a node lives exactly if an infinite path from it visits good nodes again and again. -/
namespace Lv
section
variable (mv : Nat → List Int) (goods : Nat → Bool) (n : Nat)
def hit (kept reach : Nat → Bool) (ts : List Int) : Bool := ts.any fun t => kept t.toNat && (goods t.toNat || reach t.toNat)
def stp (kept : Nat → Bool) (k : Nat) (p : (Nat → Bool) × Bool) : (Nat → Bool) × Bool :=
  if (kept k && !p.1 k && hit goods kept p.1 (mv k)) = true then (fun t => if t = k then true else p.1 t, true) else p
def pas (kept : Nat → Bool) : Nat → (Nat → Bool) × Bool → (Nat → Bool) × Bool
  | 0, p => p
  | j + 1, p => stp mv goods kept (n - 1 - j) (pas kept j p)
def inn (kept : Nat → Bool) : Nat → (Nat → Bool) → Nat → Bool
  | 0, r => r
  | f + 1, r => if (pas mv goods n kept n (r, false)).2 = true then inn kept f (pas mv goods n kept n (r, false)).1 else (pas mv goods n kept n (r, false)).1
def eqB (r k : Nat → Bool) : Bool := decide (∀ t, t < n → r t = k t)
def out : Nat → (Nat → Bool) → Nat → Bool
  | 0, k => k
  | f + 1, k => if eqB n (inn mv goods n k (n + 1) fun _ => false) k = true then k else out f (inn mv goods n k (n + 1) fun _ => false)
def lives (ss : List Int) : Bool := ss.any fun s => out mv goods n (n + 1) (fun _ => true) s.toNat
end

/-! counting -/
def cnt (f : Nat → Bool) : Nat → Nat
  | 0 => 0
  | n + 1 => cnt f n + (if f n = true then 1 else 0)
theorem cnt_le (f : Nat → Bool) : ∀ n, cnt f n ≤ n
  | 0 => Nat.le_refl 0
  | n + 1 => by
    have := cnt_le f n
    unfold cnt
    split <;> omega
theorem cnt_mono {f g : Nat → Bool} : ∀ n, (∀ t, t < n → f t = true → g t = true) → cnt f n ≤ cnt g n
  | 0, _ => Nat.le_refl 0
  | n + 1, h => by
    have := cnt_mono n fun t ht => h t (by omega)
    unfold cnt
    by_cases a : f n = true
    · rw [if_pos a, if_pos (h n (by omega) a)]
      omega
    · rw [if_neg a]
      omega
theorem cnt_lt {f g : Nat → Bool} : ∀ n, (∀ t, t < n → f t = true → g t = true) → (∃ t, t < n ∧ g t = true ∧ f t = false) → cnt f n < cnt g n
  | 0, _, ⟨t, ht, _⟩ => absurd ht (Nat.not_lt_zero t)
  | n + 1, h, ⟨t, ht, gt, ft⟩ => by
    unfold cnt
    rcases Nat.lt_or_ge t n with y | y
    · have := cnt_lt n (fun t ht => h t (by omega)) ⟨t, y, gt, ft⟩
      by_cases a : f n = true
      · rw [if_pos a, if_pos (h n (by omega) a)]
        omega
      · rw [if_neg a]
        omega
    · have e : t = n := by omega
      subst e
      have := cnt_mono t fun s hs => h s (by omega)
      rw [gt, ft, if_pos rfl, if_neg (by decide)]
      omega
theorem cnt_all (n : Nat) : cnt (fun _ => true) n = n := by
  induction n with
  | zero => rfl
  | succ n ih =>
    unfold cnt
    rw [ih, if_pos rfl]
section
variable {mv : Nat → List Int} {goods : Nat → Bool} {n : Nat}
theorem hit_iff {kept reach : Nat → Bool} {ts : List Int} : hit goods kept reach ts = true ↔ ∃ t ∈ ts, kept t.toNat = true ∧ (goods t.toNat = true ∨ reach t.toNat = true) := by
  unfold hit
  rw [List.any_eq_true]
  constructor
  · rintro ⟨t, ht, h⟩
    rw [Bool.and_eq_true_iff, Bool.or_eq_true_iff] at h
    exact ⟨t, ht, h⟩
  · rintro ⟨t, ht, h⟩
    refine ⟨t, ht, ?_⟩
    rw [Bool.and_eq_true_iff, Bool.or_eq_true_iff]
    exact h
/-- the condition under which a step fires -/
def Fire (mv : Nat → List Int) (goods kept reach : Nat → Bool) (k : Nat) : Prop := kept k = true ∧ reach k = false ∧ hit goods kept reach (mv k) = true
theorem stp_cases (kept : Nat → Bool) (k : Nat) (p : (Nat → Bool) × Bool) : (Fire mv goods kept p.1 k ∧ stp mv goods kept k p = (fun t => if t = k then true else p.1 t, true)) ∨ (¬ Fire mv goods kept p.1 k ∧ stp mv goods kept k p = p) := by
  unfold stp Fire
  by_cases c : (kept k && !p.1 k && hit goods kept p.1 (mv k)) = true
  · left
    rw [if_pos c]
    simp only [Bool.and_eq_true, Bool.not_eq_true'] at c
    exact ⟨⟨c.1.1, c.1.2, c.2⟩, rfl⟩
  · right
    rw [if_neg c]
    refine ⟨fun ⟨a, b, d⟩ => c ?_, rfl⟩
    rw [a, b, d]
    rfl
theorem pas_mono (kept : Nat → Bool) (p : (Nat → Bool) × Bool) : ∀ j t, p.1 t = true → (pas mv goods n kept j p).1 t = true
  | 0, _, h => h
  | j + 1, t, h => by
    have ih := pas_mono kept p j t h
    unfold pas
    rcases stp_cases (mv := mv) (goods := goods) kept (n - 1 - j) (pas mv goods n kept j p) with ⟨_, e⟩ | ⟨_, e⟩
    · rw [e]
      show (if t = n - 1 - j then true else _) = true
      split
      · rfl
      · exact ih
    · rw [e]
      exact ih
theorem pas_quiet (kept : Nat → Bool) (p : (Nat → Bool) × Bool) : ∀ j, (pas mv goods n kept j p).2 = false → pas mv goods n kept j p = p ∧ ∀ i, i < j → ¬ Fire mv goods kept p.1 (n - 1 - i)
  | 0, _ => ⟨rfl, fun i h => absurd h (Nat.not_lt_zero i)⟩
  | j + 1, h => by
    unfold pas at h ⊢
    rcases stp_cases (mv := mv) (goods := goods) kept (n - 1 - j) (pas mv goods n kept j p) with ⟨_, e⟩ | ⟨nf, e⟩
    · rw [e] at h
      cases h
    · rw [e] at h ⊢
      obtain ⟨h1, h2⟩ := pas_quiet kept p j h
      refine ⟨h1, fun i hi => ?_⟩
      rcases Nat.lt_or_ge i j with y | y
      · exact h2 i y
      · have : i = j := by omega
        rw [this, ← h1]
        exact nf
theorem pas_grow (kept r : Nat → Bool) : ∀ j, j ≤ n → (pas mv goods n kept j (r, false)).2 = true → ∃ t, t < n ∧ (pas mv goods n kept j (r, false)).1 t = true ∧ r t = false
  | 0, _, h => by cases h
  | j + 1, hj, h => by
    unfold pas at h ⊢
    rcases stp_cases (mv := mv) (goods := goods) kept (n - 1 - j) (pas mv goods n kept j (r, false)) with ⟨f, e⟩ | ⟨nf, e⟩
    · rw [e]
      refine ⟨n - 1 - j, by omega, if_pos rfl, ?_⟩
      cases hr : r (n - 1 - j) with
      | false => rfl
      | true =>
        have := pas_mono (mv := mv) (goods := goods) (n := n) kept (r, false) j (n - 1 - j) hr
        rw [f.2.1] at this
        cases this
    · rw [e] at h ⊢
      exact pas_grow kept r j (by omega) h
/-- from k a good kept node can be reached through kept nodes, in m + 1 steps -/
def Rch (mv : Nat → List Int) (goods kept : Nat → Bool) : Nat → Nat → Prop
  | 0, k => ∃ t ∈ mv k, kept t.toNat = true ∧ goods t.toNat = true
  | m + 1, k => ∃ t ∈ mv k, kept t.toNat = true ∧ Rch mv goods kept m t.toNat
def Snd (mv : Nat → List Int) (goods kept : Nat → Bool) (r : Nat → Bool) : Prop := ∀ t, r t = true → kept t = true ∧ ∃ m, Rch mv goods kept m t
theorem stp_snd {kept : Nat → Bool} {k : Nat} {p : (Nat → Bool) × Bool} (h : Snd mv goods kept p.1) : Snd mv goods kept (stp mv goods kept k p).1 := by
  rcases stp_cases (mv := mv) (goods := goods) kept k p with ⟨f, e⟩ | ⟨_, e⟩
  · rw [e]
    intro t ht
    have ht : (if t = k then true else p.1 t) = true := ht
    by_cases y : t = k
    · subst y
      refine ⟨f.1, ?_⟩
      obtain ⟨t', h1, h2, h3⟩ := hit_iff.mp f.2.2
      rcases h3 with g | g
      · exact ⟨0, t', h1, h2, g⟩
      · obtain ⟨_, m, hm⟩ := h _ g
        exact ⟨m + 1, t', h1, h2, hm⟩
    · rw [if_neg y] at ht
      exact h t ht
  · rw [e]
    exact h
theorem pas_snd {kept : Nat → Bool} {p : (Nat → Bool) × Bool} (h : Snd mv goods kept p.1) : ∀ j, Snd mv goods kept (pas mv goods n kept j p).1
  | 0 => h
  | j + 1 => stp_snd (pas_snd h j)
def Clo (mv : Nat → List Int) (goods kept : Nat → Bool) (n : Nat) (r : Nat → Bool) : Prop := ∀ k, k < n → kept k = true → hit goods kept r (mv k) = true → r k = true
theorem inn_snd {kept : Nat → Bool} : ∀ f r, Snd mv goods kept r → Snd mv goods kept (inn mv goods n kept f r)
  | 0, r, h => h
  | f + 1, r, h => by
    unfold inn
    have h1 := pas_snd (n := n) (p := (r, false)) h n
    split
    · exact inn_snd f _ h1
    · exact h1
theorem inn_clo {kept : Nat → Bool} : ∀ f r, n < cnt r n + f → Clo mv goods kept n (inn mv goods n kept f r)
  | 0, r, h => by have := cnt_le r n; omega
  | f + 1, r, h => by
    unfold inn
    split
    · rename_i c
      refine inn_clo f _ ?_
      have := cnt_lt n (f := r) (g := (pas mv goods n kept n (r, false)).1) (fun t _ ht => pas_mono kept (r, false) n t ht) (pas_grow kept r n (Nat.le_refl n) c)
      omega
    · rename_i c
      obtain ⟨h1, h2⟩ := pas_quiet (mv := mv) (goods := goods) (n := n) kept (r, false) n (Bool.eq_false_iff.mpr c)
      rw [h1]
      intro k hk hkk hh
      cases hr : r k with
      | true => exact hr
      | false =>
        have := h2 (n - 1 - k) (by omega)
        rw [show n - 1 - (n - 1 - k) = k by omega] at this
        exact absurd ⟨hkk, hr, hh⟩ this
theorem out_fix : ∀ f k, cnt k n < f → ∀ t, t < n → inn mv goods n (out mv goods n f k) (n + 1) (fun _ => false) t = out mv goods n f k t
  | 0, k, h => absurd h (Nat.not_lt_zero _)
  | f + 1, k, h => by
    unfold out
    split
    · rename_i c
      intro t ht
      exact of_decide_eq_true c t ht
    · rename_i c
      refine out_fix f _ ?_
      have hs := inn_snd (mv := mv) (goods := goods) (n := n) (kept := k) (n + 1) (fun _ => false) (fun t ht => by cases ht)
      have := cnt_lt n (f := inn mv goods n k (n + 1) fun _ => false) (g := k) (fun t _ ht => (hs t ht).1) ?_
      · omega
      · refine Classical.byContradiction fun hno => c (decide_eq_true fun t ht => ?_)
        cases ha : inn mv goods n k (n + 1) (fun _ => false) t with
        | true => exact (hs t ha).1.symm
        | false =>
          cases hb : k t with
          | false => rfl
          | true => exact absurd ⟨t, ht, hb, ha⟩ hno
/-- an infinite path that visits good nodes again and again -/
def Path (mv : Nat → List Int) (goods : Nat → Bool) (s : Nat) : Prop := ∃ π : Nat → Nat, π 0 = s ∧ (∀ i, ((π (i + 1) : Nat) : Int) ∈ mv (π i)) ∧ ∀ i, ∃ j, i < j ∧ goods (π j) = true
/-- all targets are nodes -/
def Bnd (mv : Nat → List Int) (n : Nat) : Prop := ∀ k, k < n → ∀ t ∈ mv k, 0 ≤ t ∧ t < (n : Int)
theorem path_of {K : Nat → Bool} (hb : Bnd mv n) (hK : ∀ k, k < n → K k = true → ∃ m, Rch mv goods K m k) {s : Nat} (hs : s < n) (ks : K s = true) : Path mv goods s := by
  have next : ∀ p : {p : Nat × Nat // p.1 < n ∧ K p.1 = true ∧ Rch mv goods K p.2 p.1}, ∃ q : {p : Nat × Nat // p.1 < n ∧ K p.1 = true ∧ Rch mv goods K p.2 p.1}, ((q.1.1 : Nat) : Int) ∈ mv p.1.1 ∧ (p.1.2 = 0 → goods q.1.1 = true) ∧ ∀ m, p.1.2 = m + 1 → q.1.2 = m := by
    rintro ⟨⟨k, m⟩, hk, hkk, hr⟩
    cases m with
    | zero =>
      obtain ⟨t, ht, kt, gt⟩ := hr
      obtain ⟨t0, t1⟩ := hb k hk t ht
      obtain ⟨m', hm'⟩ := hK t.toNat (by omega) kt
      refine ⟨⟨⟨t.toNat, m'⟩, by show t.toNat < n; omega, kt, hm'⟩, ?_, fun _ => gt, fun m h => by cases h⟩
      show ((t.toNat : Nat) : Int) ∈ mv k
      rw [show ((t.toNat : Nat) : Int) = t by omega]
      exact ht
    | succ m =>
      obtain ⟨t, ht, kt, rt⟩ := hr
      obtain ⟨t0, t1⟩ := hb k hk t ht
      refine ⟨⟨⟨t.toNat, m⟩, by show t.toNat < n; omega, kt, rt⟩, ?_, (fun h => by cases h), fun m' h => (Nat.succ.inj h : m = m')⟩
      show ((t.toNat : Nat) : Int) ∈ mv k
      rw [show ((t.toNat : Nat) : Int) = t by omega]
      exact ht
  obtain ⟨m, hm⟩ := hK s hs ks
  let σ : Nat → {p : Nat × Nat // p.1 < n ∧ K p.1 = true ∧ Rch mv goods K p.2 p.1} := fun i => Nat.rec ⟨⟨s, m⟩, hs, ks, hm⟩ (fun _ p => Classical.choose (next p)) i
  have hσ : ∀ i, ((((σ (i + 1)).1.1 : Nat) : Int) ∈ mv (σ i).1.1) ∧ ((σ i).1.2 = 0 → goods (σ (i + 1)).1.1 = true) ∧ ∀ m, (σ i).1.2 = m + 1 → (σ (i + 1)).1.2 = m := fun i => Classical.choose_spec (next (σ i))
  refine ⟨fun i => (σ i).1.1, rfl, fun i => (hσ i).1, fun i => ?_⟩
  have key : ∀ m i, (σ i).1.2 = m → ∃ j, i < j ∧ goods (σ j).1.1 = true := by
    intro m
    induction m with
    | zero => exact fun i h => ⟨i + 1, by omega, (hσ i).2.1 h⟩
    | succ m ih =>
      intro i h
      obtain ⟨j, hj, hg⟩ := ih (i + 1) ((hσ i).2.2 m h)
      exact ⟨j, by omega, hg⟩
  exact key _ i rfl
theorem path_lt (hb : Bnd mv n) {π : Nat → Nat} (h0 : π 0 < n) (hπ : ∀ i, ((π (i + 1) : Nat) : Int) ∈ mv (π i)) : ∀ i, π i < n
  | 0 => h0
  | i + 1 => by
    have := hb (π i) (path_lt hb h0 hπ i) _ (hπ i)
    omega
theorem out_path (hb : Bnd mv n) {π : Nat → Nat} (h0 : π 0 < n) (hπ : ∀ i, ((π (i + 1) : Nat) : Int) ∈ mv (π i)) (hg : ∀ i, ∃ j, i < j ∧ goods (π j) = true) : ∀ f k, (∀ i, k (π i) = true) → ∀ i, out mv goods n f k (π i) = true
  | 0, k, h => h
  | f + 1, k, h => by
    unfold out
    split
    · exact h
    · refine out_path hb h0 hπ hg f _ fun i => ?_
      have hc := inn_clo (mv := mv) (goods := goods) (n := n) (kept := k) (n + 1) (fun _ => false) (by omega)
      have hlt := path_lt hb h0 hπ
      have key : ∀ d i, goods (π (i + d + 1)) = true → inn mv goods n k (n + 1) (fun _ => false) (π i) = true := by
        intro d
        induction d with
        | zero =>
          intro i hgi
          refine hc (π i) (hlt i) (h i) (hit_iff.mpr ⟨_, hπ i, ?_, .inl ?_⟩)
          · rw [Int.toNat_natCast]; exact h _
          · rw [Int.toNat_natCast]; exact hgi
        | succ d ih =>
          intro i hgi
          refine hc (π i) (hlt i) (h i) (hit_iff.mpr ⟨_, hπ i, ?_, .inr ?_⟩)
          · rw [Int.toNat_natCast]; exact h _
          · rw [Int.toNat_natCast]
            exact ih (i + 1) (by rw [show i + 1 + d + 1 = i + (d + 1) + 1 by omega]; exact hgi)
      obtain ⟨j, hj, hgj⟩ := hg i
      exact key (j - i - 1) i (by rw [show i + (j - i - 1) + 1 = j by omega]; exact hgj)
/-- `lives` is true exactly if an infinite path from one of the starts visits good nodes again and again -/
theorem lives_iff (hb : Bnd mv n) {ss : List Int} (hs : ∀ s ∈ ss, 0 ≤ s ∧ s < (n : Int)) : lives mv goods n ss = true ↔ ∃ s ∈ ss, Path mv goods s.toNat := by
  unfold lives
  rw [List.any_eq_true]
  constructor
  · rintro ⟨s, h1, h2⟩
    have hr := hs s h1
    have hf := out_fix (mv := mv) (goods := goods) (n := n) (n + 1) (fun _ => true) (by rw [cnt_all]; omega)
    refine ⟨s, h1, path_of (K := out mv goods n (n + 1) fun _ => true) hb (fun k hk hkk => ?_) (by omega) h2⟩
    rw [← hf k hk] at hkk
    exact (inn_snd (mv := mv) (goods := goods) (n := n) (n + 1) (fun _ => false) (fun t ht => by cases ht) k hkk).2
  · rintro ⟨s, h1, π, p0, p1, p2⟩
    have hr := hs s h1
    refine ⟨s, h1, ?_⟩
    have := out_path hb (π := π) (by rw [p0]; omega) p1 p2 (n + 1) (fun _ => true) (fun _ => rfl) 0
    rw [p0] at this
    exact this
end
end Lv
namespace Lv
open Gr
theorem nd_le {l : List Nat} {n : Nat} (nd : l.Nodup) (lt : ∀ x ∈ l, x < n) : l.length ≤ n := by
  have h := wsum_le (fun _ => 1) n nd lt
  have h1 : ∀ l : List Nat, wsum (fun _ => 1) l = l.length := by
    intro l
    induction l with
    | nil => rfl
    | cons x l ih => rw [wsum_cons, ih, List.length_cons]; omega
  have h2 : ∀ n, below (fun _ => 1) n = n := by
    intro n
    induction n with
    | zero => rfl
    | succ n ih => show below _ n + 1 = _; rw [ih]
  rw [h1, h2] at h
  exact h
theorem pigeon {n : Nat} {f : Nat → Nat} (h : ∀ k, k ≤ n → f k < n) : ∃ i j, i < j ∧ j ≤ n ∧ f i = f j := by
  refine Classical.byContradiction fun hno => ?_
  have nd : ((List.range (n + 1)).map f).Nodup := by
    rw [List.nodup_iff_pairwise_ne, List.pairwise_map]
    refine List.Pairwise.imp_of_mem (R := (· < ·)) (fun {a b} ha hb hab e => hno ⟨a, b, hab, ?_, e⟩) List.pairwise_lt_range
    have := List.mem_range.mp hb
    omega
  have := nd_le nd fun x hx => by
    obtain ⟨k, hk, rfl⟩ := List.mem_map.mp hx
    exact h k (by have := List.mem_range.mp hk; omega)
  rw [List.length_map, List.length_range] at this
  omega
theorem rc_path {g : G} {π : Nat → Nat} (hπ : ∀ i, E g (π i) (π (i + 1))) (i : Nat) : ∀ d, Rc g (π i) (π (i + d))
  | 0 => .refl _
  | d + 1 => (rc_path hπ i d).snoc (hπ (i + d))
theorem path_cyc {g : G} {goods : Nat → Bool} {n : Nat} {π : Nat → Nat} (hlt : ∀ i, π i < n) (hπ : ∀ i, E g (π i) (π (i + 1))) (hg : ∀ i, ∃ j, i < j ∧ goods (π j) = true) : ∃ a, goods a = true ∧ Rc g (π 0) a ∧ Cyc g a := by
  let t : Nat → Nat := fun k => Nat.rec (Classical.choose (hg 0)) (fun _ p => Classical.choose (hg p)) k
  have ht : ∀ k, t k < t (k + 1) ∧ goods (π (t (k + 1))) = true := fun k => Classical.choose_spec (hg (t k))
  have hmono : ∀ i d, t i < t (i + d + 1) := by
    intro i d
    induction d with
    | zero => exact (ht i).1
    | succ d ih => exact Nat.lt_trans ih (ht (i + d + 1)).1
  obtain ⟨i, j, hij, _, e⟩ := pigeon (n := n) (f := fun k => π (t (k + 1))) fun k _ => hlt _
  have h1 : t (i + 1) < t (j + 1) := by
    have := hmono (i + 1) (j - i - 1)
    rwa [show i + 1 + (j - i - 1) + 1 = j + 1 by omega] at this
  refine ⟨π (t (i + 1)), (ht i).2, ?_, π (t (i + 1) + 1), hπ _, ?_⟩
  · have := rc_path hπ 0 (t (i + 1))
    rwa [Nat.zero_add] at this
  · have h2 := rc_path hπ (t (i + 1) + 1) (t (j + 1) - (t (i + 1) + 1))
    rw [show t (i + 1) + 1 + (t (j + 1) - (t (i + 1) + 1)) = t (j + 1) by omega] at h2
    have e : π (t (i + 1)) = π (t (j + 1)) := e
    rw [e]
    rw [← e] at h2 ⊢
    exact h2
theorem cyc_path {g : G} {mv : Nat → List Int} {goods : Nat → Bool} {n : Nat} (hE : ∀ u v, u < n → (E g u v ↔ (v : Int) ∈ mv u)) (hb : Bnd mv n) {s a : Nat} (hs : s < n) (ha : goods a = true) (r : Rc g s a) (hc : Cyc g a) : Path mv goods s := by
  have ok : ∀ u v, u < n → E g u v → v < n := fun u v hu e => by
    have := hb u hu _ ((hE u v hu).mp e)
    omega
  have step : ∀ v b, Rc g v b → b = a → ∀ u, u < n → E g u v → ∃ m, Rch mv goods (fun u => @decide (Rc g u a) (Classical.propDecidable _)) m u := by
    intro v b r
    induction r with
    | refl v =>
      rintro rfl u hu e
      refine ⟨0, (v : Int), (hE u v hu).mp e, ?_, ?_⟩
      · rw [Int.toNat_natCast]; exact @decide_eq_true _ (Classical.propDecidable _) (Rc.refl v)
      · rw [Int.toNat_natCast]; exact ha
    | @step v w b e2 r5 ih =>
      rintro rfl u hu e
      obtain ⟨m, hm⟩ := ih rfl v (ok u v hu e) e2
      refine ⟨m + 1, (v : Int), (hE u v hu).mp e, ?_, ?_⟩
      · rw [Int.toNat_natCast]; exact @decide_eq_true _ (Classical.propDecidable _) (Rc.step e2 r5)
      · rw [Int.toNat_natCast]; exact hm
  refine path_of (K := fun u => @decide (Rc g u a) (Classical.propDecidable _)) hb (fun k hk hkk => ?_) hs (@decide_eq_true _ (Classical.propDecidable _) r)
  have rk := @of_decide_eq_true _ (Classical.propDecidable _) hkk
  rcases rk.cases_step with rfl | ⟨w, e, r2⟩
  · obtain ⟨v, e, r2⟩ := hc
    exact step v _ r2 rfl _ hk e
  · exact step w _ r2 rfl _ hk e
theorem lives_cyc {g : G} {mv : Nat → List Int} {goods : Nat → Bool} {n : Nat} (hE : ∀ u v, u < n → (E g u v ↔ (v : Int) ∈ mv u)) (hb : Bnd mv n) {ss : List Int} (hs : ∀ s ∈ ss, 0 ≤ s ∧ s < (n : Int)) : lives mv goods n ss = true ↔ ∃ s ∈ ss, ∃ a, goods a = true ∧ Rc g s.toNat a ∧ Cyc g a := by
  rw [lives_iff hb hs]
  constructor
  · rintro ⟨s, h1, π, p0, p1, p2⟩
    have hr := hs s h1
    have hlt := path_lt hb (π := π) (by rw [p0]; omega) p1
    obtain ⟨a, h2, h3, h4⟩ := path_cyc (g := g) hlt (fun i => (hE _ _ (hlt i)).mpr (p1 i)) p2
    rw [p0] at h3
    exact ⟨s, h1, a, h2, h3, h4⟩
  · rintro ⟨s, h1, a, h2, h3, h4⟩
    have hr := hs s h1
    exact ⟨s, h1, cyc_path hE hb (by omega) h2 h3 h4⟩
end Lv
/-! own rule: enumerate of a tuple -/
namespace Bx
open PySem PySem.Spec PyProof.Rows L2
open AutoSeq1 (wpAny_loadPart')
theorem meets_enumerate_newT (l : Addr) (items : Array Value) (n : Nat) (dct : Option Addr) (sl : Array (Option Value)) :
    Meets (Builtin.«enumerate.__new__» ⟨[.type "enumerate", .ref l], []⟩) (fun _ R s => s.heap.get? l = some { cls := .type "tuple", dict := dct, data := .seq items n, slots := sl } ∧
      R (.ok (.ret (.ref (s.heap.push { cls := .type "tuple_iterator", data := .fields #[.ref l, .int 0 0] }).objs.size)))
        { s with heap := (s.heap.push { cls := .type "tuple_iterator", data := .fields #[.ref l, .int 0 0] }).push { cls := .type "enumerate", data := .fields #[.none, .bool false, .ref s.heap.objs.size, rawInt 0, .none, .none] } }) :=
  .of_wp fun prog w A R s h => by
    obtain ⟨hp, g, d, tk, os⟩ := s; obtain ⟨hl, h⟩ := h
    have hsub := sub_enumerate
    have hL : Heap.IsTuple (Shared.heap ⟨hp, g, d, tk, os⟩) l items := ⟨_, hl, rfl, n, rfl⟩
    wp_walk using wpAny_loadPart' hl
    refine wpAny_stack_any fun st => wpAny_pure ?_
    split
    · rename_i c _ _ _ _ _
      cases (c == Value.type "enumerate")
      · wp_walk using wpAny_loadPart' hl, wpAny_pyIter_tuple hL
        exact ⟨_, rfl, h⟩
      · wp_walk using wpAny_loadPart' hl, wpAny_pyIter_tuple hL
        exact ⟨_, rfl, h⟩
    · wp_walk using wpAny_loadPart' hl, wpAny_pyIter_tuple hL
      exact ⟨_, rfl, h⟩
theorem call_enumerate_tuple {prog : Program} {w : World} {A : Around} {E : Value → Shared → Prop} {s : Shared} {l : Addr} {items : Array Value} {Q : Value → Shared → Prop} (hL : s.heap.IsTuple l items)
    (h : ∀ h', IsEnum h' (s.heap.objs.size + 1) s.heap.objs.size 0 .none → h'.IsTupleIter s.heap.objs.size l 0 → h'.objs.size = s.heap.objs.size + 2 →
      (∀ b o, s.heap.get? b = some o → h'.get? b = some o) → Q (.ref (s.heap.objs.size + 1)) { s with heap := h' }) :
    wpAny (model prog w) A (call (.type "enumerate") [.ref l]) Q E s := by
  obtain ⟨⟨c, dct, dt, sl⟩, hl, hc, n, hd⟩ := hL
  replace hc : c = .type "tuple" := hc
  replace hd : dt = .seq items n := hd
  subst hc hd
  refine callType_new F.called_enumerate (by decide) (F.typeCall_enumerate_1 _) (F.newCall_enumerate_1 _) (fun obj => F.args_object_init_2 obj _) F.entry_enumerate_new
    (meets_enumerate_newT l items n dct sl) ⟨hl, ?_⟩
  have hz : (s.heap.push { cls := .type "tuple_iterator", data := .fields #[.ref l, .int 0 0] }).objs.size = s.heap.objs.size + 1 := Heap.size_push ..
  show _ ∧ _
  rw [hz]
  have he : IsEnum ((s.heap.push { cls := .type "tuple_iterator", data := .fields #[.ref l, .int 0 0] }).push
      { cls := .type "enumerate", data := .fields #[.none, .bool false, .ref s.heap.objs.size, rawInt 0, .none, .none] }) (s.heap.objs.size + 1) s.heap.objs.size 0 .none := by
    have := Heap.get?_push_size (s.heap.push { cls := .type "tuple_iterator", data := .fields #[.ref l, .int 0 0] })
      (o := { cls := .type "enumerate", data := .fields #[.none, .bool false, .ref s.heap.objs.size, rawInt 0, .none, .none] }) rfl
    rw [hz] at this; exact this
  refine ⟨⟨_, he, rfl⟩, h _ he ⟨_, Heap.get?_push_of_some _ (Heap.get?_push_size _ rfl), rfl, rfl⟩ (by rw [Heap.size_push, hz]) fun b o x => Heap.get?_push_of_some _ (Heap.get?_push_of_some _ x)⟩
/-- the tuple at a, each item in a new pair -/
def IteT (K : PySem.W.Frag) (a : Addr) : It :=
  ⟨fun i H => ∃ (xs : List V) (x : V), SqT K H a xs ∧ xs[i]? = some x, fun i H v H' => ∃ T x, v = .ref T ∧ H T = none ∧ H' = upd H T (.tup [.int (i : Nat), x]) ∧ ∀ xs, SqT K H a xs → xs[i]? = some x, fun i H => ∃ xs : List V, SqT K H a xs ∧ xs.length ≤ i⟩
theorem turn_enumT {P : Program} {w : World} {K : PySem.W.Frag} {elts : List Expr} {kk : Nat} {tpos : Pos} (a e it : Addr) :
    Turn P w K (.Tuple elts kk tpos) (IteT K a) [e, it] e (fun i h => (∃ old, IsEnum h e it ((i : Nat) : Int) old) ∧ h.IsTupleIter it a i ∧ e ≠ it) where
  mem := by simp
  obj := fun i h st b hb => by
    obtain ⟨⟨old, he⟩, ⟨o, ho, hc, hd⟩, _⟩ := st
    have e' : b = e ∨ b = it := by simpa using hb
    rcases e' with z | z
    · rw [z]; exact ⟨_, he, fun v q => nomatch q⟩
    · rw [z]; exact ⟨o, ho, fun v q => by rw [hd] at q; cases q⟩
  keep := fun i h h' st k => let ⟨⟨old, he⟩, hi, hne⟩ := st; ⟨⟨old, k e (by simp) _ he⟩, hi.at fun o q => k it (by simp) o q, hne⟩
  item := by
    intro X hP hw hK hc i pins s σ H E I hf st hg
    subst hP hw hK
    obtain ⟨⟨old, he⟩, hit, hne⟩ := st
    obtain ⟨xs, x, hq, hx⟩ := hg
    obtain ⟨its, rv, p, hz⟩ := I.tuple hq
    obtain ⟨u, hu, ru⟩ := rv.get hx
    have hel : e < s.heap.objs.size := Heap.lt_size he
    have hil : it < s.heap.objs.size := by obtain ⟨_, q, _⟩ := hit; exact Heap.lt_size q
    obtain ⟨oa, hoa, hca, na, hda⟩ := id p
    have hai : a ≠ it := fun z => by
      obtain ⟨o, ho, hc', hd'⟩ := hit
      rw [← z, hoa] at ho
      cases ho
      rw [hda] at hd'
      cases hd'
    have hae : e ≠ a := fun z => by
      have he' := he
      unfold IsEnum at he'
      rw [z, hoa] at he'
      cases he'
      cases hda
    have hii : i < its.toArray.size := by
      rcases Nat.lt_or_ge i its.toArray.size with y | y
      · exact y
      · rw [List.getElem?_eq_none (by simpa using y)] at hu
        cases hu
    have hh1 : X.A.in1.handled = none := by simp [I.ok.hd hc]
    refine wpAny_pyNext_enum_itemD (Draws.tuple (prog := X.prog) (w := X.w) hh1 it a hai its.toArray) he ⟨hit, p⟩ hii hne (by simp only [List.mem_cons, List.not_mem_nil, or_false, not_or]; exact ⟨hne, hae⟩) fun v h' tk hv ho hit' hT hsz hk => ?_
    have ev : v = u := by
      have : its[i]? = some v := by simpa using hv
      rw [hu] at this
      exact (Option.some.inj this).symm
    subst ev
    refine ⟨_, rfl, wpAny_letOwnedTupleGo_enum (s := { s with heap := h', toks := tk + 1 }) ho fun h'' he' sb => ?_⟩
    have hT2 : h''.get? s.heap.objs.size = some { cls := .type "tuple", data := .seq #[.int i tk, v] } := (sb.2 _ (Nat.ne_of_gt hel)).trans hT
    have new : ObjOk X.prog X.w (upd H s.heap.objs.size (.tup [.int (i : Nat), x])) h'' s.heap.objs.size (.tup [.int (i : Nat), x]) :=
      ⟨by show 2 ≤ sizeLine; decide, [.int i tk, v], .cons ⟨_, rfl⟩ (.cons ru .nil), ⟨_, hT2, rfl, _, rfl⟩⟩
    have I1 : Inv X pins σ (upd H s.heap.objs.size (.tup [.int (i : Nat), x])) { s with heap := h'', toks := tk + 1 } :=
      I.turnedNew (ch := [e, it]) (fun b ob hb q => (sb.2 b (fun z => hb (by simp [z]))).trans (hk b ob (fun z => hb (by simp [z])) (fun z => hb (by simp [z])) q)) hf (Nat.le_refl _) new
    refine ⟨.ref s.heap.objs.size, _, I1, rfl, ⟨_, x, rfl, I.hok.fresh (Nat.le_refl _), rfl, fun ys hy => by rw [I.tuple_inj hy hq]; exact hx⟩, ⟨⟨v, ?_⟩, hit'.1.at fun o q => (sb.2 it (Ne.symm hne)).trans q, hne⟩, fun b hb => ?_⟩
    · have e1 : ((i + 1 : Nat) : Int) = (i : Int) + 1 := by omega
      rw [e1]; exact he'
    · have hb' : b < s.heap.objs.size := by
        have e' : b = e ∨ b = it := by simpa using hb
        rcases e' with z | z
        · rw [z]; exact hel
        · rw [z]; exact hil
      rw [upd_ne (Nat.ne_of_lt hb')]
      exact (hf b hb).1
  done := by
    intro X hP hw hK hc i pins s σ H E I hf st hg
    subst hP hw hK
    obtain ⟨⟨old, he⟩, hit, hne⟩ := st
    obtain ⟨xs, hq, hx⟩ := hg
    obtain ⟨its, rv, p, hz⟩ := I.tuple hq
    obtain ⟨f0, f1, f2, f3, f4, f5⟩ := hf it (by simp)
    have hl := rv.length
    have hT : s.TypeIs (.ref e) "enumerate" := ⟨_, he, rfl⟩
    unfold pyNext
    refine wpAny_bind (wpAny_attempt (wpAny_callSpecial?_slot (name := Str.ofString "__next__") hT F.slot_enumerate_next
      (wpAny_call_entry F.slot_enumerate_next hT F.entry_enumerate_next ?_ (F.args_enumerate_next_1 _))))
    show wpAny _ _ (field (.ref e) 2 >>= _) _ _ _
    refine wpAny_bind (wpAny_field he rfl (x := .ref it) rfl ?_)
    refine wpAny_bind (wpAny_nextOf_tuple_end (I.ok.hd hc) hit p (by simp; omega) fun h' x he' hx' => ?_)
    obtain ⟨o, ho, hc⟩ := hx'
    refine wpAny_bind (wpAny_isInstance (T := "StopIteration") (b := true) ⟨o, ho, hc⟩ isSubtype_stop ?_)
    exact wpAny_pure ⟨rfl, I.turned (t' := s.toks) (fun b o hb q => he' b o hb q) f0 f1 f3 f4 f5⟩
  self := fun A i s Q E st h => let ⟨⟨_, he⟩, _⟩ := st; wpAny_pyIter_enum he h
def iEnumT (K : PySem.W.Frag) (ta : TA) : TI := fun σ H R => ta σ H fun vs H1 => ∃ a xs, vs = [.ref a] ∧ SqT K H1 a xs ∧ R (IteT K a) H1
theorem pi_enumT {X : Cx} {e : Expr} {ta : TA} {p pos tpos : Pos} {elts : List Expr} {kk : Nat} (hg : Gl X "enumerate") (hm : X.mg "enumerate" = none) (ha : PA X [e] ta) (hs : starEach [e] X.env = [(false, eval e X.env)] := by rfl) :
    PI X (.Tuple elts kk tpos) (.Call (.Name "enumerate" p) [e] [] pos) (iEnumT X.K ta) := by
  refine ⟨fun pins s σ H R I h => ?_⟩
  refine Call_ (ld_blt I hg hm boot_enumerate (PyProof.Rows.callWith_type1 (thn (ha.run pos pins s σ H _ I h) fun us s1 ⟨vs, H1, I1, r1, q1⟩ => ?_) hs rfl))
  obtain ⟨a, xs, ex, hq, q⟩ := q1
  subst ex
  cases r1 with
  | cons r rr =>
    cases rr
    cases r
    obtain ⟨its, rv, p', hz⟩ := I1.tuple hq
    refine call_enumerate_tuple p' fun h' he hit hsz hk => wpAny_pyIter_enum he ?_
    have I2 : Inv X pins σ H1 { s1 with heap := h' } := I1.kept (t' := s1.toks) hk
    refine ⟨s1.heap.objs.size + 1, [s1.heap.objs.size + 1, s1.heap.objs.size], _, _, H1, rfl, I2, turn_enumT a (s1.heap.objs.size + 1) s1.heap.objs.size, ⟨⟨.none, he⟩, hit, Nat.succ_ne_self _⟩, fun b hb => ?_, q⟩
    have e' : b = s1.heap.objs.size + 1 ∨ b = s1.heap.objs.size := by simpa using hb
    have hle : s1.heap.objs.size ≤ b := by
      rcases e' with z | z
      · rw [z]; exact Nat.le_add_right _ _
      · rw [z]; exact Nat.le_refl _
    exact I1.fpOk hle (I1.hok.fresh hle)
theorem walk_enumT {K : PySem.W.Frag} {a : Addr} {xs : List V} : Walk (IteT K a) xs.length (fun H => SqT K H a xs) (YPair (fun i => some (.int (i : Nat))) (fun i => xs[i]?)) := by
  refine ⟨fun i _ hi q => ⟨xs, xs[i], q, by simp [hi]⟩, fun _ q => ⟨xs, q, Nat.le_refl _⟩, fun i H v H' _ q y => ?_⟩
  obtain ⟨T, x, h1, h2, h3, h4⟩ := y
  exact ⟨T, .int (i : Nat), x, h1, h2, h3, rfl, h4 xs q⟩
end Bx
namespace Bx
open PySem PySem.Spec PyProof.Rows L2
theorem pi_enumTK {X : Cx} {K : PySem.W.Frag} (h : X.K = K) {e : Expr} {ta : TA} {p pos tpos : Pos} {elts : List Expr} {kk : Nat} (hg : Gl X "enumerate") (hm : X.mg "enumerate" = none) (ha : PA X [e] ta) (hs : starEach [e] X.env = [(false, eval e X.env)] := by rfl) :
    PI X (.Tuple elts kk tpos) (.Call (.Name "enumerate" p) [e] [] pos) (iEnumT K ta) := by
  subst h
  exact pi_enumT hg hm ha hs
/-- two clauses, the outer walk over anything -/
theorem lc2_it {J : It} {n : Nat} {G : Hp → Prop} {Y : Nat → Hp → V → Hp → Prop} (w : Walk J n G Y) {g g1 : TG} {tt tt1 : TT} {wi1 : TI} {te : TE} {vs vs1 : List Nat} {σ : L2.St} {H1 : Hp} {D : Addr} {Qd : Hp → Prop} (Pv : Nat → Hp → Prop) (h0 : Pv 0 (upd H1 D (.lst []))) (hG : ∀ i H, i ≤ n → Pv i H → G H)
    (hs : ∀ i x H H0, i < n → Pv i H → Y i H x H0 → g x (wipe σ vs) H0 fun σ2 H2 => wipe σ2 vs = wipe σ vs ∧ tt σ2 H2 fun b H3 => if b = true then wi1 σ2 H3 fun J1 H4 => ∃ W1 : Nat → Nat → Hp → Prop, (∃ m, W1 0 m H4) ∧ ∀ j k H, W1 j k H →
      (J1.stop j H ∧ Pv (i + 1) H) ∨ (J1.go j H ∧ ∃ Nx1 : Hp → Prop, (∀ H', Nx1 H' → ∃ k', k' < k ∧ W1 (j + 1) k' H') ∧ ∀ x H', J1.yld j H x H' → g1 x (wipe σ2 vs1) H' fun σ3 H5 => wipe σ3 vs1 = wipe σ2 vs1 ∧ tt1 σ3 H5 fun b H6 =>
        if b = true then te σ3 H6 fun y H7 => ∃ acc, H7 D = some (.lst acc) ∧ acc.length < sizeLine ∧ Nx1 (upd H7 D (.lst (acc ++ [y]))) else Nx1 H6) else Pv (i + 1) H3) (hd : ∀ H, Pv n H → Qd H) :
    ∃ W : Nat → Nat → Hp → Prop, (∃ m, W 0 m (upd H1 D (.lst []))) ∧ ∀ i m H, W i m H →
      (J.stop i H ∧ Qd H) ∨ (J.go i H ∧ ∃ Nx : Hp → Prop, (∀ H', Nx H' → ∃ m', m' < m ∧ W (i + 1) m' H') ∧ ∀ x H', J.yld i H x H' → g x (wipe σ vs) H' fun σ2 H2 => wipe σ2 vs = wipe σ vs ∧ tt σ2 H2 fun b H3 =>
        if b = true then wi1 σ2 H3 fun J1 H4 => ∃ W1 : Nat → Nat → Hp → Prop, (∃ m, W1 0 m H4) ∧ ∀ j k H, W1 j k H →
          (J1.stop j H ∧ Nx H) ∨ (J1.go j H ∧ ∃ Nx1 : Hp → Prop, (∀ H', Nx1 H' → ∃ k', k' < k ∧ W1 (j + 1) k' H') ∧ ∀ x H', J1.yld j H x H' → g1 x (wipe σ2 vs1) H' fun σ3 H5 => wipe σ3 vs1 = wipe σ2 vs1 ∧ tt1 σ3 H5 fun b H6 =>
            if b = true then te σ3 H6 fun y H7 => ∃ acc, H7 D = some (.lst acc) ∧ acc.length < sizeLine ∧ Nx1 (upd H7 D (.lst (acc ++ [y]))) else Nx1 H6) else Nx H3) := by
  refine ⟨fun i m H => m = n - i ∧ i ≤ n ∧ Pv i H, ⟨n, by simp, Nat.zero_le _, h0⟩, ?_⟩
  rintro i m H ⟨rfl, hi, p⟩
  have q := hG i H hi p
  rcases Nat.lt_or_ge i n with c | c
  · exact .inr ⟨w.goes i H c q, Pv (i + 1), fun H' p' => ⟨n - (i + 1), by omega, rfl, c, p'⟩, fun x H' y => hs i x H H' c p (w.yields i H x H' c q y)⟩
  · have e : i = n := Nat.le_antisymm hi c
    subst e
    exact .inl ⟨w.stops H q, hd H p⟩
/-- .. the inner walk over anything -/
theorem lc2_inIt {J : It} {n : Nat} {G : Hp → Prop} {Y : Nat → Hp → V → Hp → Prop} (w : Walk J n G Y) {g1 : TG} {tt1 : TT} {te : TE} {vs1 : List Nat} {σ2 : L2.St} {H4 : Hp} {D : Addr} {Nx : Hp → Prop} (Pv : Nat → Hp → Prop) (h0 : Pv 0 H4) (hG : ∀ i H, i ≤ n → Pv i H → G H)
    (hs : ∀ j x H H0, j < n → Pv j H → Y j H x H0 → g1 x (wipe σ2 vs1) H0 fun σ3 H5 => wipe σ3 vs1 = wipe σ2 vs1 ∧ tt1 σ3 H5 fun c H6 => if c = true then te σ3 H6 fun y H7 => ∃ acc, H7 D = some (.lst acc) ∧ acc.length < sizeLine ∧ Pv (j + 1) (upd H7 D (.lst (acc ++ [y]))) else Pv (j + 1) H6)
    (hd : ∀ H, Pv n H → Nx H) :
    ∃ W1 : Nat → Nat → Hp → Prop, (∃ m, W1 0 m H4) ∧ ∀ j k H, W1 j k H →
      (J.stop j H ∧ Nx H) ∨ (J.go j H ∧ ∃ Nx1 : Hp → Prop, (∀ H', Nx1 H' → ∃ k', k' < k ∧ W1 (j + 1) k' H') ∧ ∀ x H', J.yld j H x H' → g1 x (wipe σ2 vs1) H' fun σ3 H5 => wipe σ3 vs1 = wipe σ2 vs1 ∧ tt1 σ3 H5 fun c H6 =>
        if c = true then te σ3 H6 fun y H7 => ∃ acc, H7 D = some (.lst acc) ∧ acc.length < sizeLine ∧ Nx1 (upd H7 D (.lst (acc ++ [y]))) else Nx1 H6) := by
  refine ⟨fun j m H => m = n - j ∧ j ≤ n ∧ Pv j H, ⟨n, by simp, Nat.zero_le _, h0⟩, ?_⟩
  rintro j m H ⟨rfl, hj, p⟩
  have q := hG j H hj p
  rcases Nat.lt_or_ge j n with c | c
  · exact .inr ⟨w.goes j H c q, Pv (j + 1), fun H' p' => ⟨n - (j + 1), by omega, rfl, c, p'⟩, fun x H' y => hs j x H H' c p (w.yields j H x H' c q y)⟩
  · have e : j = n := Nat.le_antisymm hj c
    subst e
    exact .inl ⟨w.stops H q, hd H p⟩
end Bx
namespace Bx
open PySem PySem.Spec PyProof.Rows L2
def gf (ot pt rt : Addr) : List (Str × V) := putF "moves" (.ref rt) (putF "priorities" (.ref pt) (putF "owners" (.ref ot) []))
theorem gf_o (a b c : Addr) : (gf a b c).lookup ("owners" : Str) = some (.ref a) := by
  unfold gf
  rw [lookup_putF, if_neg (by decide +kernel), lookup_putF, if_neg (by decide +kernel), lookup_putF, if_pos rfl]
theorem gf_p (a b c : Addr) : (gf a b c).lookup ("priorities" : Str) = some (.ref b) := by
  unfold gf
  rw [lookup_putF, if_neg (by decide +kernel), lookup_putF, if_pos rfl]
theorem gf_m (a b c : Addr) : (gf a b c).lookup ("moves" : Str) = some (.ref c) := by
  unfold gf
  rw [lookup_putF, if_pos rfl]
structure GmeC (K : PySem.W.Frag) (C : Addr) : Prop where
  cl : Cls K C
  no : NoAttr K C "owners"
  np : NoAttr K C "priorities"
  nm : NoAttr K C "moves"
def GmeAt (C : Addr) (H : Hp) (x : Addr) (ow ps : List Int) (c : List (List Int)) : Prop := ∃ (dx ot pt rt : Addr) (as : List Addr), H x = some (.ins C dx (gf ot pt rt)) ∧ TupI H ot ow ∧ TupI H pt ps ∧ H rt = some (.tup (as.map V.ref)) ∧ RowsA .tup H as c
/-- what holds of a game -/
structure Vg (ow ps : List Int) (c : List (List Int)) : Prop where
  ne : c ≠ []
  lo : ow.length = c.length
  lp : ps.length = c.length
  ow1 : ∀ z ∈ ow, 0 ≤ z ∧ z ≤ 1
  pr : ∀ z ∈ ps, 0 ≤ z
  mv : ∀ r ∈ c, r ≠ [] ∧ Asc (c.length : Int) r
end Bx
namespace MaxD
open PySem PySem.W PyProof.Rows
def kwD (d : Value) : List (Str × Value) := [(Str.ofString "default", d)]
theorem nameL : (toString "max" ++ toString ".loop" : String) = "max.loop" := by decide
section
variable {prog : Program} {w : World} {A : Around} {R : Result → Shared → Prop} {I S : Addr} {fp wr : List Addr} {n : Nat} {P : Nat → Value → Prop} {St : Nat → Heap → Prop} {d : Value}
theorem loopD (W : Walks prog w A.in1 I fp wr n P St) (bt : Nat → Nat → Bool) (cm : CmpOf prog w A.in1 .Gt P bt) (nf : S ∉ fp) :
    ∀ (m j : Nat) (u : Shared) (best : Value) (c : Nat), n - (j + 1) = m → j + 1 ≤ n → St (j + 1) u.heap → P (argBest bt j) best →
    u.heap.get? S = some { cls := .type "list", dict := none, data := .seq #[best, best] c, slots := #[] } →
    (∀ v g tk, P (argBest bt (n - 1)) v → (∀ b o, b ∉ wr → b ≠ S → u.heap.get? b = some o → g.get? b = some o) → R (.ok (.ret v)) { u with heap := g, toks := tk }) →
    codeAny (model prog w) A (.builtin "max.loop" ⟨[.ref I, .none, .ref S], kwD d⟩) R u := by
  have nw : S ∉ wr := fun q => nf (W.sub _ q)
  intro m
  induction m with
  | zero =>
    intro j u best c em hj st pb gS out
    have ej : j + 1 = n := by omega
    refine codeAny_builtin PySem.F.entry_max_loop ?_
    rw [Around.under_plainId PySem.F.plain_max_loop _]
    show wpAny _ A.in1 (seqItems? (.ref S) >>= _) _ _ u
    refine wpAny_bind (wpAny_seqItems gS rfl ?_)
    show wpAny _ A.in1 (tryCatch (pyNext (.ref I)) _ >>= _) _ _ u
    refine wpAny_bind (wpAny_tryCatch (W.done u _ _ (ej ▸ st) fun g tk keep => ?_))
    have gS2 := keep S _ nw gS
    show wpAny _ A.in1 (updateSeq S (fun _ => #[]) >>= _) _ _ _
    refine wpAny_bind (wpAny_updateSeq gS2 rfl (wpAny_bind (wpAny_letGo (wpAny_pure ?_))))
    exact out best _ tk (by rw [← ej]; exact pb) fun b o hb hS e => (Heap.get?_update_other _ _ (Ne.symm hS)).trans (keep b o hb e)
  | succ m ih =>
    intro j u best c em hj st pb gS out
    have lt : j + 1 < n := by omega
    refine codeAny_builtin PySem.F.entry_max_loop ?_
    rw [Around.under_plainId PySem.F.plain_max_loop _]
    show wpAny _ A.in1 (seqItems? (.ref S) >>= _) _ _ u
    refine wpAny_bind (wpAny_seqItems gS rfl ?_)
    show wpAny _ A.in1 (tryCatch (pyNext (.ref I)) _ >>= _) _ _ u
    refine wpAny_bind (wpAny_tryCatch (W.item (j + 1) u _ _ lt st fun v g tk pv st2 keep => ?_))
    have gS2 := keep S _ nw gS
    show wpAny _ A.in1 (tryCatch (holding [v, v] (richCompare .Gt v best >>= _)) _ >>= _) _ _ _
    refine wpAny_bind (wpAny_tryCatch (wpAny_holding (wpAny_bind (cm (j + 1) (argBest bt j) v best _ _ _ pv pb ?_))))
    refine wpAny_bind (wpAny_holding (wpAny_truthy_bool (wpAny_bind (wpAny_letGo (wpAny_pure ?_)))))
    cases hb : bt (j + 1) (argBest bt j) with
    | true =>
      simp only [if_true]
      refine wpAny_bind (wpAny_updateSeq gS2 rfl (wpAny_bind (wpAny_letGo ?_)))
      rw [nameL]
      refine wpAny_pure ⟨plainId_quiet PySem.F.plain_max_loop _, ih (j + 1) _ v _ (by omega) lt (W.frame _ _ _ st2 fun b bf o e => ?_) (by simp only [argBest, hb, if_true]; exact pv) (Heap.get?_update_self _ gS2 rfl)
        fun v2 g2 tk2 p2 keep2 => ?_⟩
      · exact (Heap.get?_update_other _ _ (fun q : S = b => nf (by rw [q]; exact bf))).trans e
      · exact out v2 g2 tk2 p2 fun b o hw hS e => keep2 b o hw hS ((Heap.get?_update_other _ _ (Ne.symm hS)).trans (keep b o hw e))
    | false =>
      simp only [Bool.false_eq_true, if_false]
      refine wpAny_bind (wpAny_letGo ?_)
      rw [nameL]
      exact wpAny_pure ⟨plainId_quiet PySem.F.plain_max_loop _, ih (j + 1) _ best c (by omega) lt st2 (by simp only [argBest, hb, Bool.false_eq_true, if_false]; exact pb) gS2 fun v2 g2 tk2 p2 keep2 =>
        out v2 g2 tk2 p2 fun b o hw hS e => keep2 b o hw hS (keep b o hw e)⟩
theorem firstD (W : Walks prog w A.in1 I fp wr n P St) (bt : Nat → Nat → Bool) (cm : CmpOf prog w A.in1 .Gt P bt) (nf : S ∉ fp) {u : Shared} {c : Nat} (st : St 0 u.heap)
    (gS : u.heap.get? S = some { cls := .type "list", dict := none, data := .seq #[] c, slots := #[] })
    (out : ∀ v g tk, (0 < n → P (argBest bt (n - 1)) v) → (n = 0 → v = d) → (∀ b o, b ∉ wr → b ≠ S → u.heap.get? b = some o → g.get? b = some o) → R (.ok (.ret v)) { u with heap := g, toks := tk }) :
    codeAny (model prog w) A (.builtin "max.loop" ⟨[.ref I, .none, .ref S], kwD d⟩) R u := by
  have nw : S ∉ wr := fun q => nf (W.sub _ q)
  refine codeAny_builtin PySem.F.entry_max_loop ?_
  rw [Around.under_plainId PySem.F.plain_max_loop _]
  show wpAny _ A.in1 (seqItems? (.ref S) >>= _) _ _ u
  refine wpAny_bind (wpAny_seqItems gS rfl ?_)
  show wpAny _ A.in1 (tryCatch (pyNext (.ref I)) _ >>= _) _ _ u
  by_cases h0 : 0 < n
  · refine wpAny_bind (wpAny_tryCatch (W.item 0 u _ _ h0 st fun v g tk pv st2 keep => ?_))
    have gS2 := keep S _ nw gS
    show wpAny _ A.in1 (updateSeq S (fun _ => #[v, v]) >>= _) _ _ _
    refine wpAny_bind (wpAny_updateSeq gS2 rfl ?_)
    rw [nameL]
    refine wpAny_pure ⟨plainId_quiet PySem.F.plain_max_loop _, loopD W bt cm nf _ 0 _ v _ rfl h0 (W.frame _ _ _ st2 fun b bf o e => ?_) pv (Heap.get?_update_self _ gS2 rfl) fun v2 g2 tk2 p2 keep2 => ?_⟩
    · exact (Heap.get?_update_other _ _ (fun q : S = b => nf (by rw [q]; exact bf))).trans e
    · exact out v2 g2 tk2 (fun _ => p2) (fun z => by omega) fun b o hw hS e => keep2 b o hw hS ((Heap.get?_update_other _ _ (Ne.symm hS)).trans (keep b o hw e))
  · have e0 : n = 0 := by omega
    refine wpAny_bind (wpAny_tryCatch (W.done u _ _ (by rw [e0]; exact st) fun g tk keep => ?_))
    show wpAny _ A.in1 (rule _ >>= _) _ _ _
    refine wpAny_bind (wpAny_rule (wpAny_pure ?_))
    exact out d g tk (fun z => absurd z h0) (fun _ => rfl) fun b o hw _ e => keep b o hw e
end
section
variable {prog : Program} {w : World} {A : Around} {E : Value → Shared → Prop} {s : Shared} {d : Value}
theorem args_d (a v : Value) : argsOk "max" ⟨[a], kwD v⟩ := by
  unfold argsOk
  kernel_rfl
theorem callD {l : Addr} {xs : Array (Int × Tok)} {Q : Value → Shared → Prop} (hh : A.handled = none) (hl : s.heap.IsList l (intItems xs))
    (h : ∀ v g tk, (0 < xs.size → (intItems xs)[argBest (fun i j => decide (numAt xs i > numAt xs j)) (xs.size - 1)]? = some v) → (xs.size = 0 → v = d) → (∀ b o, s.heap.get? b = some o → g.get? b = some o) → Q v { s with heap := g, toks := tk }) :
    wpAny (model prog w) A (call (.builtin "max") [.ref l] (kwD d)) Q E s := by
  refine kmk_tree PySem.F.kind_max PySem.F.plain_max PySem.F.entry_max (args_d _ _) ?_
  show wpAny _ A.in1 (Builtin.Builtins.bindParams "max" ["key", "default"] 0 ⟨[], kwD d⟩ >>= _) _ _ s
  refine wpAny_bind (wpAny_of_eq (show Builtin.Builtins.bindParams "max" ["key", "default"] 0 ⟨[], kwD d⟩ = pure [none, some d] from rfl) ?_)
  refine wpAny_bind (wpAny_pure ?_)
  refine wpAny_bind (iter_intList hl fun u eu st hfp hlI => ?_)
  subst eu
  refine wpAny_bind (wpAny_newObj_type ?_)
  rw [nameL]
  refine wpAny_pure ⟨plainId_quiet PySem.F.plain_max_loop _, firstD (Walks.list (A := A.in1) hh _ l hlI (intItems xs)) _ (CmpOf.ints_gt (numAt xs) (fun _ _ => intItems_at)) (fun hm => Nat.lt_irrefl _ (hfp _ hm)) ?_ (Heap.get?_push_size _ rfl) fun v g tk p1 p2 keep => ?_⟩
  · exact (Walks.list (prog := prog) (w := w) (A := A.in1) hh _ l hlI (intItems xs)).frame _ _ _ st fun b _ o e => Heap.get?_push_of_some _ e
  · have hsz : (intItems xs).size = xs.size := by simp [intItems]
    refine h v g tk (fun z => by have := p1 (by rw [hsz]; exact z); rw [hsz] at this; exact this) (fun z => p2 (by rw [hsz]; exact z)) (old_kept (l := l) fun b o hb e => ?_)
    exact keep b o hb (Nat.ne_of_lt (Heap.lt_size e)) (Heap.get?_push_of_some _ e)
end
theorem rawD {prog : Program} {w : World} {A : Around} {E : Value → Shared → Prop} {s : Shared} {l : Addr} {its : List Value} {ns : List Int} {z : Int} {t : Tok} {Q : Value → Shared → Prop} (hh : A.handled = none) (hl : s.heap.IsList l its.toArray) (hi : IntsAre its ns)
    (h : ∀ (g : Heap) (tk : Nat) (m : Int) (t' : Tok), (∀ b o, s.heap.get? b = some o → g.get? b = some o) → (ns = [] → m = z) → (ns ≠ [] → m ∈ ns ∧ ∀ y ∈ ns, y ≤ m) → Q (.int m t') { s with heap := g, toks := tk }) :
    wpAny (model prog w) A (call (.builtin "max") [.ref l] (kwD (.int z t))) Q E s := by
  obtain ⟨xs, e⟩ := hi.allInts.items
  have hn : numsOf (intItems xs).toList = ns := by rw [← e]; exact hi.numsOf
  rw [PySem.nums_intItems] at hn
  subst hn
  rw [e] at hl
  refine callD hh hl fun v g tk p1 p2 keep => ?_
  by_cases c : 0 < xs.size
  · obtain ⟨u, rfl⟩ := intItems_at (p1 c)
    obtain ⟨a1, a2⟩ := argBest_gt (numAt xs) (xs.size - 1)
    refine h g tk _ u keep (fun z => ?_) fun _ => ⟨?_, fun y hy => ?_⟩
    · have q : xs.size = 0 := by simpa using congrArg List.length z
      omega
    · rw [PySem.numAt_eq]
      refine PySem.getD_mem ?_
      rw [List.length_map, Array.length_toList]
      exact Nat.lt_of_le_of_lt a1 (by omega)
    · obtain ⟨j, hj, rfl⟩ := PySem.mem_getD hy
      rw [List.length_map, Array.length_toList] at hj
      rw [← PySem.numAt_eq]
      exact a2 j (by omega)
  · rw [p2 (by omega)]
    refine h g tk z t keep (fun _ => rfl) fun q => absurd ?_ q
    have : xs = #[] := Array.eq_empty_of_size_eq_zero (by omega)
    rw [this]
    rfl
end MaxD
namespace Bx
open PySem PySem.Spec PyProof.Rows L2
def rMaxD (K : PySem.W.Frag) : List V → List V → Hp → VK → Prop := fun xs zs H Q => ∃ (a : Addr) (ns : List Int) (z : Int), xs = [.ref a] ∧ zs = [.int z] ∧ SqL K H a (ns.map V.int) ∧
  ∀ m, (ns = [] → m = z) → (ns ≠ [] → m ∈ ns ∧ ∀ y ∈ ns, y ≤ m) → Q (.int m) H
theorem call_maxD {X : Cx} {K : PySem.W.Frag} (h : X.K = K) (hc : X.calm = true) : CallRK X (.builtin "max") ["default"] (rMaxD K) := by
  subst h
  intro pins s σ H xs zs us ws Q I r r2 hw
  obtain ⟨a, ns, z, rfl, rfl, hs, q⟩ := hw
  obtain ⟨its, rv, hl, _⟩ := I.list hs
  rw [Vals.ref1 r]
  obtain ⟨u, rfl, ru⟩ := vals1 r2
  obtain ⟨t, rfl⟩ := ru
  exact MaxD.rawD (I.ok.hd hc) hl.isList rv.ints fun g tk m t' hk h1 h2 => ⟨.int m, H, I.kept hk, ⟨_, rfl⟩, q m h1 h2⟩
end Bx
namespace Bx
open PySem PySem.Spec PyProof.Rows L2
def rgf (a b c d e f g : Addr) : List (Str × V) := putF "joined" (.ref g) (putF "natives" (.ref f) (putF "choices" (.ref e) (putF "levels" (.ref d) (putF "own_levels" (.ref c) (putF "sources" (.ref b) (putF "game" (.ref a) []))))))
section
variable (a b c d e f g : Addr)
theorem rgf_g : (rgf a b c d e f g).lookup ("game" : Str) = some (.ref a) := by
  unfold rgf
  rw [lookup_putF, if_neg (by decide +kernel), lookup_putF, if_neg (by decide +kernel), lookup_putF, if_neg (by decide +kernel), lookup_putF, if_neg (by decide +kernel), lookup_putF, if_neg (by decide +kernel), lookup_putF, if_neg (by decide +kernel), lookup_putF, if_pos rfl]
theorem rgf_s : (rgf a b c d e f g).lookup ("sources" : Str) = some (.ref b) := by
  unfold rgf
  rw [lookup_putF, if_neg (by decide +kernel), lookup_putF, if_neg (by decide +kernel), lookup_putF, if_neg (by decide +kernel), lookup_putF, if_neg (by decide +kernel), lookup_putF, if_neg (by decide +kernel), lookup_putF, if_pos rfl]
theorem rgf_o : (rgf a b c d e f g).lookup ("own_levels" : Str) = some (.ref c) := by
  unfold rgf
  rw [lookup_putF, if_neg (by decide +kernel), lookup_putF, if_neg (by decide +kernel), lookup_putF, if_neg (by decide +kernel), lookup_putF, if_neg (by decide +kernel), lookup_putF, if_pos rfl]
theorem rgf_l : (rgf a b c d e f g).lookup ("levels" : Str) = some (.ref d) := by
  unfold rgf
  rw [lookup_putF, if_neg (by decide +kernel), lookup_putF, if_neg (by decide +kernel), lookup_putF, if_neg (by decide +kernel), lookup_putF, if_pos rfl]
theorem rgf_c : (rgf a b c d e f g).lookup ("choices" : Str) = some (.ref e) := by
  unfold rgf
  rw [lookup_putF, if_neg (by decide +kernel), lookup_putF, if_neg (by decide +kernel), lookup_putF, if_pos rfl]
theorem rgf_n : (rgf a b c d e f g).lookup ("natives" : Str) = some (.ref f) := by
  unfold rgf
  rw [lookup_putF, if_neg (by decide +kernel), lookup_putF, if_pos rfl]
theorem rgf_j : (rgf a b c d e f g).lookup ("joined" : Str) = some (.ref g) := by
  unfold rgf
  rw [lookup_putF, if_pos rfl]
def fnf (a b c d e : Addr) : List (Str × V) := putF "choices" (.ref e) (putF "winners" (.ref d) (putF "left" (.ref c) (putF "sources" (.ref b) (putF "game" (.ref a) []))))
theorem fnf_g : (fnf a b c d e).lookup ("game" : Str) = some (.ref a) := by
  unfold fnf
  rw [lookup_putF, if_neg (by decide +kernel), lookup_putF, if_neg (by decide +kernel), lookup_putF, if_neg (by decide +kernel), lookup_putF, if_neg (by decide +kernel), lookup_putF, if_pos rfl]
theorem fnf_s : (fnf a b c d e).lookup ("sources" : Str) = some (.ref b) := by
  unfold fnf
  rw [lookup_putF, if_neg (by decide +kernel), lookup_putF, if_neg (by decide +kernel), lookup_putF, if_neg (by decide +kernel), lookup_putF, if_pos rfl]
theorem fnf_l : (fnf a b c d e).lookup ("left" : Str) = some (.ref c) := by
  unfold fnf
  rw [lookup_putF, if_neg (by decide +kernel), lookup_putF, if_neg (by decide +kernel), lookup_putF, if_pos rfl]
theorem fnf_w : (fnf a b c d e).lookup ("winners" : Str) = some (.ref d) := by
  unfold fnf
  rw [lookup_putF, if_neg (by decide +kernel), lookup_putF, if_pos rfl]
theorem fnf_c : (fnf a b c d e).lookup ("choices" : Str) = some (.ref e) := by
  unfold fnf
  rw [lookup_putF, if_pos rfl]
def slf (a b : Addr) : List (Str × V) := putF "choices" (.ref b) (putF "winners" (.ref a) [])
theorem slf_w : (slf a b).lookup ("winners" : Str) = some (.ref a) := by
  unfold slf
  rw [lookup_putF, if_neg (by decide +kernel), lookup_putF, if_pos rfl]
theorem slf_c : (slf a b).lookup ("choices" : Str) = some (.ref b) := by
  unfold slf
  rw [lookup_putF, if_pos rfl]
end
structure RegC (K : PySem.W.Frag) (C : Addr) : Prop where
  cl : Cls K C
  ng : NoAttr K C "game"
  ns : NoAttr K C "sources"
  no : NoAttr K C "own_levels"
  nl : NoAttr K C "levels"
  nc : NoAttr K C "choices"
  nn : NoAttr K C "natives"
  nj : NoAttr K C "joined"
structure FinC (K : PySem.W.Frag) (C : Addr) : Prop where
  cl : Cls K C
  ng : NoAttr K C "game"
  ns : NoAttr K C "sources"
  nl : NoAttr K C "left"
  nw : NoAttr K C "winners"
  nc : NoAttr K C "choices"
structure SolC (K : PySem.W.Frag) (C : Addr) : Prop where
  cl : Cls K C
  nw : NoAttr K C "winners"
  nc : NoAttr K C "choices"
end Bx
local macro_rules | `(tactic| walk_at "hl") => `(tactic| first | assumption | exact L2.upd_same | (refine Bx.sat (by assumption) ?_; walk_at "hl"))
local macro_rules | `(tactic| walk_at "bx") => `(tactic| repeat (first
  | refine ⟨_, rfl, ?_⟩
  | refine ⟨_, _, rfl, rfl, ?_⟩
  | refine ⟨rfl, ?_⟩
  | refine Or.inl ⟨_, rfl, ?_⟩
  | refine ⟨Or.inr ⟨by decide, by decide⟩, ?_⟩
  | refine ⟨Or.inl ⟨by decide, by decide⟩, ?_⟩
  | refine ⟨(show (0 : Int) < _ by decide), ?_⟩
  | refine ⟨⟨by decide, by decide⟩, ?_⟩
  | refine ⟨_, _, rfl, Or.inl (L2.SqL.of (by walk_at "hl")), ?_⟩
  | refine ⟨_, _, rfl, Or.inr (L2.SqT.of (by walk_at "hl")), ?_⟩
  | refine ⟨Or.inl ⟨rfl, _, L2.SqL.of (by walk_at "hl")⟩, ?_⟩
  | refine ⟨_, _, _, rfl, rfl, (by walk_at "hl"), ?_⟩
  | refine ⟨_, _, rfl, rfl, (by walk_at "hl"), ?_⟩
  | refine ⟨_, _, _, _, rfl, rfl, L2.SqT.of (by walk_at "hl"), (by walk_at "hl"), ?_⟩
  | refine ⟨_, _, _, _, rfl, rfl, L2.SqL.of (by walk_at "hl"), (by walk_at "hl"), ?_⟩
  | refine ⟨_, _, rfl, Bx.SeqI.sq (by walk_at "hl"), ?_⟩
  | refine And.intro (by walk_at "hl") ?_))
local macro_rules | `(tactic| walk_at "nl") => `(tactic| ((try unfold L2.tNil); (try unfold L2.tNoPart)))

namespace My
open PySem PySem.Spec PyProof.Rows L2 Bx TL Tx Tz
def topS (i : Nat) : Stmt := PySem.Challenge.pw_reactivesynth_k37_games_with_sides_excha.main.body.getD i (.Pass ⟨0, 0, 0, 0⟩)
abbrev s_reachable : Stmt := topS 5
abbrev N_reachable : List Str := ["graph", "starts", "found", "waiting", "start", "node"]
theorem sc_reachable : FnScope N_reachable ["graph", "starts"] (defScope s_reachable) := ⟨rfl, rfl, rfl, by decide +kernel, rfl, by decide +kernel, by decide +kernel⟩
abbrev s_reversed_graph : Stmt := topS 6
abbrev N_reversed_graph : List Str := ["graph", "turned", "node", "row", "target", "_"]
theorem sc_reversed_graph : FnScope N_reversed_graph ["graph"] (defScope s_reversed_graph) := ⟨rfl, rfl, rfl, by decide +kernel, rfl, by decide +kernel, by decide +kernel⟩
abbrev s_finishing_order : Stmt := topS 7
abbrev N_finishing_order : List Str := ["graph", "order", "found", "start", "path", "node", "followed", "target"]
theorem sc_finishing_order : FnScope N_finishing_order ["graph"] (defScope s_finishing_order) := ⟨rfl, rfl, rfl, by decide +kernel, rfl, by decide +kernel, by decide +kernel⟩
abbrev s_components : Stmt := topS 8
abbrev N_components : List Str := ["graph", "turned", "homes", "count", "start", "waiting", "node"]
theorem sc_components : FnScope N_components ["graph"] (defScope s_components) := ⟨rfl, rfl, rfl, by decide +kernel, rfl, by decide +kernel, by decide +kernel⟩
abbrev s_part_of : Stmt := topS 9
abbrev N_part_of : List Str := ["graph", "nodes", "numbers", "at", "node", "target"]
theorem sc_part_of : FnScope N_part_of ["graph", "nodes"] (defScope s_part_of) := ⟨rfl, rfl, rfl, by decide +kernel, rfl, by decide +kernel, by decide +kernel⟩
abbrev s_component_lists : Stmt := topS 10
abbrev N_component_lists : List Str := ["graph", "nodes", "homes", "groups", "node", "home", "_"]
theorem sc_component_lists : FnScope N_component_lists ["graph", "nodes"] (defScope s_component_lists) := ⟨rfl, rfl, rfl, by decide +kernel, rfl, by decide +kernel, by decide +kernel⟩
abbrev s_check_moves : Stmt := topS 13
abbrev N_check_moves : List Str := ["targets", "count", "before", "target"]
theorem sc_check_moves : FnScope N_check_moves ["targets", "count"] (defScope s_check_moves) := ⟨rfl, rfl, rfl, by decide +kernel, rfl, by decide +kernel, by decide +kernel⟩
abbrev s_check_position : Stmt := topS 14
abbrev N_check_position : List Str := ["game", "position"]
theorem sc_check_position : FnScope N_check_position ["game", "position"] (defScope s_check_position) := ⟨rfl, rfl, rfl, by decide +kernel, rfl, by decide +kernel, by decide +kernel⟩
abbrev s_choices_win : Stmt := topS 15
abbrev N_choices_win : List Str := ["game", "player", "choices", "position", "graph", "place", "moves", "flags", "reached", "found"]
theorem sc_choices_win : FnScope N_choices_win ["game", "player", "choices", "position"] (defScope s_choices_win) := ⟨rfl, rfl, rfl, by decide +kernel, rfl, by decide +kernel, by decide +kernel⟩
abbrev s_winning_group : Stmt := topS 16
abbrev N_winning_group : List Str := ["graph", "places", "priorities", "player", "waiting", "groups", "group", "highest", "place"]
theorem sc_winning_group : FnScope N_winning_group ["graph", "places", "priorities", "player"] (defScope s_winning_group) := ⟨rfl, rfl, rfl, by decide +kernel, rfl, by decide +kernel, by decide +kernel⟩
abbrev s_ranked : Stmt := topS 19
abbrev N_ranked : List Str := ["priorities", "ranks", "rank", "priority"]
theorem sc_ranked : FnScope N_ranked ["priorities"] (defScope s_ranked) := ⟨rfl, rfl, rfl, by decide +kernel, rfl, by decide +kernel, by decide +kernel⟩
abbrev s_won_part : Stmt := topS 20
abbrev N_won_part : List Str := ["game", "regions", "level", "goal"]
theorem sc_won_part : FnScope N_won_part ["game"] (defScope s_won_part) := ⟨rfl, rfl, rfl, by decide +kernel, rfl, by decide +kernel, by decide +kernel⟩
abbrev s_solve : Stmt := topS 24
abbrev N_solve : List Str := ["game", "findings", "waiting", "places", "groups", "place"]
theorem sc_solve : FnScope N_solve ["game"] (defScope s_solve) := ⟨rfl, rfl, rfl, by decide +kernel, rfl, by decide +kernel, by decide +kernel⟩
abbrev s_solve_part : Stmt := topS 25
abbrev N_solve_part : List Str := ["game", "places", "findings", "owners", "priorities", "members", "choices", "player", "member", "place"]
theorem sc_solve_part : FnScope N_solve_part ["game", "places", "findings"] (defScope s_solve_part) := ⟨rfl, rfl, rfl, by decide +kernel, rfl, by decide +kernel, by decide +kernel⟩
abbrev s_law_draws : Stmt := topS 27
abbrev N_law_draws : List Str := ["script", "count", "cells", "found", "mixed", "k", "j", "cell", "again"]
theorem sc_law_draws : FnScope N_law_draws ["script", "count"] (defScope s_law_draws) := ⟨rfl, rfl, rfl, by decide +kernel, rfl, by decide +kernel, by decide +kernel⟩
abbrev s_law_take : Stmt := topS 28
abbrev N_law_take : List Str := ["draws", "limit"]
theorem sc_law_take : FnScope N_law_take ["draws", "limit"] (defScope s_law_take) := ⟨rfl, rfl, rfl, by decide +kernel, rfl, by decide +kernel, by decide +kernel⟩
abbrev s_law_ascending : Stmt := topS 29
abbrev N_law_ascending : List Str := ["draws", "limit", "share", "k"]
theorem sc_law_ascending : FnScope N_law_ascending ["draws", "limit", "share"] (defScope s_law_ascending) := ⟨rfl, rfl, rfl, by decide +kernel, rfl, by decide +kernel, by decide +kernel⟩
abbrev s_law_flat : Stmt := topS 30
abbrev N_law_flat : List Str := ["rows", "row"]
theorem sc_law_flat : FnScope N_law_flat ["rows"] (defScope s_law_flat) := ⟨rfl, rfl, rfl, by decide +kernel, rfl, by decide +kernel, by decide +kernel⟩
abbrev s_law_game : Stmt := topS 31
abbrev N_law_game : List Str := ["draws", "most", "count", "top", "owners", "priorities", "share", "moves", "k", "row"]
theorem sc_law_game : FnScope N_law_game ["draws", "most"] (defScope s_law_game) := ⟨rfl, rfl, rfl, by decide +kernel, rfl, by decide +kernel, by decide +kernel⟩
abbrev s_law : Stmt := topS 32
abbrev N_law : List Str := ["script", "draws", "owners", "priorities", "moves", "count", "game", "solution", "turned", "even", "raised", "back", "k", "other", "owner", "priority", "winner", "target"]
theorem sc_law : FnScope N_law ["script"] (defScope s_law) := ⟨rfl, rfl, rfl, by decide +kernel, rfl, by decide +kernel, by decide +kernel⟩
abbrev s_Game_init : Stmt := inClass (topS 12) 0
abbrev N_Game_init : List Str := ["self", "owners", "priorities", "moves", "targets"]
theorem sc_Game_init : FnScope N_Game_init ["self", "owners", "priorities", "moves"] (defScope s_Game_init) := ⟨rfl, rfl, rfl, by decide +kernel, rfl, by decide +kernel, by decide +kernel⟩
abbrev s_Regions_init : Stmt := inClass (topS 18) 0
abbrev N_Regions_init : List Str := ["self", "game", "position", "level", "_"]
theorem sc_Regions_init : FnScope N_Regions_init ["self", "game"] (defScope s_Regions_init) := ⟨rfl, rfl, rfl, by decide +kernel, rfl, by decide +kernel, by decide +kernel⟩
abbrev s_Regions_members : Stmt := inClass (topS 18) 1
abbrev N_Regions_members : List Str := ["self", "level", "position"]
theorem sc_Regions_members : FnScope N_Regions_members ["self", "level"] (defScope s_Regions_members) := ⟨rfl, rfl, rfl, by decide +kernel, rfl, by decide +kernel, by decide +kernel⟩
abbrev s_Regions_grow : Stmt := inClass (topS 18) 2
abbrev N_Regions_grow : List Str := ["self", "level", "player", "left", "waiting", "target", "source"]
theorem sc_Regions_grow : FnScope N_Regions_grow ["self", "level"] (defScope s_Regions_grow) := ⟨rfl, rfl, rfl, by decide +kernel, rfl, by decide +kernel, by decide +kernel⟩
abbrev s_Regions_lower_moves : Stmt := inClass (topS 18) 3
abbrev N_Regions_lower_moves : List Str := ["self", "position", "level", "target"]
theorem sc_Regions_lower_moves : FnScope N_Regions_lower_moves ["self", "position", "level"] (defScope s_Regions_lower_moves) := ⟨rfl, rfl, rfl, by decide +kernel, rfl, by decide +kernel, by decide +kernel⟩
abbrev s_Regions_is_open : Stmt := inClass (topS 18) 4
abbrev N_Regions_is_open : List Str := ["self", "level", "position", "around", "target"]
theorem sc_Regions_is_open : FnScope N_Regions_is_open ["self", "level"] (defScope s_Regions_is_open) := ⟨rfl, rfl, rfl, by decide +kernel, rfl, by decide +kernel, by decide +kernel⟩
abbrev s_Regions_choose : Stmt := inClass (topS 18) 5
abbrev N_Regions_choose : List Str := ["self", "level", "position", "inner", "target"]
theorem sc_Regions_choose : FnScope N_Regions_choose ["self", "level"] (defScope s_Regions_choose) := ⟨rfl, rfl, rfl, by decide +kernel, rfl, by decide +kernel, by decide +kernel⟩
abbrev s_Regions_exits : Stmt := inClass (topS 18) 6
abbrev N_Regions_exits : List Str := ["self", "level", "found", "position", "target"]
theorem sc_Regions_exits : FnScope N_Regions_exits ["self", "level"] (defScope s_Regions_exits) := ⟨rfl, rfl, rfl, by decide +kernel, rfl, by decide +kernel, by decide +kernel⟩
abbrev s_Regions_settle : Stmt := inClass (topS 18) 7
abbrev N_Regions_settle : List Str := ["self", "level"]
theorem sc_Regions_settle : FnScope N_Regions_settle ["self", "level"] (defScope s_Regions_settle) := ⟨rfl, rfl, rfl, by decide +kernel, rfl, by decide +kernel, by decide +kernel⟩
abbrev s_Regions_promote : Stmt := inClass (topS 18) 8
abbrev N_Regions_promote : List Str := ["self", "level", "goal", "promoted", "between", "position"]
theorem sc_Regions_promote : FnScope N_Regions_promote ["self", "level", "goal"] (defScope s_Regions_promote) := ⟨rfl, rfl, rfl, by decide +kernel, rfl, by decide +kernel, by decide +kernel⟩
abbrev s_Solution_init : Stmt := inClass (topS 22) 0
abbrev N_Solution_init : List Str := ["self", "winners", "choices"]
theorem sc_Solution_init : FnScope N_Solution_init ["self", "winners", "choices"] (defScope s_Solution_init) := ⟨rfl, rfl, rfl, by decide +kernel, rfl, by decide +kernel, by decide +kernel⟩
abbrev s_Findings_init : Stmt := inClass (topS 23) 0
abbrev N_Findings_init : List Str := ["self", "game", "moves"]
theorem sc_Findings_init : FnScope N_Findings_init ["self", "game"] (defScope s_Findings_init) := ⟨rfl, rfl, rfl, by decide +kernel, rfl, by decide +kernel, by decide +kernel⟩
abbrev s_Findings_record : Stmt := inClass (topS 23) 1
abbrev N_Findings_record : List Str := ["self", "player", "positions", "position", "waiting", "target", "source"]
theorem sc_Findings_record : FnScope N_Findings_record ["self", "player", "positions"] (defScope s_Findings_record) := ⟨rfl, rfl, rfl, by decide +kernel, rfl, by decide +kernel, by decide +kernel⟩
structure Has (K : PySem.W.Frag) (mg : Str → Option Value) (x : Str) (st : Stmt) (ps : List Str) : Prop where
  ex : ∃ (f : Addr) (fd : FuncData), L2.Fun K x x st f fd ∧ mg x = some (.ref f) ∧ Binds K fd ps []
structure Txt (K : PySem.W.Frag) (mg : Str → Option Value) : Prop where
  h_reachable : Has K mg "reachable" s_reachable ["graph", "starts"]
  h_reversed_graph : Has K mg "reversed_graph" s_reversed_graph ["graph"]
  h_finishing_order : Has K mg "finishing_order" s_finishing_order ["graph"]
  h_components : Has K mg "components" s_components ["graph"]
  h_part_of : Has K mg "part_of" s_part_of ["graph", "nodes"]
  h_component_lists : Has K mg "component_lists" s_component_lists ["graph", "nodes"]
  h_check_moves : Has K mg "check_moves" s_check_moves ["targets", "count"]
  h_check_position : Has K mg "check_position" s_check_position ["game", "position"]
  h_choices_win : Has K mg "choices_win" s_choices_win ["game", "player", "choices", "position"]
  h_winning_group : Has K mg "winning_group" s_winning_group ["graph", "places", "priorities", "player"]
  h_ranked : Has K mg "ranked" s_ranked ["priorities"]
  h_won_part : Has K mg "won_part" s_won_part ["game"]
  h_solve : Has K mg "solve" s_solve ["game"]
  h_solve_part : Has K mg "solve_part" s_solve_part ["game", "places", "findings"]
  h_law_draws : Has K mg "_law_draws" s_law_draws ["script", "count"]
  h_law_take : Has K mg "_law_take" s_law_take ["draws", "limit"]
  h_law_ascending : Has K mg "_law_ascending" s_law_ascending ["draws", "limit", "share"]
  h_law_flat : Has K mg "_law_flat" s_law_flat ["rows"]
  h_law_game : Has K mg "_law_game" s_law_game ["draws", "most"]
  z_enumerate : mg "enumerate" = none
  z_int : mg "int" = none
  z_len : mg "len" = none
  z_list : mg "list" = none
  z_max : mg "max" = none
  z_min : mg "min" = none
  z_range : mg "range" = none
  z_set : mg "set" = none
  z_sorted : mg "sorted" = none
  z_tuple : mg "tuple" = none
  z_zip : mg "zip" = none
  er : ∃ (cI cL C fI : Addr) (fdI : FuncData), ErrC K mg "InvalidGame" cI ∧ ErrC K mg "InvalidPosition" cL ∧ GmeC K C ∧ Mk K C fI ∧ mg "Game" = some (.ref C) ∧ L2.Fun K "__init__" "Game.__init__" s_Game_init fI fdI ∧ Binds K fdI ["self", "owners", "priorities", "moves"] [] ∧ (∃ (cR fRI fR0 fR1 fR2 fR3 fR4 fR5 fR6 fR7 cF fFI fF0 cS fSI : Addr) (fdRI fdR0 fdR1 fdR2 fdR3 fdR4 fdR5 fdR6 fdR7 fdFI fdF0 fdSI : FuncData), RegC K cR ∧ Mk K cR fRI ∧ mg "Regions" = some (.ref cR) ∧ L2.Fun K "__init__" "Regions.__init__" s_Regions_init fRI fdRI ∧ Binds K fdRI ["self", "game"] [] ∧ Meth K cR "members" fR0 ∧ L2.Fun K "members" "Regions.members" s_Regions_members fR0 fdR0 ∧ Binds K fdR0 ["self", "level"] [] ∧ Meth K cR "grow" fR1 ∧ L2.Fun K "grow" "Regions.grow" s_Regions_grow fR1 fdR1 ∧ Binds K fdR1 ["self", "level"] [] ∧ Meth K cR "lower_moves" fR2 ∧ L2.Fun K "lower_moves" "Regions.lower_moves" s_Regions_lower_moves fR2 fdR2 ∧ Binds K fdR2 ["self", "position", "level"] [] ∧ Meth K cR "is_open" fR3 ∧ L2.Fun K "is_open" "Regions.is_open" s_Regions_is_open fR3 fdR3 ∧ Binds K fdR3 ["self", "level"] [] ∧ Meth K cR "choose" fR4 ∧ L2.Fun K "choose" "Regions.choose" s_Regions_choose fR4 fdR4 ∧ Binds K fdR4 ["self", "level"] [] ∧ Meth K cR "exits" fR5 ∧ L2.Fun K "exits" "Regions.exits" s_Regions_exits fR5 fdR5 ∧ Binds K fdR5 ["self", "level"] [] ∧ Meth K cR "settle" fR6 ∧ L2.Fun K "settle" "Regions.settle" s_Regions_settle fR6 fdR6 ∧ Binds K fdR6 ["self", "level"] [] ∧ Meth K cR "promote" fR7 ∧ L2.Fun K "promote" "Regions.promote" s_Regions_promote fR7 fdR7 ∧ Binds K fdR7 ["self", "level", "goal"] [] ∧ FinC K cF ∧ Mk K cF fFI ∧ mg "Findings" = some (.ref cF) ∧ L2.Fun K "__init__" "Findings.__init__" s_Findings_init fFI fdFI ∧ Binds K fdFI ["self", "game"] [] ∧ Meth K cF "record" fF0 ∧ L2.Fun K "record" "Findings.record" s_Findings_record fF0 fdF0 ∧ Binds K fdF0 ["self", "player", "positions"] [] ∧ SolC K cS ∧ Mk K cS fSI ∧ mg "Solution" = some (.ref cS) ∧ L2.Fun K "__init__" "Solution.__init__" s_Solution_init fSI fdSI ∧ Binds K fdSI ["self", "winners", "choices"] [])

-- BODY
def spLaw (K : PySem.W.Frag) : Sp := fun vs H Q _ => ∃ (a : Addr) (ns : List Int), vs = [.ref a] ∧ SqL K H a (ns.map V.int) ∧ ns.length ≤ 63 ∧ ∀ H', Q (.bl true) H'
section
variable {P : Program} {w : World} {K : PySem.W.Frag} {mg : Str → Option Value} {base : Heap}
def GrL (H : Hp) (r : Addr) (g : Gr.G) : Prop := ∃ as : List Addr, H r = some (.lst (as.map V.ref)) ∧ as.length = g.length ∧ ∀ i a, as[i]? = some a → H a = some (.lst ((Gr.row g i).map VN))
theorem GrL.same {H H' : Hp} {r : Addr} {g : Gr.G} (s : Same H H') (h : GrL H r g) : GrL H' r g := by
  obtain ⟨as, h1, h2, h3⟩ := h
  exact ⟨as, s _ _ h1, h2, fun i a e => s _ _ (h3 i a e)⟩
def Fl (n : Nat) (S : Nat → Prop) (fs : List Bool) : Prop := fs.length = n ∧ ∀ (u : Nat) (b : Bool), fs[u]? = some b → (b = true ↔ S u)
theorem Fl.set {n : Nat} {S S' : Nat → Prop} {fs : List Bool} {u : Nat} (h : Fl n S fs) (hs : ∀ x, S' x ↔ (x = u ∨ S x)) : Fl n S' (fs.set u true) := by
  refine ⟨by rw [List.length_set]; exact h.1, fun x b e => ?_⟩
  rw [List.getElem?_set] at e
  rw [hs]
  by_cases c : u = x
  · subst c
    rw [if_pos rfl] at e
    split at e
    · obtain rfl := Option.some.inj e
      exact ⟨fun _ => .inl rfl, fun _ => rfl⟩
    · cases e
  · rw [if_neg c] at e
    rw [h.2 x b e]
    exact ⟨fun z => .inr z, fun z => z.elim (fun y => absurd y.symm c) id⟩
theorem Fl.get {n : Nat} {S : Nat → Prop} {fs : List Bool} (h : Fl n S fs) {u : Nat} (hu : u < n) : ∃ b : Bool, fs[u]? = some b ∧ (b = true ↔ S u) :=
  ⟨_, List.getElem?_eq_getElem (by rw [h.1]; exact hu), h.2 u _ (List.getElem?_eq_getElem (by rw [h.1]; exact hu))⟩
theorem Fl.rep (n : Nat) : Fl n (fun _ => False) (List.replicate n false) := ⟨List.length_replicate, fun u b e => by
  rw [List.getElem?_replicate] at e
  split at e
  · obtain rfl := Option.some.inj e
    exact ⟨fun z => (by cases z), fun z => False.elim z⟩
  · (cases e)⟩
theorem Fl.cong {n : Nat} {S S' : Nat → Prop} {fs : List Bool} (h : Fl n S fs) (hs : ∀ x, S' x ↔ S x) : Fl n S' fs := ⟨h.1, fun u b e => (h.2 u b e).trans (hs u).symm⟩
structure FoI (r O F P : Addr) (g : Gr.G) (start : Nat) (H : Hp) (m : Nat) (σ : L2.St) (H' : Hp) : Prop where
  ex : ∃ (ps : List (Addr × Nat × Nat)) (ord : List Nat) (fs : List Bool) (v5 v6 v7 : Option V), m = Gr.below (fun u => (Gr.row g u).length + 1) g.length - Gr.steps g ord (ps.map (·.2)).reverse ∧
    σ = [some (.ref r), some (.ref O), some (.ref F), some (VN start), some (.ref P), v5, v6, v7] ∧ Same H H' ∧ H' O = some (.lst (ord.map VN)) ∧ H' F = some (.lst (fs.map V.bl)) ∧ H' P = some (.lst (ps.map fun x => V.ref x.1)) ∧ (∀ x ∈ ps, H' x.1 = some (.tup [VN x.2.1, VN x.2.2])) ∧
    Fl g.length (fun u => u ∈ ord ++ (ps.map (·.2)).reverse.map (·.1)) fs ∧ Gr.Dfs g ord (ps.map (·.2)).reverse ∧ ∀ u, u ≤ start → u ∈ ord ++ (ps.map (·.2)).reverse.map (·.1)
def spFin : Sp := fun vs H Q _ => ∃ (r : Addr) (g : Gr.G), vs = [.ref r] ∧ GrL H r g ∧ Gr.Ok g ∧ g.length ≤ 1000000 ∧
  ∀ (H' : Hp) (o : Addr) (ord : List Nat), Same H H' → H o = none → H' o = some (.lst (ord.map VN)) → Gr.Fin g ord → Q (.ref o) H'
theorem nd_len {l : List Nat} {n : Nat} (nd : l.Nodup) (lt : ∀ x ∈ l, x < n) : l.length ≤ n := by
  have h := Gr.wsum_le (fun _ => 1) n nd lt
  have h1 : ∀ l : List Nat, Gr.wsum (fun _ => 1) l = l.length := by
    intro l
    induction l with
    | nil => rfl
    | cons x l ih => rw [Gr.wsum_cons, ih, List.length_cons]; omega
  have h2 : ∀ n, Gr.below (fun _ => 1) n = n := by
    intro n
    induction n with
    | zero => rfl
    | succ n ih => show Gr.below _ n + 1 = _; rw [ih]
  rw [h1, h2] at h
  exact h
theorem cal_fin (T : Txt K mg) : C8.Cal P w K mg base 1 "finishing_order" spFin [] := by
  obtain ⟨f, fd, F, hm, hb⟩ := T.h_finishing_order
  refine ⟨f, fd, _, [], F.ok sc_finishing_order (fun vs H Q E h => ?_) (fun cdv A outer s H vs Q E hr h => ?_), hm, F.kp, hb, .nil⟩
  · obtain ⟨r, g, rfl, _⟩ := h
    rfl
  · obtain ⟨r, g, rfl, hG, ok, hn, q⟩ := h
    refine ⟨_, (pss_cons
      (ps_set (i := 1) sc_finishing_order.nd rfl (Or.inl rfl) (pe_lst pa_nil))
      (pss_cons
      (ps_set (i := 2) sc_finishing_order.nd rfl (Or.inl rfl) (pe_op op_rep (pe_lst (pa_cons pe_bl pa_nil)) (pe_callB (call_lenK (K := K) rfl) (by rfl) T.z_len PySem.boot_len (pa_cons (pv 0) pa_nil))))
      (pss_cons
      (ps_for PassesOwn.never rfl (pi_range1 (by rfl) T.z_range (pa_cons (pe_callB (call_lenK (K := K) rfl) (by rfl) T.z_len PySem.boot_len (pa_cons (pv 0) pa_nil)) pa_nil)) (pg_name (i := 3) sc_finishing_order.nd rfl (.inl rfl)) (pss_cons
      (ps_if (pt_val (pe_ix (ix_listK (K := K) rfl) (pv 2) (pv 3) (fun _ _ => rfl))) (pss_one
      ps_continue) pss_nil)
      (pss_cons
      (ps_asg pe_bl (pg_sub (pv 2) (pv 3) set_list))
      (pss_cons
      (ps_set (i := 4) sc_finishing_order.nd rfl (Or.inl rfl) (pe_lst (pa_cons (pe_tup (pa_cons (pv 3) (pa_cons pe_int pa_nil))) pa_nil)))
      (pss_one
      (ps_while PassesOwn.never (pt_cmpR op_gt (pe_callB (call_lenK (K := K) rfl) (by rfl) T.z_len PySem.boot_len (pa_cons (pv 4) pa_nil)) pe_int (nomark _)) (pss_cons
      (ps_asg (pe_bm0 PySem.F.plainAttrs_list PySem.F.slot_list_pop PySem.F.type_list_pop mt_pop (pv 4)) (pg_tup (by rfl) (pgs_cons (pg_name (i := 5) sc_finishing_order.nd rfl (.inl rfl)) (pgs_cons (pg_name (i := 6) sc_finishing_order.nd rfl (.inl rfl)) pgs_nil))))
      (pss_cons
      (ps_if (pt_cmpR op_eq (pv 6) (pe_callB (call_lenK (K := K) rfl) (by rfl) T.z_len PySem.boot_len (pa_cons (pe_ix (ix_listK (K := K) rfl) (pv 0) (pv 5) (fun _ _ => rfl)) pa_nil)) (nomark _)) (pss_cons
      (ps_expr (pe_bm PySem.F.plainAttrs_list PySem.F.slot_list_append PySem.F.type_list_append mt_append (pv 1) (pa_cons (pv 5) pa_nil)))
      (pss_one
      ps_continue)) pss_nil)
      (pss_cons
      (ps_expr (pe_bm PySem.F.plainAttrs_list PySem.F.slot_list_append PySem.F.type_list_append mt_append (pv 4) (pa_cons (pe_tup (pa_cons (pv 5) (pa_cons (pe_op op_add (pv 6) pe_int) pa_nil))) pa_nil)))
      (pss_cons
      (ps_set (i := 7) sc_finishing_order.nd rfl (Or.inl rfl) (pe_ix (ix_listK (K := K) rfl) (pe_ix (ix_listK (K := K) rfl) (pv 0) (pv 5) (fun _ _ => rfl)) (pv 6) (fun _ _ => rfl)))
      (pss_one
      (ps_if (pt_not (pt_val (pe_ix (ix_listK (K := K) rfl) (pv 2) (pv 7) (fun _ _ => rfl)))) (pss_cons
      (ps_asg pe_bl (pg_sub (pv 2) (pv 7) set_list))
      (pss_one
      (ps_expr (pe_bm PySem.F.plainAttrs_list PySem.F.slot_list_append PySem.F.type_list_append mt_append (pv 4) (pa_cons (pe_tup (pa_cons (pv 7) (pa_cons pe_int pa_nil))) pa_nil))))) pss_nil))))))))))))
      (pss_one
      (ps_ret (pv 1)))))), ?_⟩
    obtain ⟨as, hr0, hal, ha⟩ := hG
    refine ⟨Nat.zero_le _, fun O nO => ?_⟩
    generalize hX : upd H O _ = H1; obtain ⟨sH1, eO⟩ := nw nO hX; clear hX
    refine ⟨by show 1 ≤ sizeLine; decide, fun l nl => ?_⟩
    generalize hX : upd H1 l _ = H2; obtain ⟨sH2, el⟩ := nw nl hX; clear hX
    have sH := sH1.trans sH2
    refine ⟨_, rfl, r, _, rfl, .inl (.of (sH _ _ hr0)), l, _, _, rfl, rfl, el, by omega, by rw [List.length_map]; omega, ?_, fun F nF => ?_⟩
    · rw [List.length_map, hal, Int.toNat_natCast]
      show 1 * g.length ≤ 16777216
      omega
    rw [List.length_map, hal, Int.toNat_natCast, show (List.replicate g.length [V.bl false]).flatten = (List.replicate g.length false).map V.bl by simp]
    generalize hX : upd H2 F _ = H3; obtain ⟨sH3, eF⟩ := nw nF hX; clear hX
    have eO3 := sH3 _ _ (sH2 _ _ eO)
    have nFO : F ≠ O := fun z => by rw [z, sH2 _ _ eO] at nF; cases nF
    have s3 : Same H H3 := sH.trans sH3
    have nF0 : H F = none := sH.free nF
    clear eO sH1 sH2 sH3 el nl nF
    refine ⟨_, rfl, r, _, rfl, .inl (.of (s3 _ _ hr0)), _, rfl, by omega, by rw [List.length_map]; omega, ?_⟩
    rw [List.length_map, hal, Int.toNat_natCast]
    refine for_range (lo := 0) (n := g.length) (fun i σ H' => ∃ (ord : List Nat) (fs : List Bool) (v3 v4 v5 v6 v7 : Option V), σ = [some (.ref r), some (.ref O), some (.ref F), v3, v4, v5, v6, v7] ∧ Same H H' ∧ H' O = some (.lst (ord.map VN)) ∧ H' F = some (.lst (fs.map V.bl)) ∧ Fl g.length (fun u => u ∈ ord) fs ∧ Gr.Dfs g ord [] ∧ ∀ u, u < i → u ∈ ord)
      ⟨[], _, _, _, _, _, _, rfl, s3, eO3, eF, (Fl.rep _).cong (by simp), Gr.Dfs.nil g, fun u hu => absurd hu (Nat.not_lt_zero u)⟩ ?_ ?_
    · clear s3 eO3 eF
      rintro i σ H4 hi ⟨ord, fs, v3, v4, v5, v6, v7, rfl, s4, eO, eF, hfl, hD, hall⟩
      obtain ⟨b, hb1, hb2⟩ := hfl.get hi
      refine ⟨_, rfl, _, rfl, F, _, _, .bl b, rfl, rfl, .of eF, ?_, b, rfl, ite2 (fun cc => ?_) (fun cc => ?_)⟩
      · show atI (fs.map V.bl) (0 + (i : Int)) = _
        rw [Int.zero_add]
        exact atI_nat (by rw [List.getElem?_map, hb1]; rfl)
      · refine ⟨ord, fs, _, _, _, _, _, rfl, s4, eO, eF, hfl, hD, fun u hu => ?_⟩
        rcases Nat.lt_succ_iff_lt_or_eq.mp hu with k | k
        · exact hall u k
        · rw [k]; exact hb2.mp cc
      have hni : i ∉ ord := fun z => cc (hb2.mpr z)
      rw [Int.zero_add]
      have hfsl : i < (fs.map V.bl).length := by rw [List.length_map, hfl.1]; exact hi
      refine ⟨_, rfl, _, rfl, F, _, _, i, rfl, rfl, eF, ixN_at hfsl, ?_⟩
      rw [show (fs.map V.bl).set i (.bl true) = (fs.set i true).map V.bl by rw [List.map_set]]
      generalize hX : upd H4 F _ = H5; have tH5 := mwt eF hX; clear eF; obtain ⟨sH5, eF, kH5⟩ := mw s4 nF0 hX; clear hX
      have eO5 := (kH5 O nFO.symm).trans eO
      refine ⟨_, rfl, by show 2 ≤ sizeLine; decide, fun t nt => ?_⟩
      generalize hX : upd H5 t _ = H6; obtain ⟨sH6, et⟩ := nw nt hX; clear hX
      refine ⟨by show 1 ≤ sizeLine; decide, fun P nP => ?_⟩
      generalize hX : upd H6 P _ = H7; obtain ⟨sH7, eP⟩ := nw nP hX; clear hX
      have hfl5 : Fl g.length (fun u => u ∈ ord ++ ([((i, 0) : Nat × Nat)]).map (·.1)) (fs.set i true) := hfl.set fun x => by simp [or_comm]
      have hD5 : Gr.Dfs g ord [(i, 0)] := hD.push hi (by simpa using hni) (by simp)
      have eO7 := sH7 _ _ (sH6 _ _ eO5)
      have eF7 := sH7 _ _ (sH6 _ _ eF)
      have et7 := sH7 _ _ et
      have s7 := (sH5.trans sH6).trans sH7
      have nP0 : H P = none := (sH5.trans sH6).free nP
      have nPO : P ≠ O := fun z => by rw [z, sH6 _ _ eO5] at nP; cases nP
      have nPF : P ≠ F := fun z => by rw [z, sH6 _ _ eF] at nP; cases nP
      refine ⟨FoI r O F P g i H, ⟨_, ⟨[(t, i, 0)], ord, _, _, _, _, rfl, rfl, s7, eO7, eF7, eP, fun x hx => by rw [List.mem_singleton.mp hx]; exact et7, hfl5, hD5, fun u hu => ?_⟩⟩, ?_⟩
      · rcases Nat.lt_or_eq_of_le hu with k | k
        · exact List.mem_append.mpr (.inl (hall u k))
        · rw [k]; simp
      clear hfl5 hD5 hall hni eO7 eF7 eP et7 hfl hD
      rintro m σ H8 ⟨ps, ord, fs, v5, v6, v7, rfl, rfl, s8, eO, eF, eP, hps, hfl, hD, hall⟩
      refine ⟨_, rfl, P, _, rfl, .inl (.of eP), _, _, rfl, rfl, _, rfl, ite2 (fun cc => ?_) (fun cc => ?_)⟩
      · have cc : 0 < ps.length := by have := of_decide_eq_true cc; rw [List.length_map] at this; omega
        obtain ⟨ps', ⟨t, n, k⟩, rfl⟩ : ∃ ps' x, ps = ps' ++ [x] := by
          rcases List.eq_nil_or_concat ps with rfl | ⟨a, b, rfl⟩
          · cases cc
          · exact ⟨a, b, List.concat_eq_append⟩
        have hstk : ((ps' ++ [(t, n, k)]).map (·.2)).reverse = (n, k) :: (ps'.map (·.2)).reverse := by simp
        rw [hstk] at hfl hD hall ⊢
        have et : H8 t = some (.tup [VN n, VN k]) := hps (t, n, k) (by simp)
        have hlt := Gr.steps_lt hD
        refine ⟨FoI r O F P g i H (Gr.below (fun u => (Gr.row g u).length + 1) g.length - (Gr.steps g ord ((n, k) :: (ps'.map (·.2)).reverse) + 1)), fun σ' H'' z => ⟨_, by omega, z⟩, ?_⟩
        refine ⟨_, rfl, .inl ⟨rfl, _, .of eP⟩, P, _, .ref t, rfl, rfl, eP, by simp, ?_⟩
        rw [show ((ps' ++ [(t, n, k)]).map fun x => V.ref x.1).dropLast = ps'.map fun x => V.ref x.1 by simp]
        generalize hX : upd H8 P _ = H9; have tH9 := mwt eP hX; clear eP; obtain ⟨sH9, eP, kH9⟩ := mw s8 nP0 hX; clear hX
        have et9 := tH9 _ _ et
        have eO9 := (kH9 O nPO.symm).trans eO
        have eF9 := (kH9 F nPF.symm).trans eF
        have hps9 : ∀ x ∈ ps', H9 x.1 = some (.tup [VN x.2.1, VN x.2.2]) := fun x hx => tH9 _ _ (hps x (List.mem_append.mpr (.inl hx)))
        refine ⟨t, _, rfl, .of et9, rfl, _, _, rfl, _, _, rfl, rfl, ?_⟩
        have hn := hD.lt n (by simp)
        have hko := (hD.fo (n, k) (by simp)).1
        have hra : as[n]? = some as[n] := List.getElem?_eq_getElem (by omega)
        have hrow := sH9 _ _ (ha n _ hra)
        generalize as[n] = a at hra hrow
        have hix : atI (as.map V.ref) (n : Int) = some (.ref a) := atI_nat (by rw [List.getElem?_map, hra]; rfl)
        refine ⟨_, rfl, _, rfl, _, rfl, r, _, _, .ref a, rfl, rfl, .of (sH9 _ _ hr0), hix, a, _, rfl, .inl (.of hrow), rfl, _, rfl, ite_eq (fun cc => ?_) (fun cc => ?_)⟩
        · have hkl : k = (Gr.row g n).length := by rw [List.length_map] at cc; omega
          have hol := nd_len hD.nd hD.lt
          rw [List.length_append] at hol
          refine ⟨_, rfl, .inl ⟨rfl, _, .of eO9⟩, _, rfl, O, _, _, rfl, rfl, eO9, by rw [List.length_map]; exact Nat.lt_of_le_of_lt (show ord.length ≤ 1000000 by omega) (by decide), ?_⟩
          generalize hX : upd H9 O _ = H10; have tH10 := mwt eO9 hX; clear eO9; obtain ⟨sH10, eO, kH10⟩ := mw sH9 nO hX; clear hX
          subst hkl
          refine ⟨ps', ord ++ [n], fs, _, _, _, by rw [Gr.steps_pop], rfl, sH10, by rw [eO, List.map_append]; rfl, (kH10 F nFO).trans eF9, (kH10 P nPO).trans eP, fun x hx => tH10 _ _ (hps9 x hx), hfl.cong fun u => by simp [or_comm, or_assoc, or_left_comm], hD.pop, fun u hu => ?_⟩
          have := hall u hu
          simp at this ⊢
          exact this
        · have hkl : k < (Gr.row g n).length := by rw [List.length_map] at cc; have hko : k ≤ (Gr.row g n).length := hko; omega
          refine ⟨_, rfl, .inl ⟨rfl, _, .of eP⟩, _, rfl, _, rfl, _, _, rfl, rfl, by show 2 ≤ sizeLine; decide, fun t2 nt2 => ?_⟩
          generalize hX : upd H9 t2 _ = H10; obtain ⟨sH10, et2⟩ := nw nt2 hX; clear hX
          have hol := nd_len hD.nd hD.lt
          simp only [List.length_append, List.length_map, List.length_reverse, List.length_cons] at hol
          refine ⟨P, _, _, rfl, rfl, sH10 _ _ eP, by rw [List.length_map]; exact Nat.lt_of_le_of_lt (show ps'.length ≤ 1000000 by omega) (by decide), ?_⟩
          have nt2P : t2 ≠ P := fun z => by rw [z, eP] at nt2; cases nt2
          have s10 := sH9.trans sH10
          have eP10 := sH10 _ _ eP
          generalize hX : upd H10 P _ = H11; have tH11 := mwt eP10 hX; clear eP10; obtain ⟨sH11, eP, kH11⟩ := mw s10 nP0 hX; clear hX
          have et2' := tH11 _ _ et2
          have eO11 := (kH11 O nPO.symm).trans (sH10 _ _ eO9)
          have eF11 := (kH11 F nPF.symm).trans (sH10 _ _ eF9)
          have hps11 : ∀ x ∈ ps', H11 x.1 = some (.tup [VN x.2.1, VN x.2.2]) := fun x hx => tH11 _ _ (sH10 _ _ (hps9 x hx))
          obtain ⟨y, hy⟩ : ∃ y, (Gr.row g n)[k]? = some y := ⟨_, List.getElem?_eq_getElem hkl⟩
          have hyl : y < g.length := ok n y (List.mem_of_getElem? hy)
          refine ⟨_, rfl, _, rfl, r, _, _, .ref a, rfl, rfl, .of (sH11 _ _ hr0), hix, _, rfl, a, _, _, VN y, rfl, rfl, .of (sH11 _ _ (ha n _ hra)), atI_nat (by rw [List.getElem?_map, hy]; rfl), ?_⟩
          obtain ⟨b2, hb3, hb4⟩ := hfl.get hyl
          refine ⟨_, rfl, _, rfl, F, _, _, .bl b2, rfl, rfl, .of eF11, atI_nat (by rw [List.getElem?_map, hb3]; rfl), b2, rfl, ?_⟩
          cases b2 with
          | true =>
            refine iteB_f (c := !true) rfl ?_
            refine ⟨ps' ++ [(t2, n, k + 1)], ord, fs, _, _, _, ?_, rfl, sH11, eO11, eF11, by rw [eP, List.map_append]; rfl, fun x hx => ?_, ?_, ?_, ?_⟩
            · rw [show ((ps' ++ [(t2, n, k + 1)]).map (·.2)).reverse = (n, k + 1) :: (ps'.map (·.2)).reverse by simp, Gr.steps_skip]
            · rcases List.mem_append.mp hx with z | z
              · exact hps11 x z
              · rw [List.mem_singleton.mp z]; exact et2'
            · exact hfl.cong fun u => by simp
            · rw [show ((ps' ++ [(t2, n, k + 1)]).map (·.2)).reverse = (n, k + 1) :: (ps'.map (·.2)).reverse by simp]
              exact hD.skip hy (hb4.mp rfl)
            · intro u hu
              have := hall u hu
              simp at this ⊢
              exact this
          | false =>
            refine iteB_t (c := !false) rfl ?_
            have hyn : y ∉ ord ++ List.map (·.1) ((n, k) :: (ps'.map (·.2)).reverse) := fun z => by have := hb4.mpr z; cases this
            have hfsl : y < (fs.map V.bl).length := by rw [List.length_map, hfl.1]; exact hyl
            refine ⟨_, rfl, _, rfl, F, _, _, y, rfl, rfl, eF11, ixN_at hfsl, ?_⟩
            rw [show (fs.map V.bl).set y (.bl true) = (fs.set y true).map V.bl by rw [List.map_set]]
            generalize hX : upd H11 F _ = H12; have tH12 := mwt eF11 hX; clear eF11; obtain ⟨sH12, eF, kH12⟩ := mw sH11 nF0 hX; clear hX
            refine ⟨_, rfl, .inl ⟨rfl, _, .of ((kH12 P nPF).trans eP)⟩, _, rfl, by show 2 ≤ sizeLine; decide, fun t3 nt3 => ?_⟩
            have eP12 := (kH12 P nPF).trans eP
            have nt3P : t3 ≠ P := fun z => by rw [z, eP12] at nt3; cases nt3
            have nFt3 : F ≠ t3 := fun z => by rw [← z, eF] at nt3; cases nt3
            generalize hX : upd H12 t3 _ = H13; obtain ⟨sH13, et3⟩ := nw nt3 hX; clear hX
            have s13 := sH12.trans sH13
            have eP13 := sH13 _ _ eP12
            refine ⟨P, _, _, rfl, rfl, eP13, by rw [List.length_append, List.length_map]; exact Nat.lt_of_le_of_lt (show ps'.length + 1 ≤ 1000000 by omega) (by decide), ?_⟩
            generalize hX : upd H13 P _ = H14; have tH14 := mwt eP13 hX; clear eP13; obtain ⟨sH14, eP, kH14⟩ := mw s13 nP0 hX; clear hX
            have hst : ((ps' ++ [((t2, n, k + 1) : Addr × Nat × Nat)] ++ [((t3, y, 0) : Addr × Nat × Nat)]).map (fun x : Addr × Nat × Nat => x.2)).reverse = (y, 0) :: (n, k + 1) :: (ps'.map (·.2)).reverse := by simp
            have hE : Gr.E g n y := List.mem_of_getElem? hy
            refine ⟨ps' ++ [(t2, n, k + 1)] ++ [(t3, y, 0)], ord, fs.set y true, _, _, _, ?_, rfl, sH14, ?_, ?_, by rw [eP]; simp, fun x hx => ?_, ?_, ?_, ?_⟩
            · rw [hst, Gr.steps_push, Gr.steps_skip]
            · rw [kH14 O nPO.symm]; exact sH13 _ _ ((kH12 O nFO.symm).trans eO11)
            · rw [kH14 F nPF.symm]; exact sH13 _ _ eF
            · rcases List.mem_append.mp hx with z | z
              · rcases List.mem_append.mp z with z | z
                · exact tH14 _ _ (sH13 _ _ (tH12 _ _ (hps11 x z)))
                · rw [List.mem_singleton.mp z]; exact tH14 _ _ (sH13 _ _ (tH12 _ _ et2'))
              · rw [List.mem_singleton.mp z]; exact tH14 _ _ et3
            · rw [hst]
              exact hfl.set fun u => by simp [or_comm, or_left_comm, or_assoc]
            · rw [hst]
              have hD2 : Gr.Dfs g ord ((n, k) :: (ps'.map (·.2)).reverse) := hD
              have hD3 := hD2.push hyl hyn fun x hx => by
                rcases List.mem_cons.mp hx with rfl | hx
                · exact .one hE
                · have hch := hD2.ch
                  rw [List.pairwise_cons] at hch
                  exact (hch.1 x hx).snoc hE
              refine hD3.skip2 hy (by simp)
            · rw [hst]
              intro u hu
              have := hall u hu
              simp at this ⊢
              rcases this with h | h | h
              · exact .inl h
              · exact .inr (.inr (.inl h))
              · exact .inr (.inr (.inr h))
      · have cc : ps = [] := by
          cases ps with
          | nil => rfl
          | cons x l => exact absurd (decide_eq_true (by simp)) cc
        subst cc
        refine ⟨ord, fs, _, _, _, _, _, rfl, s8, eO, eF, hfl.cong fun u => by simp, hD, fun u hu => ?_⟩
        have := hall u (by omega)
        simpa using this
    · rintro σ H4 ⟨ord, fs, v3, v4, v5, v6, v7, rfl, s4, eO, eF, hfl, hD, hall⟩
      exact ⟨_, rfl, q _ _ ord s4 nO eO (hD.fin hall)⟩
/-- nested lists of which each is to be changed -/
structure NL (H0 : Hp) (D : Addr) (bs : List Addr) (t : Gr.G) (H' : Hp) : Prop where
  d : H' D = some (.lst (bs.map V.ref))
  len : bs.length = t.length
  nd : bs.Nodup
  fr : ∀ b ∈ bs, H0 b = none ∧ b ≠ D
  get : ∀ i b, bs[i]? = some b → H' b = some (.lst ((Gr.row t i).map VN))
theorem NL.grl {H0 H' : Hp} {D : Addr} {bs : List Addr} {t : Gr.G} (h : NL H0 D bs t H') : GrL H' D t := ⟨bs, h.d, h.len, h.get⟩
theorem row_set (t : Gr.G) (i : Nat) (r : List Nat) (k : Nat) : Gr.row (t.set i r) k = if k = i ∧ i < t.length then r else Gr.row t k := by
  unfold Gr.row
  rw [List.getD_eq_getElem?_getD, List.getD_eq_getElem?_getD, List.getElem?_set]
  by_cases c : i = k
  · subst c
    by_cases l : i < t.length
    · rw [if_pos rfl, if_pos l, if_pos ⟨rfl, l⟩]; rfl
    · rw [if_pos rfl, if_neg l, if_neg (fun z => l z.2), List.getElem?_eq_none (by omega)]
  · rw [if_neg c, if_neg (fun z => c z.1.symm)]
theorem NL.keep {H0 H' H'' : Hp} {D : Addr} {bs : List Addr} {t : Gr.G} (s : Same H' H'') (h : NL H0 D bs t H') : NL H0 D bs t H'' := ⟨s _ _ h.d, h.len, h.nd, h.fr, fun i b e => s _ _ (h.get i b e)⟩
theorem NL.put {H0 H' : Hp} {D b : Addr} {bs : List Addr} {t : Gr.G} {i : Nat} {r : List Nat} (h : NL H0 D bs t H') (hb : bs[i]? = some b) : NL H0 D bs (t.set i r) (upd H' b (.lst (r.map VN))) := by
  have hm := List.mem_of_getElem? hb
  have hil : i < t.length := by rw [← h.len]; exact (List.getElem?_eq_some_iff.mp hb).1
  refine ⟨by rw [upd_ne (h.fr b hm).2.symm]; exact h.d, by rw [List.length_set]; exact h.len, h.nd, h.fr, fun k c hc => ?_⟩
  rw [row_set]
  by_cases e : k = i
  · subst e
    rw [hb] at hc
    obtain rfl := Option.some.inj hc
    rw [upd_same, if_pos ⟨rfl, hil⟩]
  · have : c ≠ b := fun z => by
      subst z
      exact e (nd_inj h.nd hc hb)
    rw [upd_ne this, if_neg (fun z => e z.1)]
    exact h.get k c hc
theorem NL.put_same {H0 H' : Hp} {D b : Addr} {bs : List Addr} {t : Gr.G} {o : HO} (s : Same H0 H') (h : NL H0 D bs t H') (hb : b ∈ bs) : Same H0 (upd H' b o) := fun x y e => by
  rw [upd_ne (ne_of_none e (h.fr b hb).1)]
  exact s _ _ e
/-- the edges of the nodes below i, and of i the first j, turned round -/
def RevI (g t : Gr.G) (i j : Nat) : Prop := t.length = g.length ∧ (∀ u v, Gr.E t u v ↔ ((v < i ∧ Gr.E g v u) ∨ (v = i ∧ u ∈ (Gr.row g i).take j))) ∧ ∀ u, (Gr.row t u).length ≤ Gr.below (fun u => (Gr.row g u).length) i + j
theorem RevI.zero {g : Gr.G} : RevI g (List.replicate g.length []) 0 0 := by
  have hr : ∀ u, Gr.row (List.replicate g.length ([] : List Nat)) u = [] := fun u => by
    unfold Gr.row
    rw [List.getD_eq_getElem?_getD, List.getElem?_replicate]
    split <;> rfl
  refine ⟨List.length_replicate, fun u v => ?_, fun u => by rw [hr]; exact Nat.zero_le _⟩
  unfold Gr.E
  rw [hr]
  simp
theorem RevI.next {g t : Gr.G} {i : Nat} (h : RevI g t i (Gr.row g i).length) : RevI g t (i + 1) 0 := by
  refine ⟨h.1, fun u v => ?_, fun u => h.2.2 u⟩
  rw [h.2.1, List.take_length]
  simp only [List.take_zero, List.not_mem_nil, and_false, or_false]
  constructor
  · rintro (⟨a, b⟩ | ⟨rfl, b⟩)
    · exact ⟨by omega, b⟩
    · exact ⟨by omega, b⟩
  · rintro ⟨a, b⟩
    rcases Nat.lt_succ_iff_lt_or_eq.mp a with k | rfl
    · exact .inl ⟨k, b⟩
    · exact .inr ⟨rfl, b⟩
theorem take_succ' {l : List Nat} {j v : Nat} (h : l[j]? = some v) : l.take (j + 1) = l.take j ++ [v] := by
  rw [List.take_succ, h]; rfl
theorem RevI.step {g t : Gr.G} {i j v : Nat} (h : RevI g t i j) (hv : (Gr.row g i)[j]? = some v) (hl : v < g.length) : RevI g (t.set v (Gr.row t v ++ [i])) i (j + 1) := by
  have hvt : v < t.length := by rw [h.1]; exact hl
  refine ⟨by rw [List.length_set]; exact h.1, fun u w => ?_, fun u => ?_⟩
  · unfold Gr.E
    rw [row_set, take_succ' hv]
    by_cases e : u = v
    · subst e
      rw [if_pos ⟨rfl, hvt⟩, List.mem_append, List.mem_append]
      have := h.2.1 u w
      unfold Gr.E at this
      rw [this]
      simp only [List.mem_singleton, or_true, and_true]
      constructor
      · rintro ((a | ⟨a, b⟩) | a)
        · exact .inl a
        · exact .inr a
        · exact .inr a
      · rintro (a | a)
        · exact .inl (.inl a)
        · exact .inr a
    · rw [if_neg (fun z => e z.1), List.mem_append]
      have := h.2.1 u w
      unfold Gr.E at this
      rw [this]
      simp only [List.mem_singleton, e, or_false]
  · have := h.2.2 u
    rw [row_set]
    split
    · rename_i c
      rw [List.length_append, List.length_singleton]
      have := h.2.2 v
      omega
    · omega
theorem RevI.fin {g t : Gr.G} (ok : Gr.Ok g) (h : RevI g t g.length 0) : Gr.Rev g t := by
  refine ⟨h.1, fun u v => ?_⟩
  rw [h.2.1]
  simp only [List.take_zero, List.not_mem_nil, and_false, or_false]
  exact ⟨fun z => ⟨z.2, z.1, ok _ _ z.2⟩, fun z => ⟨z.2.1, z.1⟩⟩
theorem below_mono (w : Nat → Nat) : ∀ {n m : Nat}, n ≤ m → Gr.below w n ≤ Gr.below w m
  | n, 0, h => by have : n = 0 := by omega
                  rw [this]; exact Nat.le_refl _
  | n, m + 1, h => by
    rcases Nat.lt_or_eq_of_le h with k | k
    · have := below_mono w (Nat.le_of_lt_succ k)
      show _ ≤ Gr.below w m + w m
      omega
    · rw [k]; exact Nat.le_refl _
def Small (g : Gr.G) : Prop := g.length ≤ 100000 ∧ Gr.below (fun u => (Gr.row g u).length) g.length ≤ 1000000
def spRevL : Sp := fun vs H Q _ => ∃ (r : Addr) (g : Gr.G), vs = [.ref r] ∧ GrL H r g ∧ Gr.Ok g ∧ Small g ∧
  ∀ (H' : Hp) (y : Addr) (t : Gr.G), Same H H' → H y = none → GrL H' y t → Gr.Rev g t → Q (.ref y) H'
theorem cal_revL (T : Txt K mg) : C8.Cal P w K mg base 1 "reversed_graph" spRevL [] := by
  obtain ⟨f, fd, F, hm, hb⟩ := T.h_reversed_graph
  refine ⟨f, fd, _, [], F.ok sc_reversed_graph (fun vs H Q E h => ?_) (fun cdv A outer s H vs Q E hr h => ?_), hm, F.kp, hb, .nil⟩
  · obtain ⟨r, g, rfl, _⟩ := h
    rfl
  · obtain ⟨r, g, rfl, hG, ok, ⟨hn, hsm⟩, q⟩ := h
    refine ⟨_, (pss_cons
      (ps_setLc (i := 1) (own := [("_", 5)]) (g := gName 5) (tt := tYes) rfl sc_reversed_graph.nd rfl rfl (sw_true rfl rfl rfl (by decide +kernel)) (pi_list (pv 0)) (blkOk_by (N := N_reversed_graph) (sc := defScope s_reversed_graph) (by decide +kernel)) (fun _ _ _ _ _ => (pg_name (i := 5) sc_reversed_graph.nd rfl (Or.inl rfl))) (fun _ _ _ _ _ => pts_nil) (fun _ _ _ _ _ => (pe_lst pa_nil)))
      (pss_cons
      (ps_for PassesOwn.never rfl (pi_enum (by rfl) T.z_enumerate (pa_cons (pv 0) pa_nil)) (pg_tup (by rfl) (pgs_cons (pg_name (i := 2) sc_reversed_graph.nd rfl (.inl rfl)) (pgs_cons (pg_name (i := 3) sc_reversed_graph.nd rfl (.inl rfl)) pgs_nil))) (pss_one
      (ps_for PassesOwn.never rfl (pi_list (pv 3)) (pg_name (i := 4) sc_reversed_graph.nd rfl (.inl rfl)) (pss_one
      (ps_expr (pe_bm PySem.F.plainAttrs_list PySem.F.slot_list_append PySem.F.type_list_append mt_append (pe_ix (ix_listK (K := K) rfl) (pv 1) (pv 4) (fun _ _ => rfl)) (pa_cons (pv 2) pa_nil)))))))
      (pss_one
      (ps_ret (pv 1))))), ?_⟩
    obtain ⟨as, hr0, hal, ha⟩ := hG
    have hl2 : (as.map V.ref).length = g.length := by rw [List.length_map, hal]
    refine ⟨_, rfl, r, rfl, ⟨_, .of hr0⟩, fun D nD => lc_list (K := K) (a := r) (xs := as.map V.ref) (fun i H' => ∃ bs : List Addr, Same H H' ∧ NL H D bs (List.replicate i []) H')
      ⟨[], same_new nD, upd_same, rfl, by simp, by simp, by simp⟩ (fun i H' _ ⟨_, z, _⟩ => .of (z _ _ hr0)) ?_ ?_⟩
    · rintro i v H2 hi ⟨bs, s2, h2⟩
      have hil : i < g.length := by rw [← hl2]; exact (List.getElem?_eq_some_iff.mp hi).1
      refine ⟨rfl, Nat.zero_le _, fun t nt => ?_⟩
      generalize hX : upd H2 t _ = H3; obtain ⟨sH3, et⟩ := nw nt hX; clear hX
      have h3 := h2.keep sH3
      have hbl : bs.length = i := by rw [h2.len, List.length_replicate]
      have ntD : t ≠ D := fun z => by rw [z, h2.d] at nt; cases nt
      have ntb : t ∉ bs := fun z => by
        obtain ⟨j, hj⟩ := List.mem_iff_getElem?.mp z
        rw [h2.get j t hj] at nt
        cases nt
      refine ⟨_, h3.d, by rw [List.length_map]; exact Nat.lt_of_le_of_lt (show bs.length ≤ 100000 by omega) (by decide), bs ++ [t], ?_, ?_, ?_, List.nodup_append.mpr ⟨h2.nd, by simp, fun a ha b hb' => by rw [List.mem_singleton.mp hb']; exact fun z => ntb (z ▸ ha)⟩, fun b hb' => ?_, fun j b hj => ?_⟩
      · have s3 := s2.trans sH3
        exact fun x y e => by rw [upd_ne (ne_of_none e nD)]; exact s3 _ _ e
      · rw [upd_same, List.map_append]; rfl
      · rw [List.length_append, hbl]; simp
      · rcases List.mem_append.mp hb' with z | z
        · exact h2.fr b z
        · rw [List.mem_singleton.mp z]; exact ⟨s2.free nt, ntD⟩
      · rcases snocg hj with ⟨_, z⟩ | ⟨_, z⟩
        · rw [upd_ne (h2.fr b (List.mem_of_getElem? z)).2, h3.get j b z, show Gr.row (List.replicate i ([] : List Nat)) j = [] from by unfold Gr.row; rw [List.getD_eq_getElem?_getD, List.getElem?_replicate]; split <;> rfl, show Gr.row (List.replicate (i + 1) ([] : List Nat)) j = [] from by unfold Gr.row; rw [List.getD_eq_getElem?_getD, List.getElem?_replicate]; split <;> rfl]
        · rw [z, upd_ne ntD, et, show Gr.row (List.replicate (i + 1) ([] : List Nat)) j = [] from by unfold Gr.row; rw [List.getD_eq_getElem?_getD, List.getElem?_replicate]; split <;> rfl]; rfl
    rintro H2 ⟨bs, s2, h2⟩
    rw [hl2] at h2
    have hdeg : ∀ i, i < g.length → Gr.below (fun u => (Gr.row g u).length) i + (Gr.row g i).length ≤ 1000000 := fun i hi => Nat.le_trans (below_mono (fun u => (Gr.row g u).length) (show i + 1 ≤ g.length from hi)) hsm
    refine ⟨_, rfl, r, _, rfl, .of (s2 _ _ hr0), ?_⟩
    refine for_it (walk_enum (K := K) (a := r) (xs := as.map V.ref)) (fun i σ H' => ∃ (v2 v3 v4 v5 : Option V) (t : Gr.G), σ = [some (.ref r), some (.ref D), v2, v3, v4, v5] ∧ Same H H' ∧ NL H D bs t H' ∧ RevI g t i 0)
      ⟨none, none, none, none, _, rfl, s2, h2, RevI.zero⟩ (fun i σ H' _ ⟨_, _, _, _, _, _, z, _⟩ => .of (z _ _ hr0)) ?_ ?_
    · clear s2 h2
      rintro i v σ H3 H4 hi ⟨v2, v3, v4, v5, t, rfl, s3, h3, hR⟩ ⟨p, xi, y, rfl, np, rfl, hx, hy⟩
      obtain rfl := Option.some.inj hx
      obtain ⟨a, hia, rfl⟩ := refsg hy
      have hil : i < g.length := by rw [← hal]; exact lt_of_get hia
      have hra := ha i a hia
      generalize hX : upd H3 p _ = H4; obtain ⟨sH4, ep⟩ := nw np hX; clear hX
      have s4 := s3.trans sH4
      have h4 := h3.keep sH4
      refine ⟨p, _, rfl, .of ep, rfl, _, _, rfl, _, _, rfl, rfl, ?_⟩
      refine ⟨_, rfl, a, rfl, ⟨_, .of (s4 _ _ hra)⟩, for_list (K := K) (a := a) (xs := (Gr.row g i).map VN) (fun j σ H' => ∃ (v4 v5 : Option V) (t : Gr.G), σ = [some (.ref r), some (.ref D), some (VN i), some (.ref a), v4, v5] ∧ Same H H' ∧ NL H D bs t H' ∧ RevI g t i j)
        ⟨v4, v5, t, rfl, s4, h4, hR⟩ (fun j σ H' _ ⟨_, _, _, _, z, _⟩ => .of (z _ _ hra)) ?_ ?_⟩
      · clear s4 h4 hR
        rintro j v σ H5 hj ⟨v4, v5, t, rfl, s5, h5, hR⟩
        obtain ⟨y, hy, rfl⟩ := nats_get hj
        have hyl := ok i y (List.mem_of_getElem? hy)
        have hyb : y < bs.length := by rw [h5.len, hR.1]; exact hyl
        have hbb := List.getElem?_eq_getElem hyb
        have eb := h5.get y _ hbb
        have hjl := lt_of_get hy
        have hll := hR.2.2 y
        have := hdeg i hil
        refine ⟨_, rfl, _, rfl, D, _, _, .ref bs[y], rfl, rfl, .of h5.d, atN hbb, .inl ⟨rfl, _, .of eb⟩, _, rfl, bs[y], _, _, rfl, rfl, eb, by rw [List.length_map]; exact Nat.lt_of_le_of_lt (show (Gr.row t y).length ≤ 1000000 by omega) (by decide), ?_⟩
        rw [show (Gr.row t y).map VN ++ [VN i] = (Gr.row t y ++ [i]).map VN by rw [List.map_append]; rfl]
        exact ⟨_, _, _, rfl, h5.put_same s5 (List.mem_of_getElem? hbb), h5.put hbb, hR.step hy hyl⟩
      · rintro σ H5 ⟨v4, v5, t, rfl, s5, h5, hR⟩
        rw [List.length_map] at hR
        exact ⟨_, _, _, _, t, rfl, s5, h5, hR.next⟩
    · rintro σ H3 ⟨v2, v3, v4, v5, t, rfl, s3, h3, hR⟩
      rw [hl2] at hR
      exact ⟨_, rfl, q H3 D t s3 nD h3.grl (hR.fin ok)⟩
def hv (o : Option Nat) : V := .int (match o with | none => -1 | some i => (i : Int))
def nn : List (Option Nat) → Nat
  | [] => 0
  | none :: l => nn l + 1
  | some _ :: l => nn l
theorem nn_set {c : Nat} : ∀ {hs : List (Option Nat)} {u : Nat}, hs[u]? = some none → nn (hs.set u (some c)) + 1 = nn hs
  | [], _, h => by simp at h
  | none :: l, 0, _ => rfl
  | some _ :: l, 0, h => by simp at h
  | none :: l, u + 1, h => by
    have := nn_set (c := c) (hs := l) (u := u) (by simpa using h)
    show nn (l.set u (some c)) + 1 + 1 = nn l + 1
    omega
  | some _ :: l, u + 1, h => by
    have := nn_set (c := c) (hs := l) (u := u) (by simpa using h)
    exact this
theorem nn_le : ∀ hs : List (Option Nat), nn hs ≤ hs.length
  | [] => Nat.le_refl 0
  | none :: l => Nat.succ_le_succ (nn_le l)
  | some _ :: l => Nat.le_succ_of_le (nn_le l)
def hof (hs : List (Option Nat)) (u : Nat) : Option Nat := (hs[u]?).join
theorem hof_some {hs : List (Option Nat)} {u : Nat} {o : Option Nat} (h : hs[u]? = some o) : hof hs u = o := by unfold hof; rw [h]; rfl
theorem hof_set {hs : List (Option Nat)} {u c : Nat} (h : u < hs.length) (x : Nat) : hof (hs.set u (some c)) x = if x = u then some c else hof hs x := by
  unfold hof
  rw [List.getElem?_set]
  by_cases e : u = x
  · subst e; rw [if_pos rfl, if_pos rfl, if_pos h]; rfl
  · rw [if_neg e, if_neg (fun z => e z.symm)]
/-- what a search backwards from s keeps -/
structure Bw (g t : Gr.G) (h0 h : Nat → Option Nat) (c s : Nat) (ws : List Nat) (cur : Nat) (dn : List Nat) : Prop where
  old : ∀ u i, h0 u = some i → h u = some i
  new : ∀ u i, h0 u = none → h u = some i → i = c ∧ u < g.length ∧ Gr.Rc g u s
  cl : ∀ u, h0 u = none → h u = some c → u ∈ ws ∨ (u = cur ∧ ∀ x ∈ dn, h x ≠ none) ∨ ∀ x ∈ Gr.row t u, h x ≠ none
  ws : ∀ u ∈ ws, h0 u = none ∧ h u = some c
  st : h s = some c
theorem Bw.start {g t : Gr.G} {h0 h : Nat → Option Nat} {c s : Nat} (hs : h0 s = none) (hl : s < g.length) (e : ∀ x, h x = if x = s then some c else h0 x) {d : Nat} {dn : List Nat} : Bw g t h0 h c s [s] d dn := by
  refine ⟨fun u i k => ?_, fun u i k1 k2 => ?_, fun u k1 k2 => ?_, fun u hu => ?_, by rw [e, if_pos rfl]⟩
  · rw [e, if_neg (fun z => by rw [z, hs] at k; cases k)]
    exact k
  · rw [e] at k2
    split at k2
    · rename_i z
      subst z
      exact ⟨(Option.some.inj k2).symm, hl, .refl _⟩
    · rw [k1] at k2; cases k2
  · rw [e] at k2
    split at k2
    · rename_i z
      exact .inl (by rw [z]; simp)
    · rw [k1] at k2; cases k2
  · rw [List.mem_singleton.mp hu]
    exact ⟨hs, by rw [e, if_pos rfl]⟩
theorem Bw.pop {g t : Gr.G} {h0 h : Nat → Option Nat} {c s cur d : Nat} {ws dn : List Nat} (k : Bw g t h0 h c s (ws ++ [cur]) d dn) (hd : dn = Gr.row t d) : Bw g t h0 h c s ws cur [] := by
  refine ⟨k.old, k.new, fun u k1 k2 => ?_, fun u hu => k.ws u (List.mem_append.mpr (.inl hu)), k.st⟩
  rcases k.cl u k1 k2 with z | ⟨z, y⟩ | z
  · rcases List.mem_append.mp z with z | z
    · exact .inl z
    · exact .inr (.inl ⟨List.mem_singleton.mp z, by simp⟩)
  · exact .inr (.inr (by rw [z, ← hd]; exact y))
  · exact .inr (.inr z)
theorem Bw.seen {g t : Gr.G} {h0 h : Nat → Option Nat} {c s cur x : Nat} {ws dn : List Nat} (k : Bw g t h0 h c s ws cur dn) (hx : h x ≠ none) : Bw g t h0 h c s ws cur (dn ++ [x]) := by
  refine ⟨k.old, k.new, fun u k1 k2 => ?_, k.ws, k.st⟩
  rcases k.cl u k1 k2 with z | ⟨z, y⟩ | z
  · exact .inl z
  · refine .inr (.inl ⟨z, fun y' hy => ?_⟩)
    rcases List.mem_append.mp hy with w | w
    · exact y y' w
    · rw [List.mem_singleton.mp w]; exact hx
  · exact .inr (.inr z)
theorem Bw.push {g t : Gr.G} {h0 h h' : Nat → Option Nat} {c s cur x : Nat} {ws dn : List Nat} (k : Bw g t h0 h c s ws cur dn) (hx : h x = none) (hl : x < g.length) (hr : Gr.Rc g x s) (e : ∀ y, h' y = if y = x then some c else h y) : Bw g t h0 h' c s (ws ++ [x]) cur (dn ++ [x]) := by
  have up : ∀ y i, h y = some i → h' y = some i := fun y i z => by
    rw [e, if_neg (fun w => by rw [w, hx] at z; cases z)]; exact z
  have upn : ∀ y, h y ≠ none → h' y ≠ none := fun y z w => by
    cases q : h y with
    | none => exact z q
    | some i => rw [up y i q] at w; cases w
  have h0x : h0 x = none := by
    cases q : h0 x with
    | none => rfl
    | some i => rw [k.old x i q] at hx; cases hx
  have xx : h' x = some c := by rw [e, if_pos rfl]
  refine ⟨fun u i z => up u i (k.old u i z), fun u i k1 k2 => ?_, fun u k1 k2 => ?_, fun u hu => ?_, up _ _ k.st⟩
  · by_cases z : u = x
    · subst z
      rw [xx] at k2
      exact ⟨(Option.some.inj k2).symm, hl, hr⟩
    · rw [e, if_neg z] at k2
      exact k.new u i k1 k2
  · by_cases z : u = x
    · exact .inl (by rw [z]; simp)
    · rw [e, if_neg z] at k2
      rcases k.cl u k1 k2 with w | ⟨w, y⟩ | w
      · exact .inl (List.mem_append.mpr (.inl w))
      · refine .inr (.inl ⟨w, fun y' hy => ?_⟩)
        rcases List.mem_append.mp hy with v | v
        · exact upn _ (y y' v)
        · rw [List.mem_singleton.mp v, xx]; simp
      · exact .inr (.inr fun y hy => upn _ (w y hy))
  · rcases List.mem_append.mp hu with z | z
    · exact ⟨(k.ws u z).1, up _ _ (k.ws u z).2⟩
    · rw [List.mem_singleton.mp z]; exact ⟨h0x, xx⟩
theorem Bw.fin {g t : Gr.G} {h0 h : Nat → Option Nat} {c s d : Nat} {dn : List Nat} (ok : Gr.Ok g) (rv : Gr.Rev g t) (C : Gr.Cmp g h0 c) (hsl : s < g.length) (k : Bw g t h0 h c s [] d dn) (hd : dn = Gr.row t d) : ∀ u, u < g.length → Gr.Rc g u s → h0 u = none → h u = some c := by
  intro u hu r
  revert hu
  induction r with
  | refl u => intro _ _; exact k.st
  | @step u v w e r ih =>
    intro hu h0u
    have hv := ok u v e
    cases q : h0 v with
    | some i =>
      obtain ⟨j, hj, _⟩ := C.ed u v i e hu q
      rw [hj] at h0u
      cases h0u
    | none =>
      have hvc := ih hsl k hv q
      have e2 : Gr.E t v u := (rv.2 u v).mpr ⟨e, hu, hv⟩
      have : h u ≠ none := by
        rcases k.cl v q hvc with z | ⟨z, y⟩ | z
        · cases z
        · subst z; subst hd; exact y u e2
        · exact z u e2
      cases q2 : h u with
      | none => exact absurd q2 this
      | some i => rw [(k.new u i h0u q2).1]
theorem Gr.Cmp.done {g : Gr.G} {hs : List (Option Nat)} {c : Nat} (C : Gr.Cmp g (hof hs) c) (hl : hs.length = g.length) (all : ∀ u, u < g.length → hof hs u ≠ none) : ∃ h : List Nat, hs = h.map some ∧ Gr.Comps g h c := by
  have hex : ∃ h : List Nat, hs = h.map some := by
    have key : ∀ l : List (Option Nat), (∀ o ∈ l, o ≠ none) → ∃ h : List Nat, l = h.map some := by
      intro l
      induction l with
      | nil => intro _; exact ⟨[], rfl⟩
      | cons o l ih =>
        intro hh
        obtain ⟨h, e⟩ := ih fun o' ho => hh o' (List.mem_cons_of_mem _ ho)
        cases o with
        | none => exact absurd rfl (hh none List.mem_cons_self)
        | some i => exact ⟨i :: h, by rw [e]; rfl⟩
    refine key hs fun o ho e => ?_
    obtain ⟨u, hu⟩ := List.mem_iff_getElem?.mp ho
    refine all u (by rw [← hl]; exact lt_of_get hu) ?_
    rw [hof_some hu, e]
  obtain ⟨h, rfl⟩ := hex
  have hg : ∀ {u i : Nat}, h[u]? = some i → hof (h.map some) u = some i := fun {u i} e => by
    unfold hof
    rw [List.getElem?_map, e]; rfl
  have hg' : ∀ {u i : Nat}, hof (h.map some) u = some i → h[u]? = some i := fun {u i} e => by
    unfold hof at e
    rw [List.getElem?_map] at e
    cases q : h[u]? with
    | none => rw [q] at e; cases e
    | some j => rw [q] at e; exact e
  rw [List.length_map] at hl
  refine ⟨h, rfl, hl, fun i hi => ?_, fun u v i j e1 e2 => C.eq u v i j (hg e1) (hg e2), fun u v i j e e1 e2 => ?_, fun i hi => ?_⟩
  · obtain ⟨u, hu⟩ := List.mem_iff_getElem?.mp hi
    exact (C.lt u i (hg hu)).1
  · obtain ⟨i', h1, h2⟩ := C.ed u v j e (by rw [← hl]; exact lt_of_get e1) (hg e2)
    rw [hg e1] at h1
    obtain rfl := Option.some.inj h1
    exact h2
  · obtain ⟨u, hu⟩ := C.us i hi
    exact List.mem_of_getElem? (hg' hu)
theorem rev_split {l : List Nat} {i s : Nat} (h : l.reverse[i]? = some s) : ∃ A B, l = A ++ s :: B ∧ ∀ b ∈ B, b ∈ l.reverse.take i := by
  have hl := lt_of_get h
  have e : l.reverse = l.reverse.take i ++ s :: l.reverse.drop (i + 1) := by
    conv => lhs; rw [← List.take_append_drop i l.reverse]
    congr 1
    exact List.drop_eq_getElem?_toList_append.trans (by rw [h]; rfl)
  refine ⟨(l.reverse.drop (i + 1)).reverse, (l.reverse.take i).reverse, ?_, fun b hb => List.mem_reverse.mp hb⟩
  have := congrArg List.reverse e
  rw [List.reverse_reverse] at this
  exact this.trans (by simp)
def spComp : Sp := fun vs H Q _ => ∃ (r : Addr) (g : Gr.G), vs = [.ref r] ∧ GrL H r g ∧ Gr.Ok g ∧ Small g ∧
  ∀ (H' : Hp) (y : Addr) (h : List Nat) (c : Nat), Same H H' → H y = none → H' y = some (.lst (h.map VN)) → Gr.Comps g h c → Q (.ref y) H'
def CmI (r y M W X : Addr) (g t : Gr.G) (h0 : Nat → Option Nat) (xo : HO) (c s : Nat) (H : Hp) (m : Nat) (σ : L2.St) (H' : Hp) : Prop := ∃ (hs : List (Option Nat)) (ws : List Nat) (d : Nat) (v6 : Option V), m = nn hs + ws.length ∧ σ = [some (.ref r), some (.ref y), some (.ref M), some (VN c), some (VN s), some (.ref W), v6] ∧ Same H H' ∧ H' M = some (.lst (hs.map hv)) ∧ H' W = some (.lst (ws.map VN)) ∧ H' X = some xo ∧ hs.length = g.length ∧ nn hs + ws.length ≤ g.length ∧ Bw g t h0 (hof hs) c s ws d (Gr.row t d)
theorem cal_comp (T : Txt K mg) : C8.Cal P w K mg base 2 "components" spComp [] := by
  have C_reversed_graph : C8.Cal P w K mg base 1 "reversed_graph" spRevL [] := cal_revL T
  have C_finishing_order : C8.Cal P w K mg base 1 "finishing_order" spFin [] := cal_fin T
  obtain ⟨f, fd, F, hm, hb⟩ := T.h_components
  refine ⟨f, fd, _, [], F.ok sc_components (fun vs H Q E h => ?_) (fun cdv A outer s H vs Q E hr h => ?_), hm, F.kp, hb, .nil⟩
  · obtain ⟨r, g, rfl, _⟩ := h
    rfl
  · obtain ⟨r, g, rfl, hG, ok, hsm, q⟩ := h
    refine ⟨_, (pss_cons
      (ps_set (i := 1) sc_components.nd rfl (Or.inl rfl) (C8.pe_c C_reversed_graph hr (by decide) (by rfl) (pa_cons (pv 0) pa_nil)))
      (pss_cons
      (ps_set (i := 2) sc_components.nd rfl (Or.inl rfl) (pe_op op_rep (pe_lst (pa_cons (pe_un un_neg pe_int) pa_nil)) (pe_callB (call_lenK (K := K) rfl) (by rfl) T.z_len PySem.boot_len (pa_cons (pv 0) pa_nil))))
      (pss_cons
      (ps_set (i := 3) sc_components.nd rfl (Or.inl rfl) pe_int)
      (pss_cons
      (ps_for PassesOwn.never rfl (pi_list (pe_revLK (K := K) rfl (C8.pe_c C_finishing_order hr (by decide) (by rfl) (pa_cons (pv 0) pa_nil)))) (pg_name (i := 4) sc_components.nd rfl (.inl rfl)) (pss_cons
      (ps_if (pt_cmpR op_ge (pe_ix (ix_listK (K := K) rfl) (pv 2) (pv 4) (fun _ _ => rfl)) pe_int (nomark _)) (pss_one
      ps_continue) pss_nil)
      (pss_cons
      (ps_asg (pv 3) (pg_sub (pv 2) (pv 4) set_list))
      (pss_cons
      (ps_set (i := 5) sc_components.nd rfl (Or.inl rfl) (pe_lst (pa_cons (pv 4) pa_nil)))
      (C8.pss_cut
      (ps_while PassesOwn.never (pt_cmpR op_gt (pe_callB (call_lenK (K := K) rfl) (by rfl) T.z_len PySem.boot_len (pa_cons (pv 5) pa_nil)) pe_int (nomark _)) (pss_one
      (ps_for PassesOwn.never rfl (pi_list (pe_ix (ix_listK (K := K) rfl) (pv 1) (pe_bm0 PySem.F.plainAttrs_list PySem.F.slot_list_pop PySem.F.type_list_pop mt_pop (pv 5)) (fun _ _ => rfl))) (pg_name (i := 6) sc_components.nd rfl (.inl rfl)) (pss_one
      (ps_if (pt_cmpR op_lt (pe_ix (ix_listK (K := K) rfl) (pv 2) (pv 6) (fun _ _ => rfl)) pe_int (nomark _)) (pss_cons
      (ps_asg (pv 3) (pg_sub (pv 2) (pv 6) set_list))
      (pss_one
      (ps_expr (pe_bm PySem.F.plainAttrs_list PySem.F.slot_list_append PySem.F.type_list_append mt_append (pv 5) (pa_cons (pv 6) pa_nil))))) pss_nil)))))
      (pss_one
      (ps_aug (i := 3) sc_components.nd rfl (.inl rfl) pe_int ip_add)))))))
      (pss_one
      (ps_ret (pv 2))))))), ?_⟩
    have hn := hsm.1
    refine ⟨_, rfl, r, g, rfl, hG, ok, hsm, fun H1 y t s1 ny hT hrev => ?_⟩
    obtain ⟨as, hr0, hal, ha⟩ := id hG
    obtain ⟨bs, ey, hbl, hbr⟩ := id hT
    refine ⟨_, rfl, by show 1 ≤ sizeLine; decide, fun l nl => ?_⟩
    generalize hX : upd H1 l _ = H2; obtain ⟨sH2, el⟩ := nw nl hX; clear hX
    have s2 := s1.trans sH2
    refine ⟨_, rfl, r, _, rfl, .inl (.of (s2 _ _ hr0)), l, _, _, rfl, rfl, el, by omega, by rw [List.length_map]; omega, ?_, fun M nM => ?_⟩
    · rw [List.length_map, hal, Int.toNat_natCast]
      show 1 * g.length ≤ 16777216
      omega
    rw [List.length_map, hal, Int.toNat_natCast, show (List.replicate g.length [V.int (-1)]).flatten = (List.replicate g.length (none : Option Nat)).map hv by simp [hv]]
    have nM1 := sH2.free nM
    generalize hX : upd H2 M _ = H3; obtain ⟨sH3, eM⟩ := nw nM hX; clear hX
    have s3 := sH2.trans sH3
    refine ⟨_, rfl, r, g, rfl, hG.same (s1.trans s3), ok, by omega, fun H4 o ord s4 no eo hfin => ?_⟩
    have nMo : o ≠ M := fun z => by rw [z, eM] at no; cases no
    refine ⟨o, _, rfl, .of eo, fun X nX => ?_⟩
    generalize hX : upd H4 X _ = H5; obtain ⟨sH5, eX⟩ := nw nX hX; clear hX
    have s5 := (s3.trans s4).trans sH5
    have nX0 := (s3.trans s4).free nX
    have eM5 := sH5 _ _ (s4 _ _ eM)
    have nXM : X ≠ M := fun z => by rw [z, s4 _ _ eM] at nX; cases nX
    rw [show (ord.map VN).reverse = ord.reverse.map VN by rw [List.map_reverse]] at eX
    clear eM sH5 s4 sH3 s3 sH2 eo
    refine ⟨X, rfl, ⟨_, .of eX⟩, ?_⟩
    refine for_list (K := K) (a := X) (xs := ord.reverse.map VN) (fun i σ H' => ∃ (hs : List (Option Nat)) (c : Nat) (v4 v5 v6 : Option V), σ = [some (.ref r), some (.ref y), some (.ref M), some (VN c), v4, v5, v6] ∧ Same H1 H' ∧ H' M = some (.lst (hs.map hv)) ∧ H' X = some (.lst (ord.reverse.map VN)) ∧ hs.length = g.length ∧ Gr.Cmp g (hof hs) c ∧ ∀ b ∈ ord.reverse.take i, hof hs b ≠ none)
      ⟨_, 0, _, _, _, rfl, s5, eM5, eX, List.length_replicate, ?_, by simp⟩ (fun i σ H' _ ⟨_, _, _, _, _, _, _, _, z, _⟩ => .of z) ?_ ?_
    · rw [show hof (List.replicate g.length (none : Option Nat)) = fun _ => none from by
        funext u
        unfold hof
        rw [List.getElem?_replicate]
        split <;> rfl]
      exact Gr.Cmp.nil g
    · clear s5 eM5 eX
      rintro i v σ H6 hi ⟨hs, c, v4, v5, v6, rfl, s6, eM, eX, hl, hC, hbs⟩
      obtain ⟨st, hst, rfl⟩ := nats_get hi
      obtain ⟨A, B, eAB, hB⟩ := rev_split hst
      have hsl : st < g.length := (hfin.all st).mp (List.mem_reverse.mp (List.mem_of_getElem? hst))
      have hso : hs[st]? = some hs[st] := List.getElem?_eq_getElem (by rw [hl]; exact hsl)
      have hof_st := hof_some hso
      generalize hs[st] = ho at hso hof_st
      refine ⟨_, rfl, _, rfl, M, _, _, hv ho, rfl, rfl, .of eM, atN hso, _, _, rfl, rfl, _, rfl, ?_⟩
      cases ho with
      | some j =>
        refine iteB_t (decide_eq_true (Int.natCast_nonneg j)) ⟨hs, c, _, _, _, rfl, s6, eM, eX, hl, hC, fun b hb => ?_⟩
        rw [take_succ' hst] at hb
        rcases List.mem_append.mp hb with z | z
        · exact hbs b z
        · rw [List.mem_singleton.mp z, hof_st]; simp
      | none =>
        refine iteB_f rfl ?_
        refine ⟨_, rfl, _, rfl, _, rfl, M, _, _, st, rfl, rfl, eM, ixN_at (by rw [List.length_map, hl]; exact hsl), ?_⟩
        rw [show (hs.map hv).set st (VN c) = (hs.set st (some c)).map hv by rw [List.map_set]; rfl]
        generalize hX : upd H6 M _ = H7; have tH7 := mwt eM hX; clear eM; obtain ⟨sH7, eM, kH7⟩ := mw s6 nM1 hX; clear hX
        refine ⟨_, rfl, by show 1 ≤ sizeLine; decide, fun W nW => ?_⟩
        have eX7 := (kH7 X nXM).trans eX
        have nWM : W ≠ M := fun z => by rw [z, eM] at nW; cases nW
        have nWX : W ≠ X := fun z => by rw [z, eX7] at nW; cases nW
        have nW1 := sH7.free nW
        generalize hX : upd H7 W _ = H8; obtain ⟨sH8, eW⟩ := nw nW hX; clear hX
        have s8 := sH7.trans sH8
        have hB' : ∀ b ∈ B, hof hs b ≠ none := fun b hb => hbs b (hB b hb)
        rw [eAB] at hfin
        refine ⟨fun σ H' => ∃ (hs' : List (Option Nat)) (d : Nat) (v6 : Option V), σ = [some (.ref r), some (.ref y), some (.ref M), some (VN c), some (VN st), some (.ref W), v6] ∧ Same H1 H' ∧ H' M = some (.lst (hs'.map hv)) ∧ H' X = some (.lst (ord.reverse.map VN)) ∧ hs'.length = g.length ∧ Bw g t (hof hs) (hof hs') c st [] d (Gr.row t d), ?_, ?_⟩
        · refine ⟨CmI r y M W X g t (hof hs) (.lst (ord.reverse.map VN)) c st H1, ⟨_, hs.set st (some c), [st], g.length, _, rfl, rfl, s8, sH8 _ _ eM, eW, sH8 _ _ eX7, by rw [List.length_set]; exact hl, by rw [← hl, List.length_singleton, nn_set hso]; exact nn_le hs, ?_⟩, ?_⟩
          · exact Bw.start hof_st hsl fun x => hof_set (by rw [hl]; exact hsl) x
          rintro m σ H9 ⟨hs', ws, d, v6, rfl, rfl, s9, eM, eW, eX, hl', hbd, hW⟩
          refine ⟨_, rfl, W, _, rfl, .inl (.of eW), _, _, rfl, rfl, _, rfl, ite2 (fun cc => ?_) (fun cc => ?_)⟩
          · obtain ⟨ws', w0, rfl⟩ : ∃ ws' x, ws = ws' ++ [x] := by
              rcases List.eq_nil_or_concat ws with rfl | ⟨a, b, rfl⟩
              · exact absurd cc (by decide)
              · exact ⟨a, b, List.concat_eq_append⟩
            have hw0 := hW.ws w0 (by simp)
            have hw0l := (hW.new w0 c hw0.1 hw0.2).2.1
            have hw0r := (hW.new w0 c hw0.1 hw0.2).2.2
            obtain ⟨a, hrb⟩ : ∃ a, bs[w0]? = some a := ⟨_, List.getElem?_eq_getElem (by rw [hbl, hrev.1]; exact hw0l)⟩
            have hrow := hbr w0 _ hrb
            rw [List.length_append, List.length_singleton] at hbd
            refine ⟨CmI r y M W X g t (hof hs) (.lst (ord.reverse.map VN)) c st H1 (nn hs' + ws'.length), fun σ' H'' z => ⟨_, by rw [List.length_append, List.length_singleton]; omega, z⟩, ?_⟩
            refine ⟨_, rfl, _, rfl, .inl ⟨rfl, _, .of eW⟩, W, _, VN w0, rfl, rfl, eW, by simp, ?_⟩
            rw [show ((ws' ++ [w0]).map VN).dropLast = ws'.map VN by simp]
            generalize hX : upd H9 W _ = H10; have tH10 := mwt eW hX; clear eW; obtain ⟨sH10, eW, kH10⟩ := mw s9 nW1 hX; clear hX
            have eM10 := (kH10 M nWM.symm).trans eM
            have eX10 := (kH10 X nWX.symm).trans eX
            refine ⟨y, _, _, .ref a, rfl, rfl, .of (sH10 _ _ ey), atN hrb, a, rfl, ⟨_, .of (sH10 _ _ hrow)⟩, ?_⟩
            refine for_list (K := K) (a := a) (xs := (Gr.row t w0).map VN) (fun j σ H' => ∃ (hs2 : List (Option Nat)) (ws2 : List Nat) (v6 : Option V), σ = [some (.ref r), some (.ref y), some (.ref M), some (VN c), some (VN st), some (.ref W), v6] ∧ Same H1 H' ∧ H' M = some (.lst (hs2.map hv)) ∧ H' W = some (.lst (ws2.map VN)) ∧ H' X = some (.lst (ord.reverse.map VN)) ∧ hs2.length = g.length ∧ nn hs2 + ws2.length = nn hs' + ws'.length ∧ Bw g t (hof hs) (hof hs2) c st ws2 w0 ((Gr.row t w0).take j))
              ⟨hs', ws', _, rfl, sH10, eM10, eW, eX10, hl', rfl, hW.pop rfl⟩ (fun j σ H' _ ⟨_, _, _, _, z, _⟩ => .of (z _ _ hrow)) ?_ ?_
            · clear sH10 eM10 eW eX10 hl' hW eM eX
              rintro j v σ H11 hj ⟨hs2, ws2, v6, rfl, s11, eM, eW, eX, hl2, hnn, hW⟩
              obtain ⟨x, hx, rfl⟩ := nats_get hj
              have hE : Gr.E t w0 x := List.mem_of_getElem? hx
              have hxg := (hrev.2 x w0).mp hE
              have hxo : hs2[x]? = some hs2[x] := List.getElem?_eq_getElem (by rw [hl2]; exact hxg.2.1)
              generalize hs2[x] = ho at hxo
              refine ⟨_, rfl, _, rfl, M, _, _, hv ho, rfl, rfl, .of eM, atN hxo, _, _, rfl, rfl, _, rfl, ?_⟩
              cases ho with
              | some i' =>
                refine iteB_f (decide_eq_false (by show ¬ ((i' : Int) < 0); omega)) ⟨hs2, ws2, _, rfl, s11, eM, eW, eX, hl2, hnn, ?_⟩
                rw [take_succ' hx]
                exact hW.seen (by rw [hof_some hxo]; simp)
              | none =>
                refine iteB_t (decide_eq_true (by show ((-1 : Int) < 0); decide)) ?_
                refine ⟨_, rfl, _, rfl, _, rfl, M, _, _, x, rfl, rfl, eM, ixN_at (by rw [List.length_map, hl2]; exact hxg.2.1), ?_⟩
                rw [show (hs2.map hv).set x (VN c) = (hs2.set x (some c)).map hv by rw [List.map_set]; rfl]
                generalize hX : upd H11 M _ = H12; have tH12 := mwt eM hX; clear eM; obtain ⟨sH12, eM, kH12⟩ := mw s11 nM1 hX; clear hX
                have eW12 := (kH12 W nWM).trans eW
                have hns := nn_set (c := c) hxo
                refine ⟨_, rfl, .inl ⟨rfl, _, .of eW12⟩, _, rfl, W, _, _, rfl, rfl, eW12, by rw [List.length_map]; exact Nat.lt_of_le_of_lt (show ws2.length ≤ 1000000 by omega) (by decide), ?_⟩
                generalize hX : upd H12 W _ = H13; have tH13 := mwt eW12 hX; clear eW12; obtain ⟨sH13, eW, kH13⟩ := mw sH12 nW1 hX; clear hX
                refine ⟨hs2.set x (some c), ws2 ++ [x], _, rfl, sH13, (kH13 M nWM.symm).trans eM, by rw [eW, List.map_append]; rfl, (kH13 X nWX.symm).trans ((kH12 X nXM).trans eX), by rw [List.length_set]; exact hl2, by rw [List.length_append, List.length_singleton]; omega, ?_⟩
                rw [take_succ' hx]
                exact hW.push (hof_some hxo) hxg.2.1 (.step hxg.1 hw0r) fun y => hof_set (by rw [hl2]; exact hxg.2.1) y
            · rintro σ H11 ⟨hs2, ws2, v6, rfl, s11, eM, eW, eX, hl2, hnn, hW⟩
              rw [List.length_map, List.take_length] at hW
              exact ⟨hs2, ws2, w0, _, hnn.symm, rfl, s11, eM, eW, eX, hl2, by omega, hW⟩
          · have cc : ws = [] := by
              cases ws with
              | nil => rfl
              | cons x l => exact absurd (decide_eq_true (by simp)) cc
            subst cc
            exact ⟨hs', d, _, rfl, s9, eM, eX, hl', hW⟩
        · rintro σ H9 ⟨hs', d, v6, rfl, s9, eM, eX, hl', hW⟩
          refine ⟨_, rfl, _, _, rfl, rfl, ?_⟩
          refine ⟨hs', c + 1, _, _, _, rfl, s9, eM, eX, hl', hC.more ok hfin hB' hof_st hW.old hW.new (hW.fin ok hrev hC hsl rfl), fun b hb => ?_⟩
          rw [take_succ' hst] at hb
          rcases List.mem_append.mp hb with z | z
          · cases e : hof hs b with
            | none => exact absurd e (hbs b z)
            | some i' => rw [hW.old b i' e]; simp
          · rw [List.mem_singleton.mp z, hW.st]; simp
    · rintro σ H6 ⟨hs, c, v4, v5, v6, rfl, s6, eM, eX, hl, hC, hbs⟩
      obtain ⟨h, rfl, hc⟩ := Gr.Cmp.done hC hl fun u hu => hbs u (by
        rw [List.length_map, List.take_length]
        exact List.mem_reverse.mpr ((hfin.all u).mpr hu))
      refine ⟨_, rfl, q H6 M h c (s1.trans s6) (s1.free nM1) ?_ hc⟩
      rw [eM, List.map_map]
      rfl
def nfl : List Bool → Nat
  | [] => 0
  | false :: l => nfl l + 1
  | true :: l => nfl l
theorem nfl_le : ∀ fs : List Bool, nfl fs ≤ fs.length
  | [] => Nat.le_refl 0
  | false :: l => Nat.succ_le_succ (nfl_le l)
  | true :: l => Nat.le_succ_of_le (nfl_le l)
theorem nfl_set : ∀ {fs : List Bool} {u : Nat}, fs[u]? = some false → nfl (fs.set u true) + 1 = nfl fs
  | [], _, h => by simp at h
  | false :: l, 0, _ => rfl
  | true :: l, 0, h => by simp at h
  | false :: l, u + 1, h => by
    have := nfl_set (fs := l) (u := u) (by simpa using h)
    show nfl (l.set u true) + 1 + 1 = nfl l + 1
    omega
  | true :: l, u + 1, h => nfl_set (fs := l) (u := u) (by simpa using h)
/-- found so far: S; still to be followed: ws; of cur the first dn have been followed -/
structure Rw (g : Gr.G) (st : List Nat) (S : Nat → Prop) (ws : List Nat) (cur : Nat) (dn : List Nat) : Prop where
  inn : ∀ u ∈ st, S u
  rc : ∀ u, S u → u < g.length ∧ ∃ s ∈ st, Gr.Rc g s u
  cl : ∀ u, S u → u ∈ ws ∨ (u = cur ∧ ∀ x ∈ dn, S x) ∨ ∀ x ∈ Gr.row g u, S x
  ws : ∀ u ∈ ws, S u
theorem Rw.pop {g : Gr.G} {st : List Nat} {S : Nat → Prop} {ws dn : List Nat} {w d : Nat} (k : Rw g st S (ws ++ [w]) d dn) (hd : dn = Gr.row g d) : Rw g st S ws w [] := by
  refine ⟨k.inn, k.rc, fun u hu => ?_, fun u hu => k.ws u (List.mem_append.mpr (.inl hu))⟩
  rcases k.cl u hu with z | ⟨z, y⟩ | z
  · rcases List.mem_append.mp z with z | z
    · exact .inl z
    · exact .inr (.inl ⟨List.mem_singleton.mp z, by simp⟩)
  · exact .inr (.inr (by rw [z, ← hd]; exact y))
  · exact .inr (.inr z)
theorem Rw.seen {g : Gr.G} {st : List Nat} {S : Nat → Prop} {ws dn : List Nat} {cur x : Nat} (k : Rw g st S ws cur dn) (hx : S x) : Rw g st S ws cur (dn ++ [x]) := by
  refine ⟨k.inn, k.rc, fun u hu => ?_, k.ws⟩
  rcases k.cl u hu with z | ⟨z, y⟩ | z
  · exact .inl z
  · refine .inr (.inl ⟨z, fun y' hy => ?_⟩)
    rcases List.mem_append.mp hy with w | w
    · exact y y' w
    · rw [List.mem_singleton.mp w]; exact hx
  · exact .inr (.inr z)
theorem Rw.push {g : Gr.G} {st : List Nat} {S S' : Nat → Prop} {ws dn : List Nat} {cur x : Nat} (k : Rw g st S ws cur dn) (hc : S cur) (hx : Gr.E g cur x) (hl : x < g.length) (e : ∀ y, S' y ↔ (y = x ∨ S y)) : Rw g st S' (ws ++ [x]) cur (dn ++ [x]) := by
  have up : ∀ y, S y → S' y := fun y h => (e y).mpr (.inr h)
  refine ⟨fun u hu => up u (k.inn u hu), fun u hu => ?_, fun u hu => ?_, fun u hu => ?_⟩
  · rcases (e u).mp hu with rfl | z
    · obtain ⟨_, s, hs, r⟩ := k.rc cur hc
      exact ⟨hl, s, hs, r.snoc hx⟩
    · exact k.rc u z
  · rcases (e u).mp hu with rfl | z
    · exact .inl (by simp)
    · rcases k.cl u z with w | ⟨w, y⟩ | w
      · exact .inl (List.mem_append.mpr (.inl w))
      · refine .inr (.inl ⟨w, fun y' hy => ?_⟩)
        rcases List.mem_append.mp hy with v | v
        · exact up _ (y y' v)
        · rw [List.mem_singleton.mp v]; exact (e x).mpr (.inl rfl)
      · exact .inr (.inr fun y hy => up _ (w y hy))
  · rcases List.mem_append.mp hu with z | z
    · exact up u (k.ws u z)
    · rw [List.mem_singleton.mp z]; exact (e x).mpr (.inl rfl)
theorem Rw.fin {g : Gr.G} {st : List Nat} {S : Nat → Prop} {dn : List Nat} {d : Nat} (k : Rw g st S [] d dn) (hd : dn = Gr.row g d) (u : Nat) : S u ↔ ∃ s ∈ st, Gr.Rc g s u := by
  refine ⟨fun h => (k.rc u h).2, fun ⟨s, hs, r⟩ => Gr.rc_sets (S := S) (fun a b ha e => ?_) r (k.inn s hs)⟩
  rcases k.cl a ha with z | ⟨z, y⟩ | z
  · cases z
  · subst z; subst hd; exact y b e
  · exact z b e
def spRch : Sp := fun vs H Q _ => ∃ (r a : Addr) (g : Gr.G) (st : List Nat), vs = [.ref r, .ref a] ∧ GrL H r g ∧ Gr.Ok g ∧ g.length ≤ 100000 ∧ (H a = some (.lst (st.map VN)) ∨ H a = some (.tup (st.map VN))) ∧ (∀ s ∈ st, s < g.length) ∧ st.length ≤ 1000000 ∧
  ∀ (H' : Hp) (y : Addr) (fs : List Bool), Same H H' → H y = none → H' y = some (.lst (fs.map V.bl)) → Fl g.length (fun u => ∃ s ∈ st, Gr.Rc g s u) fs → Q (.ref y) H'
theorem cal_rch (T : Txt K mg) : C8.Cal P w K mg base 1 "reachable" spRch [] := by
  obtain ⟨f, fd, F, hm, hb⟩ := T.h_reachable
  refine ⟨f, fd, _, [], F.ok sc_reachable (fun vs H Q E h => ?_) (fun cdv A outer s H vs Q E hr h => ?_), hm, F.kp, hb, .nil⟩
  · obtain ⟨r, a, g, st, rfl, _⟩ := h
    rfl
  · obtain ⟨r, a, g, st, rfl, hG, ok, hn, hst, hsl, hsz, q⟩ := h
    refine ⟨_, (pss_cons
      (ps_set (i := 2) sc_reachable.nd rfl (Or.inl rfl) (pe_op op_rep (pe_lst (pa_cons pe_bl pa_nil)) (pe_callB (call_lenK (K := K) rfl) (by rfl) T.z_len PySem.boot_len (pa_cons (pv 0) pa_nil))))
      (pss_cons
      (ps_set (i := 3) sc_reachable.nd rfl (Or.inl rfl) (pe_callTy (call_list_ofK (K := K) rfl) (by rfl) T.z_list (by decide +kernel) (pa_cons (pv 1) pa_nil)))
      (pss_cons
      (ps_for PassesOwn.never rfl (pi_seq (K := K) rfl (pv 1)) (pg_name (i := 4) sc_reachable.nd rfl (.inl rfl)) (pss_one
      (ps_asg pe_bl (pg_sub (pv 2) (pv 4) set_list))))
      (C8.pss_cut
      (ps_while PassesOwn.never (pt_cmpR op_gt (pe_callB (call_lenK (K := K) rfl) (by rfl) T.z_len PySem.boot_len (pa_cons (pv 3) pa_nil)) pe_int (nomark _)) (pss_one
      (ps_for PassesOwn.never rfl (pi_list (pe_ix (ix_listK (K := K) rfl) (pv 0) (pe_bm0 PySem.F.plainAttrs_list PySem.F.slot_list_pop PySem.F.type_list_pop mt_pop (pv 3)) (fun _ _ => rfl))) (pg_name (i := 5) sc_reachable.nd rfl (.inl rfl)) (pss_one
      (ps_if (pt_not (pt_val (pe_ix (ix_listK (K := K) rfl) (pv 2) (pv 5) (fun _ _ => rfl)))) (pss_cons
      (ps_asg pe_bl (pg_sub (pv 2) (pv 5) set_list))
      (pss_one
      (ps_expr (pe_bm PySem.F.plainAttrs_list PySem.F.slot_list_append PySem.F.type_list_append mt_append (pv 3) (pa_cons (pv 5) pa_nil))))) pss_nil)))))
      (pss_one
      (ps_ret (pv 2))))))), ?_⟩
    obtain ⟨as, hr0, hal, ha⟩ := id hG
    refine ⟨by show 1 ≤ sizeLine; decide, fun l nl => ?_⟩
    generalize hX : upd H l _ = H1; obtain ⟨sH1, el⟩ := nw nl hX; clear hX
    refine ⟨_, rfl, r, _, rfl, .inl (.of (sH1 _ _ hr0)), l, _, _, rfl, rfl, el, by omega, by rw [List.length_map]; omega, ?_, fun M nM => ?_⟩
    · rw [List.length_map, hal, Int.toNat_natCast]
      show 1 * g.length ≤ 16777216
      omega
    rw [List.length_map, hal, Int.toNat_natCast, show (List.replicate g.length [V.bl false]).flatten = (List.replicate g.length false).map V.bl by simp]
    have nM0 := sH1.free nM
    generalize hX : upd H1 M _ = H2; obtain ⟨sH2, eM⟩ := nw nM hX; clear hX
    have s2 := sH1.trans sH2
    have hst2 : SeqV H2 a (st.map VN) := by
      rcases hst with h | h
      · exact .inl (s2 _ _ h)
      · exact .inr (s2 _ _ h)
    refine ⟨_, rfl, a, _, rfl, hst2.sq, fun W nW => ?_⟩
    have nW0 := s2.free nW
    have nWM : W ≠ M := fun z => by rw [z, eM] at nW; cases nW
    generalize hX : upd H2 W _ = H3; obtain ⟨sH3, eW⟩ := nw nW hX; clear hX
    have s3 := s2.trans sH3
    have eM3 := sH3 _ _ eM
    have hst3 : SeqV H3 a (st.map VN) := by
      rcases hst with h | h
      · exact .inl (s3 _ _ h)
      · exact .inr (s3 _ _ h)
    clear eM
    -- the starts
    have hstH : SeqV H a (st.map VN) := hst
    refine for_sqB (H0 := H) (i := 1) (a := a) (xs := st.map VN) rfl hstH (fun i σ H' => ∃ (fs : List Bool) (v4 v5 : Option V), σ = [some (.ref r), some (.ref a), some (.ref M), some (.ref W), v4, v5] ∧ Same H H' ∧ H' M = some (.lst (fs.map V.bl)) ∧ H' W = some (.lst (st.map VN)) ∧ Fl g.length (fun u => u ∈ st.take i) fs)
      ⟨_, _, _, rfl, s3, eM3, eW, (Fl.rep _).cong (by simp)⟩ (fun i σ H' ⟨_, _, _, _, z, _⟩ => z) ?_ ?_
    · clear s3 eM3 eW hst2 hst3
      rintro i x σ H4 hx ⟨fs, v4, v5, rfl, s4, eM, eW, hfl⟩
      obtain ⟨u, hu, rfl⟩ := nats_get hx
      have hul := hsl u (List.mem_of_getElem? hu)
      refine ⟨_, rfl, _, rfl, M, _, _, u, rfl, rfl, eM, ixN_at (by rw [List.length_map, hfl.1]; exact hul), ?_⟩
      rw [show (fs.map V.bl).set u (.bl true) = (fs.set u true).map V.bl by rw [List.map_set]]
      generalize hX : upd H4 M _ = H5; have tH5 := mwt eM hX; clear eM; obtain ⟨sH5, eM, kH5⟩ := mw s4 nM0 hX; clear hX
      refine ⟨fs.set u true, _, _, rfl, sH5, eM, (kH5 W nWM).trans eW, hfl.set fun y => ?_⟩
      rw [take_succ' hu]
      simp [or_comm]
    clear s3 eM3 eW hst2 hst3
    rintro σ H4 ⟨fs, v4, v5, rfl, s4, eM, eW, hfl⟩
    rw [List.length_map, List.take_length] at hfl
    refine ⟨fun σ H' => ∃ (fs : List Bool) (v4 v5 : Option V), σ = [some (.ref r), some (.ref a), some (.ref M), some (.ref W), v4, v5] ∧ Same H H' ∧ H' M = some (.lst (fs.map V.bl)) ∧ Fl g.length (fun u => ∃ s ∈ st, Gr.Rc g s u) fs, ?_, ?_⟩
    · refine ⟨fun m σ H' => ∃ (fs : List Bool) (ws : List Nat) (S : Nat → Prop) (d : Nat) (v4 v5 : Option V), m = nfl fs + ws.length ∧ σ = [some (.ref r), some (.ref a), some (.ref M), some (.ref W), v4, v5] ∧ Same H H' ∧ H' M = some (.lst (fs.map V.bl)) ∧ H' W = some (.lst (ws.map VN)) ∧ Fl g.length S fs ∧ nfl fs + ws.length ≤ 1100000 ∧ Rw g st S ws d (Gr.row g d), ⟨_, fs, st, _, 0, _, _, rfl, rfl, s4, eM, eW, hfl, ?_, ⟨fun u hu => hu, fun u hu => ⟨hsl u hu, u, hu, .refl u⟩, fun u hu => .inl hu, fun u hu => hu⟩⟩, ?_⟩
      · have := nfl_le fs
        rw [hfl.1] at this
        omega
      clear s4 eM eW hfl fs
      rintro m σ H5 ⟨fs, ws, S, d, v4, v5, rfl, rfl, s5, eM, eW, hfl, hbd, hR⟩
      refine ⟨_, rfl, W, _, rfl, .inl (.of eW), _, _, rfl, rfl, _, rfl, ite2 (fun cc => ?_) (fun cc => ?_)⟩
      · obtain ⟨ws', w0, rfl⟩ : ∃ ws' x, ws = ws' ++ [x] := by
          rcases List.eq_nil_or_concat ws with rfl | ⟨a, b, rfl⟩
          · exact absurd cc (by decide)
          · exact ⟨a, b, List.concat_eq_append⟩
        have hw0 := hR.ws w0 (by simp)
        have hw0l := (hR.rc w0 hw0).1
        obtain ⟨b, hrb⟩ : ∃ a, as[w0]? = some a := ⟨_, List.getElem?_eq_getElem (by rw [hal]; exact hw0l)⟩
        have hrow := ha w0 _ hrb
        rw [List.length_append, List.length_singleton] at hbd
        refine ⟨_, fun σ' H'' z => ⟨nfl fs + ws'.length, by rw [List.length_append, List.length_singleton]; omega, z⟩, ?_⟩
        refine ⟨_, rfl, _, rfl, .inl ⟨rfl, _, .of eW⟩, W, _, VN w0, rfl, rfl, eW, by simp, ?_⟩
        rw [show ((ws' ++ [w0]).map VN).dropLast = ws'.map VN by simp]
        generalize hX : upd H5 W _ = H6; have tH6 := mwt eW hX; clear eW; obtain ⟨sH6, eW, kH6⟩ := mw s5 nW0 hX; clear hX
        have eM6 := (kH6 M nWM.symm).trans eM
        refine ⟨r, _, _, .ref b, rfl, rfl, .of (sH6 _ _ hr0), atN hrb, b, rfl, ⟨_, .of (sH6 _ _ hrow)⟩, ?_⟩
        refine for_list (K := K) (a := b) (xs := (Gr.row g w0).map VN) (fun j σ H' => ∃ (fs2 : List Bool) (ws2 : List Nat) (S2 : Nat → Prop) (v4 v5 : Option V), σ = [some (.ref r), some (.ref a), some (.ref M), some (.ref W), v4, v5] ∧ Same H H' ∧ H' M = some (.lst (fs2.map V.bl)) ∧ H' W = some (.lst (ws2.map VN)) ∧ Fl g.length S2 fs2 ∧ nfl fs2 + ws2.length = nfl fs + ws'.length ∧ S2 w0 ∧ Rw g st S2 ws2 w0 ((Gr.row g w0).take j))
          ⟨fs, ws', S, _, _, rfl, sH6, eM6, eW, hfl, rfl, hw0, hR.pop rfl⟩ (fun j σ H' _ ⟨_, _, _, _, _, _, z, _⟩ => .of (z _ _ hrow)) ?_ ?_
        · clear sH6 eM6 eW hfl hR hw0 eM
          rintro j v σ H7 hj ⟨fs, ws2, S2, v4, v5, rfl, s7, eM, eW, hfl, hnn, hw0, hR⟩
          obtain ⟨x, hx, rfl⟩ := nats_get hj
          have hxl := ok w0 x (List.mem_of_getElem? hx)
          obtain ⟨b2, hb1, hb2⟩ := hfl.get hxl
          refine ⟨_, rfl, _, rfl, M, _, _, .bl b2, rfl, rfl, .of eM, atN hb1, b2, rfl, ?_⟩
          cases b2 with
          | true =>
            refine iteB_f (c := !true) rfl ⟨fs, ws2, S2, _, _, rfl, s7, eM, eW, hfl, hnn, hw0, ?_⟩
            rw [take_succ' hx]
            exact hR.seen (hb2.mp rfl)
          | false =>
            refine iteB_t (c := !false) rfl ?_
            refine ⟨_, rfl, _, rfl, M, _, _, x, rfl, rfl, eM, ixN_at (by rw [List.length_map, hfl.1]; exact hxl), ?_⟩
            rw [show (fs.map V.bl).set x (.bl true) = (fs.set x true).map V.bl by rw [List.map_set]]
            generalize hX : upd H7 M _ = H8; have tH8 := mwt eM hX; clear eM; obtain ⟨sH8, eM, kH8⟩ := mw s7 nM0 hX; clear hX
            have eW8 := (kH8 W nWM).trans eW
            have hns := nfl_set hb1
            refine ⟨_, rfl, .inl ⟨rfl, _, .of eW8⟩, _, rfl, W, _, _, rfl, rfl, eW8, by rw [List.length_map]; exact Nat.lt_of_le_of_lt (show ws2.length ≤ 1100000 by omega) (by decide), ?_⟩
            generalize hX : upd H8 W _ = H9; have tH9 := mwt eW8 hX; clear eW8; obtain ⟨sH9, eW, kH9⟩ := mw sH8 nW0 hX; clear hX
            refine ⟨fs.set x true, ws2 ++ [x], fun y => y = x ∨ S2 y, _, _, rfl, sH9, (kH9 M nWM.symm).trans eM, by rw [eW, List.map_append]; rfl, hfl.set fun y => Iff.rfl, by rw [List.length_append, List.length_singleton]; omega, .inr hw0, ?_⟩
            rw [take_succ' hx]
            exact hR.push hw0 (List.mem_of_getElem? hx) hxl fun y => Iff.rfl
        · rintro σ H7 ⟨fs, ws2, S2, v4, v5, rfl, s7, eM, eW, hfl, hnn, hw0, hR⟩
          rw [List.length_map, List.take_length] at hR
          exact ⟨fs, ws2, S2, w0, _, _, hnn.symm, rfl, s7, eM, eW, hfl, by omega, hR⟩
      · have cc : ws = [] := by
          cases ws with
          | nil => rfl
          | cons x l => exact absurd (decide_eq_true (by simp)) cc
        subst cc
        exact ⟨fs, _, _, rfl, s5, eM, hfl.cong fun u => (hR.fin rfl u).symm⟩
    · rintro σ H5 ⟨fs, v4, v5, rfl, s5, eM, hfl⟩
      exact ⟨_, rfl, q H5 M fs s5 nM0 eM hfl⟩
theorem lc_seq {K : PySem.W.Frag} {i : Nat} {a : Addr} {xs : List V} {g : TG} {tt : TT} {te : TE} {vs : List Nat} {σ : L2.St} {H : Hp} {Q : VK} (hv : σ[i]? = some (some (.ref a))) (hq : SeqV H a xs) (Pv : Addr → Nat → Hp → Prop) (h0 : ∀ D, H D = none → Pv D 0 (upd H D (.lst [])))
    (hS : ∀ D j H', H D = none → Pv D j H' → Same H H')
    (hs : ∀ D, H D = none → ∀ i x H', xs[i]? = some x → Pv D i H' → g x (wipe σ vs) H' fun σ2 H2 => wipe σ2 vs = wipe σ vs ∧ tt σ2 H2 fun b H3 => if b = true then te σ2 H3 fun y H4 => ∃ acc, H4 D = some (.lst acc) ∧ acc.length < sizeLine ∧ Pv D (i + 1) (upd H4 D (.lst (acc ++ [y]))) else Pv D (i + 1) H3)
    (hd : ∀ D H', H D = none → Pv D xs.length H' → Q (.ref D) H') : tLc (iSeq K (tVar i)) g tt te vs σ H Q := by
  rcases hq with h | h
  · exact .inl ⟨_, hv, a, rfl, ⟨_, .of h⟩, fun D hD => lc_list (Pv D) (h0 D hD) (fun i H' _ p => .of (hS D i H' hD p _ _ h)) (hs D hD) (fun H' p => hd D H' hD p)⟩
  · exact .inr ⟨_, hv, a, rfl, ⟨_, .of h⟩, fun D hD => lc_tup (Pv D) (h0 D hD) (fun i H' _ p => .of (hS D i H' hD p _ _ h)) (hs D hD) (fun H' p => hd D H' hD p)⟩
theorem rowsUpd {H : Hp} {x : Addr} {o : HO} (hx : ∀ ys, H x ≠ some (.tup ys)) : ∀ {as : List Addr} {rs : List (List Int)}, RowsA .tup H as rs → RowsA .tup (upd H x o) as rs
  | [], [], _ => True.intro
  | a :: as, r :: rs, h => ⟨by
      have h1 := h.1
      rw [upd_ne (fun z => by rw [z] at h1; exact hx _ h1)]
      exact h1, rowsUpd hx h.2⟩
  | [], _ :: _, h => h.elim
  | _ :: _, [], h => h.elim
theorem refs_get {as : List Addr} {i : Nat} {v : V} (h : (as.map V.ref)[i]? = some v) : ∃ a, as[i]? = some a ∧ v = .ref a := by
  rw [List.getElem?_map] at h
  cases e : as[i]? with
  | none => rw [e] at h; cases h
  | some z => rw [e] at h; exact ⟨z, rfl, (Option.some.inj h).symm⟩
theorem ints_get {xs : List Int} {i : Nat} {v : V} (h : (xs.map V.int)[i]? = some v) : ∃ x, xs[i]? = some x ∧ v = .int x := by
  rw [List.getElem?_map] at h
  cases e : xs[i]? with
  | none => rw [e] at h; cases h
  | some z => rw [e] at h; exact ⟨z, rfl, (Option.some.inj h).symm⟩
theorem take_get {α : Type} {xs : List α} {i : Nat} {x : α} (h : xs[i]? = some x) : xs.take (i + 1) = xs.take i ++ [x] := by
  rw [List.take_add_one, h]
  rfl
theorem pl_next {f : Str} {v : V} {fs : List (Str × V)} {n : Nat} (h : fs.length ≤ n) : (putF f v fs).length ≤ n + 1 := Nat.le_trans (putF_len f v fs) (Nat.succ_le_succ h)
theorem pl_lt {fs : List (Str × V)} {n : Nat} (h : fs.length ≤ n) (k : n < 1000) : fs.length < 1000 := Nat.lt_of_le_of_lt h k
theorem pl_0 : ([] : List (Str × V)).length ≤ 0 := Nat.le_refl _
theorem fld_def {Kf : PySem.W.Frag} {ta tv : TE} {f : Str} {D : Ends} {σ : L2.St} {H : Hp} (h : tv σ H fun y H1 => ta σ H1 fun x H2 => ∃ a C dx fs, x = .ref a ∧ H2 a = some (.ins C dx fs) ∧ Cls Kf C ∧ NoAttr Kf C f ∧ fs.length < 1000 ∧ D.nx σ (upd H2 a (.ins C dx (putF f y fs)))) : sFld Kf ta tv f D σ H := h
theorem cb1_def {r : List V → Hp → VK → Prop} {te : TE} {σ : L2.St} {H : Hp} {Q : VK} (h : te σ H fun v H1 => r [v] H1 Q) : tCB r (tCons te tNil) σ H Q := h
theorem rows_some {mk : List V → HO} {H : Hp} : ∀ {as : List Addr} {rs : List (List Int)} {a : Addr}, RowsA mk H as rs → a ∈ as → ∃ o, H a = some o
  | [], _, _, _, h => by simp at h
  | b :: as, [], _, h, _ => h.elim
  | b :: as, r :: rs, a, h, m => by
    rcases List.mem_cons.mp m with z | z
    · rw [z]
      exact ⟨_, h.1⟩
    · exact rows_some h.2 z
theorem LL.same {H H' : Hp} {r : Addr} {as : List Addr} {rows : List (List Int)} (k : Same H H') (h : LL H r as rows) : LL H' r as rows := ⟨k _ _ h.1, h.2.same k⟩
def spChkMoves (cI : Addr) : Sp := fun vs H Q E => ∃ (a : Addr) (xs : List Int) (n : Int), vs = [.ref a, .int n] ∧ H a = some (.lst (xs.map V.int)) ∧ (¬ (xs ≠ [] ∧ Asc n xs) → E (.ref cI) none H) ∧ (xs ≠ [] → Asc n xs → Q .non H)
theorem cal_chkmoves {cI : Addr} (T : Txt K mg) (eI : ErrC K mg "InvalidGame" cI) : CalX P w K mg base 1 "check_moves" (spChkMoves cI) := by
  obtain ⟨f, fd, F, hm, hb⟩ := T.h_check_moves
  refine ⟨f, fd, _, F.okX sc_check_moves (fun vs H Q E h => ?_) (fun cdv A outer s H vs Q E hr h => ?_), hm, F.kp, hb⟩
  · obtain ⟨a, xs, n, rfl, _⟩ := h
    rfl
  · obtain ⟨a, xs, n, rfl, ha, q1, q2⟩ := h
    refine ⟨_, (pss_cons
      (ps_if (pt_cmpR op_eq (pe_callB (call_lenK (K := K) rfl) (by rfl) T.z_len PySem.boot_len (pa_cons (pv 0) pa_nil)) pe_int (nomark _)) (pss_one
      (ps_raise rfl (takes_of rfl rfl rfl rfl) (eI.made rfl))) pss_nil)
      (pss_cons
      (ps_set (i := 2) sc_check_moves.nd rfl (Or.inl rfl) (pe_un un_neg pe_int))
      (pss_one
      (ps_for (passes_of rfl) rfl (pi_list (pv 0)) (pg_name (i := 3) sc_check_moves.nd rfl (.inl rfl)) (pss_cons
      (ps_if (PW.pt (pw_or (pt_cmpR op_le (pv 3) (pv 2) (nomark _)) (pw_or1 (pt_cmpR op_ge (pv 3) (pv 1) (nomark _))))) (pss_one
      (ps_raise rfl (takes_of rfl rfl rfl rfl) (eI.made rfl))) pss_nil)
      (pss_one
      (ps_set (i := 2) sc_check_moves.nd rfl (Or.inl rfl) (pv 3)))))))), ?_⟩
    refine ⟨_, rfl, a, _, rfl, .inl (.of ha), rfl, _, rfl, ite_eq (fun c => q1 fun v => v.1 (List.length_eq_zero_iff.mp (by rw [List.length_map] at c; omega))) (fun c0 => ?_)⟩
    have hne : xs ≠ [] := fun z => c0 (by rw [z]; rfl)
    refine ⟨_, rfl, ?_⟩
    refine ⟨_, rfl, a, rfl, ⟨_, .of ha⟩, for_list (K := K) (a := a) (xs := xs.map V.int) (fun i σ H' => ∃ (b : Int) (v : Option V), σ = [some (.ref a), some (.int n), some (.int b), v] ∧ H' = H ∧ Asc n (xs.take i) ∧ -1 ≤ b ∧ (∀ x ∈ xs.take i, x ≤ b) ∧ (b = -1 ∨ b ∈ xs.take i))
      ⟨-1, none, rfl, rfl, ⟨by simp, by simp⟩, by omega, by simp, .inl rfl⟩ (fun i σ H' _ ⟨_, _, _, z, _⟩ => by rw [z]; exact .of ha) ?_ ?_⟩
    · rintro i y σ H' hi ⟨b, v, rfl, rfl, hA, hb1, hle, hor⟩
      obtain ⟨z, hz, rfl⟩ := ints_get hi
      have cutE : xs = xs.take i ++ z :: xs.drop (i + 1) := by
        conv => lhs; rw [← List.take_append_drop i xs]
        congr 1
        exact List.drop_eq_getElem?_toList_append.trans (by rw [hz]; rfl)
      refine ⟨_, rfl, _, rfl, _, _, rfl, rfl, _, rfl, ite2 (fun c => ?_) (fun c => ?_)⟩
      · have c := of_decide_eq_true c
        refine q1 fun ⟨_, hasc⟩ => ?_
        have hz0 := (hasc.2 z (List.mem_of_getElem? hz)).1
        rcases hor with u | u
        · omega
        · have hp := hasc.1
          rw [cutE] at hp
          have := (List.pairwise_append.mp hp).2.2 b u z List.mem_cons_self
          omega
      have c1 : ¬ z ≤ b := fun u => c (decide_eq_true u)
      refine ⟨_, rfl, _, rfl, _, _, rfl, rfl, _, rfl, ite2 (fun c => ?_) (fun c => ?_)⟩
      · have c := of_decide_eq_true c
        refine q1 fun ⟨_, hasc⟩ => ?_
        have := (hasc.2 z (List.mem_of_getElem? hz)).2
        omega
      have c2 : ¬ n ≤ z := fun u => c (decide_eq_true u)
      refine ⟨_, rfl, z, _, rfl, rfl, ⟨?_, fun x hx => ?_⟩, by omega, fun x hx => ?_, .inr (by rw [take_get hz]; simp)⟩
      · rw [take_get hz]
        refine List.pairwise_append.mpr ⟨hA.1, by simp, fun x hx y hy => ?_⟩
        rw [List.mem_singleton.mp hy]
        have := hle x hx
        omega
      · rw [take_get hz] at hx
        rcases List.mem_append.mp hx with u | u
        · exact hA.2 x u
        · rw [List.mem_singleton.mp u]
          omega
      · rw [take_get hz] at hx
        rcases List.mem_append.mp hx with u | u
        · have := hle x u
          omega
        · rw [List.mem_singleton.mp u]
          exact Int.le_refl _
    · rintro σ H' ⟨b, v, rfl, rfl, hA, _⟩
      rw [List.length_map, List.take_length] at hA
      exact q2 hne hA
def spInitG (C cI : Addr) : Sp := fun vs H Q E => ∃ (x o p r dx : Addr) (ow ps : List Int) (as : List Addr) (c : List (List Int)), vs = [.ref x, .ref o, .ref p, .ref r] ∧ H x = some (.ins C dx []) ∧ H o = some (.lst (ow.map V.int)) ∧ H p = some (.lst (ps.map V.int)) ∧ LL H r as c ∧
  ow.length ≤ 1000 ∧ ps.length ≤ 1000 ∧ c.length ≤ 1000 ∧ (∀ r ∈ c, r.length ≤ 1000) ∧ (¬ Vg ow ps c → E (.ref cI) none H) ∧ (Vg ow ps c → ∀ H', Kp x H H' → GmeAt C H' x ow ps c → Q .non H')
theorem ok_initG {cI C fI : Addr} {fdI : FuncData} (T : Txt K mg) (eI : ErrC K mg "InvalidGame" cI) (PC : GmeC K C) (F : L2.Fun K "__init__" "Game.__init__" s_Game_init fI fdI) :
    FnOk P w K mg base (L2.CX P w) 2 fI fdI ["self", "owners", "priorities", "moves"] (spInitG C cI) := by
  have X_check_moves : CalX P w K mg base 1 "check_moves" (spChkMoves cI) := cal_chkmoves T eI
  refine F.okX sc_Game_init (fun vs H Q E h => ?_) (fun cdv A outer s H vs Q E hr h => ?_)
  · obtain ⟨x, o, p, r, dx, ow, ps, as, c, rfl, _⟩ := h
    rfl
  · obtain ⟨x, o, p, r, dx, ow, ps, as, c, rfl, hx, ho, hp, hL, l1, l2, l3, l4, q1, q2⟩ := h
    refine ⟨_, (pss_cons
      (ps_if (pt_cmpR op_eq (pe_callB (call_lenK (K := K) rfl) (by rfl) T.z_len PySem.boot_len (pa_cons (pv 3) pa_nil)) pe_int (nomark _)) (pss_one
      (ps_raise rfl (takes_of rfl rfl rfl rfl) (eI.made rfl))) pss_nil)
      (pss_cons
      (ps_if (PW.pt (pw_or (pt_cmpR op_ne (pe_callB (call_lenK (K := K) rfl) (by rfl) T.z_len PySem.boot_len (pa_cons (pv 1) pa_nil)) (pe_callB (call_lenK (K := K) rfl) (by rfl) T.z_len PySem.boot_len (pa_cons (pv 3) pa_nil)) (nomark _)) (pw_or1 (pt_cmpR op_ne (pe_callB (call_lenK (K := K) rfl) (by rfl) T.z_len PySem.boot_len (pa_cons (pv 2) pa_nil)) (pe_callB (call_lenK (K := K) rfl) (by rfl) T.z_len PySem.boot_len (pa_cons (pv 3) pa_nil)) (nomark _))))) (pss_one
      (ps_raise rfl (takes_of rfl rfl rfl rfl) (eI.made rfl))) pss_nil)
      (pss_cons
      (ps_if (PW.pt (pw_or (pt_cmpR op_lt (pe_callB (call_minK (K := K) rfl rfl) (by rfl) T.z_min (by decide +kernel) (pa_cons (pv 1) pa_nil)) pe_int (nomark _)) (pw_or1 (pt_cmpR op_gt (pe_callB (call_maxK (K := K) rfl rfl) (by rfl) T.z_max (by decide +kernel) (pa_cons (pv 1) pa_nil)) pe_int (nomark _))))) (pss_one
      (ps_raise rfl (takes_of rfl rfl rfl rfl) (eI.made rfl))) pss_nil)
      (pss_cons
      (ps_if (pt_cmpR op_lt (pe_callB (call_minK (K := K) rfl rfl) (by rfl) T.z_min (by decide +kernel) (pa_cons (pv 2) pa_nil)) pe_int (nomark _)) (pss_one
      (ps_raise rfl (takes_of rfl rfl rfl rfl) (eI.made rfl))) pss_nil)
      (pss_cons
      (ps_for (passes_of rfl) rfl (pi_list (pv 3)) (pg_name (i := 4) sc_Game_init.nd rfl (.inl rfl)) (pss_one
      (ps_expr (pe_cx X_check_moves hr (by decide) (takes_of rfl rfl rfl rfl) (by rfl) (pa_cons (pv 4) (pa_cons (pe_callB (call_lenK (K := K) rfl) (by rfl) T.z_len PySem.boot_len (pa_cons (pv 3) pa_nil)) pa_nil))))))
      (pss_cons
      (ps_fld (pv 0) (pe_callTy (call_tuple_ofK (K := K) rfl) (by rfl) T.z_tuple (by decide +kernel) (pa_cons (pv 1) pa_nil)) rfl)
      (pss_cons
      (ps_fld (pv 0) (pe_callTy (call_tuple_ofK (K := K) rfl) (by rfl) T.z_tuple (by decide +kernel) (pa_cons (pv 2) pa_nil)) rfl)
      (pss_one
      (ps_fld (pv 0) (pe_callTy (call_tuple_ofK (K := K) rfl) (by rfl) T.z_tuple (by decide +kernel) (pa_cons (pe_lc (own := [("targets", 4)]) (g := gName 4) (tt := tYes) rfl sc_Game_init.nd (pi_list (pv 3)) (blkOk_by (N := N_Game_init) (sc := defScope s_Game_init) (by decide +kernel)) (fun _ _ _ _ _ => (pg_name (i := 4) sc_Game_init.nd rfl (Or.inl rfl))) (fun _ _ _ _ _ => pts_nil) (fun _ _ _ _ _ => (pe_callTy (call_tuple_ofK (K := K) rfl) (by rfl) T.z_tuple (by decide +kernel) (pa_cons (pv 4) pa_nil)))) pa_nil)) rfl))))))))), ?_⟩
    have hlen : as.length = c.length := hL.2.len
    have hl2 : (as.map V.ref).length = c.length := by rw [List.length_map, hlen]
    refine ⟨_, rfl, r, _, rfl, .inl (.of hL.1), rfl, _, rfl, ite_eq (fun k => ?_) (fun c0 => ?_)⟩
    · exact q1 fun v => v.ne (List.length_eq_zero_iff.mp (by omega))
    have hne : c ≠ [] := fun z => c0 (by rw [hl2, z]; rfl)
    have hcp := List.length_pos_iff.mpr hne
    refine ⟨_, rfl, o, _, rfl, .inl (.of ho), _, rfl, r, _, rfl, .inl (.of hL.1), rfl, _, rfl, ite_ne (fun k => ?_) (fun c1 => ?_)⟩
    · exact q1 fun v => k (by rw [hl2, List.length_map, v.lo])
    rw [hl2, List.length_map] at c1
    refine ⟨_, rfl, p, _, rfl, .inl (.of hp), _, rfl, r, _, rfl, .inl (.of hL.1), rfl, _, rfl, ite_ne (fun k => ?_) (fun c2 => ?_)⟩
    · exact q1 fun v => k (by rw [hl2, List.length_map, v.lp])
    rw [hl2, List.length_map] at c2
    refine ⟨_, rfl, o, ow, rfl, .of ho, by omega, fun m hm hmin => ⟨_, _, rfl, rfl, _, rfl, ite_lt (fun k => ?_) (fun c3 => ?_)⟩⟩
    · exact q1 fun v => by have := (v.ow1 m hm).1; omega
    refine ⟨_, rfl, o, ow, rfl, .of ho, by omega, fun M hM hmax => ⟨_, _, rfl, rfl, _, rfl, ite_lt (fun k => ?_) (fun c4 => ?_)⟩⟩
    · exact q1 fun v => by have := (v.ow1 M hM).2; omega
    refine ⟨_, rfl, p, ps, rfl, .of hp, by omega, fun m2 hm2 hmin2 => ⟨_, _, rfl, rfl, _, rfl, ite_lt (fun k => ?_) (fun c5 => ?_)⟩⟩
    · exact q1 fun v => by have := v.pr m2 hm2; omega
    refine ⟨_, rfl, r, rfl, ⟨_, .of hL.1⟩, for_list (K := K) (a := r) (xs := as.map V.ref) (fun i σ' H' => ∃ v4 : Option V, σ' = [some (.ref x), some (.ref o), some (.ref p), some (.ref r), v4] ∧ H' = H ∧ ∀ q ∈ c.take i, q ≠ [] ∧ Asc (c.length : Int) q)
      ⟨_, rfl, rfl, by simp⟩ (fun i σ' H' _ ⟨_, _, z, _⟩ => by rw [z]; exact .of hL.1) ?_ ?_⟩
    · rintro i v σ' H' hi ⟨v4, rfl, rfl, hall⟩
      obtain ⟨a, ha, rfl⟩ := refs_get hi
      obtain ⟨row, hrow, hra⟩ := hL.2.get ha
      refine ⟨_, rfl, _, rfl, r, _, rfl, .inl (.of hL.1), a, row, _, rfl, hra, fun k => ?_, fun k1 k2 => ?_⟩
      · exact q1 fun v => k (by rw [hl2]; exact v.mv row (List.mem_of_getElem? hrow))
      · rw [hl2] at k2
        refine ⟨_, rfl, rfl, fun z hz => ?_⟩
        rw [take_get hrow] at hz
        rcases List.mem_append.mp hz with y | y
        · exact hall z y
        · rw [List.mem_singleton.mp y]
          exact ⟨k1, k2⟩
    · rintro σ' H' ⟨v4, rfl, rfl, hall⟩
      rw [hl2, List.take_length] at hall
      have hv : Vg ow ps c := ⟨hne, by omega, by omega, fun z hz => ⟨by have := hmin z hz; omega, by have := hmax z hz; omega⟩, fun z hz => by have := hmin2 z hz; omega, hall⟩
      have nox : o ≠ x := fun z => by rw [z, hx] at ho; cases ho
      have npx : p ≠ x := fun z => by rw [z, hx] at hp; cases hp
      have nrx : r ≠ x := fun z => by have := hL.1; rw [z, hx] at this; cases this
      -- self.owners
      refine ⟨_, rfl, o, _, rfl, .inl ⟨.of ho, fun ot hot => ?_⟩⟩
      have nxo : x ≠ ot := fun z => by rw [z, hot] at hx; cases hx
      refine ⟨_, rfl, x, C, dx, _, rfl, by rw [upd_ne nxo]; exact hx, PC.cl, PC.no, by decide, ?_⟩
      have k2 : Kp x H' (upd (upd H' ot (.tup (ow.map V.int))) x (.ins C dx (putF "owners" (.ref ot) []))) := (Kp.new hot).trans Kp.own
      have x2 : (upd (upd H' ot (.tup (ow.map V.int))) x (.ins C dx (putF "owners" (.ref ot) []))) x = some (.ins C dx (putF "owners" (.ref ot) [])) := upd_same
      have t2 : TupI (upd (upd H' ot (.tup (ow.map V.int))) x (.ins C dx (putF "owners" (.ref ot) []))) ot ow := by
        show _ = _
        rw [upd_ne nxo.symm, upd_same]
      generalize upd (upd H' ot (.tup (ow.map V.int))) x (.ins C dx (putF "owners" (.ref ot) [])) = H2 at k2 x2 t2 ⊢
      -- self.priorities
      refine ⟨_, rfl, p, _, rfl, .inl ⟨.of (k2 _ _ npx hp), fun pt hpt => ?_⟩⟩
      have nxp : x ≠ pt := fun z => by rw [z, hpt] at x2; cases x2
      have nop : ot ≠ pt := fun z => by rw [z] at t2; rw [TupI, hpt] at t2; cases t2
      refine ⟨_, rfl, x, C, dx, _, rfl, by rw [upd_ne nxp]; exact x2, PC.cl, PC.np, pl_lt (pl_next pl_0) (by decide), ?_⟩
      have k3 : Kp x H2 (upd (upd H2 pt (.tup (ps.map V.int))) x (.ins C dx (putF "priorities" (.ref pt) (putF "owners" (.ref ot) [])))) := (Kp.new hpt).trans Kp.own
      have x3 : (upd (upd H2 pt (.tup (ps.map V.int))) x (.ins C dx (putF "priorities" (.ref pt) (putF "owners" (.ref ot) [])))) x = some (.ins C dx (putF "priorities" (.ref pt) (putF "owners" (.ref ot) []))) := upd_same
      have t3 : TupI (upd (upd H2 pt (.tup (ps.map V.int))) x (.ins C dx (putF "priorities" (.ref pt) (putF "owners" (.ref ot) [])))) pt ps := by
        show _ = _
        rw [upd_ne nxp.symm, upd_same]
      have t2' : TupI (upd (upd H2 pt (.tup (ps.map V.int))) x (.ins C dx (putF "priorities" (.ref pt) (putF "owners" (.ref ot) [])))) ot ow := by
        show _ = _
        rw [upd_ne nxo.symm, upd_ne nop]
        exact t2
      generalize upd (upd H2 pt (.tup (ps.map V.int))) x (.ins C dx (putF "priorities" (.ref pt) (putF "owners" (.ref ot) []))) = H3 at k3 x3 t3 t2' ⊢
      have k03 : Kp x H' H3 := k2.trans k3
      have hr3 : H3 r = some (.lst (as.map V.ref)) := k03 _ _ nrx hL.1
      have q3 : ∀ {b : Addr} {xs : List Int}, H' b = some (.lst (xs.map V.int)) → H3 b = some (.lst (xs.map V.int)) := fun {b xs} h => k03 _ _ (fun z => by rw [z, hx] at h; cases h) h
      -- self.moves
      dsimp only
      refine fld_def (cb1_def ?_)
      refine ⟨_, rfl, r, rfl, ⟨_, .of hr3⟩, fun D hD => lc_list (K := K) (a := r) (xs := as.map V.ref) (fun i H4 => ∃ bs : List Addr, Same H3 H4 ∧ H4 D = some (.lst (bs.map V.ref)) ∧ RowsA .tup H4 bs (c.take i))
        ⟨[], same_new hD, upd_same, True.intro⟩ (fun i H4 _ ⟨_, z, _⟩ => .of (z _ _ hr3)) ?_ ?_⟩
      · rintro i v H4 hi ⟨bs, s4, e4, R4⟩
        obtain ⟨a, ha, rfl⟩ := refs_get hi
        obtain ⟨row, hrow, sr⟩ := hL.2.get ha
        have hil : i < c.length := (List.getElem?_eq_some_iff.mp hrow).1
        refine ⟨rfl, _, rfl, ?_⟩
        dsimp only [tNil]
        refine tupq (.inl (s4 _ _ (q3 sr))) fun H5 t s5 t5 => ?_
        have bl : bs.length ≤ i := by
          have := R4.len
          rw [List.length_take] at this
          omega
        refine ⟨_, s5 _ _ e4, by rw [List.length_map]; exact Nat.lt_of_le_of_lt (show bs.length ≤ 1000 by omega) (by decide), bs ++ [t], ?_, ?_, ?_⟩
        · intro b o hb
          rw [upd_ne (ne_of_none hb hD)]
          exact s5 _ _ (s4 _ _ hb)
        · rw [upd_same, List.map_append]
          rfl
        · rw [take_get hrow]
          have nt : ∀ ys, H5 D ≠ some (.tup ys) := fun ys z => by rw [s5 _ _ e4] at z; cases z
          refine RowsA.snoc ?_ (rowsUpd nt (R4.same s5))
          rw [upd_ne (fun z => by rw [z] at t5; exact nt _ t5)]
          exact t5
      · rintro H4 ⟨bs, s4, e4, R4⟩
        rw [hl2, List.take_length] at R4
        refine ⟨D, _, rfl, .inl ⟨.of e4, fun rt hrt => ?_⟩⟩
        have nxr : x ≠ rt := fun z => by
          have y := s4 _ _ x3
          rw [z, hrt] at y
          cases y
        have npr : pt ≠ rt := fun z => by
          have y := s4 _ _ t3
          rw [z, hrt] at y
          cases y
        have nor : ot ≠ rt := fun z => by
          have y := s4 _ _ t2'
          rw [z, hrt] at y
          cases y
        have x4 : (upd H4 rt (.tup (bs.map V.ref))) x = some (.ins C dx (putF "priorities" (.ref pt) (putF "owners" (.ref ot) []))) := by
          rw [upd_ne nxr]
          exact s4 _ _ x3
        refine ⟨_, rfl, x, C, dx, _, rfl, x4, PC.cl, PC.nm, pl_lt (pl_next (pl_next pl_0)) (by decide), q2 hv _ ?_ ⟨dx, ot, pt, rt, bs, upd_same, ?_, ?_, ?_, ?_⟩⟩
        · intro b o nb hb
          rw [upd_ne nb, upd_ne (fun z => by have y := s4 _ _ (k03 _ _ nb hb); rw [z, hrt] at y; cases y)]
          exact s4 _ _ (k03 _ _ nb hb)
        · show _ = _
          rw [upd_ne nxo.symm, upd_ne nor]
          exact s4 _ _ t2'
        · show _ = _
          rw [upd_ne nxp.symm, upd_ne npr]
          exact s4 _ _ t3
        · rw [upd_ne nxr.symm, upd_same]
        · exact rowsUpd (fun ys z => by rw [x4] at z; cases z) (R4.same (same_new hrt))
def spChkPos (C cL : Addr) : Sp := fun vs H Q E => ∃ (x : Addr) (z : Int) (ow ps : List Int) (c : List (List Int)), vs = [.ref x, .int z] ∧ GmeAt C H x ow ps c ∧ (¬ (0 ≤ z ∧ z < (c.length : Int)) → E (.ref cL) none H) ∧ (0 ≤ z → z < (c.length : Int) → Q .non H)
theorem cal_chkpos {C cL : Addr} (T : Txt K mg) (eL : ErrC K mg "InvalidPosition" cL) (PC : GmeC K C) : CalX P w K mg base 1 "check_position" (spChkPos C cL) := by
  obtain ⟨f, fd, F, hm, hb⟩ := T.h_check_position
  refine ⟨f, fd, _, F.okX sc_check_position (fun vs H Q E h => ?_) (fun cdv A outer s H vs Q E hr h => ?_), hm, F.kp, hb⟩
  · obtain ⟨x, z, ow, ps, c, rfl, _⟩ := h
    rfl
  · obtain ⟨x, z, ow, ps, c, rfl, ⟨dx, ot, pt, rt, as, e1, e2, e3, e4, e5⟩, q1, q2⟩ := h
    refine ⟨_, (pss_one
      (ps_if (PW.pt (pw_or (pt_cmpR op_lt (pv 1) pe_int (nomark _)) (pw_or1 (pt_cmpR op_ge (pv 1) (pe_callB (call_lenK (K := K) rfl) (by rfl) T.z_len PySem.boot_len (pa_cons (pe_fld (pv 0) rfl) pa_nil)) (nomark _))))) (pss_one
      (ps_raise rfl (takes_of rfl rfl rfl rfl) (eL.made rfl))) pss_nil)), ?_⟩
    have hl2 : (as.map V.ref).length = c.length := by rw [List.length_map, e5.len]
    refine ⟨_, rfl, _, _, rfl, rfl, _, rfl, ite2 (fun k => q1 (fun v => by have := of_decide_eq_true k; omega)) (fun k => ?_)⟩
    have k1 : ¬ z < 0 := fun y => k (decide_eq_true y)
    refine ⟨_, rfl, _, rfl, x, C, dx, _, _, rfl, e1, PC.cl, PC.nm, gf_m _ _ _, rt, _, rfl, .inr (.of e4), _, _, rfl, rfl, _, rfl, ite2 (fun k => q1 (fun v => by have := of_decide_eq_true k; rw [hl2] at this; omega)) (fun k => ?_)⟩
    have k2 : ¬ (((as.map V.ref).length : Nat) : Int) ≤ z := fun y => k (decide_eq_true y)
    rw [hl2] at k2
    exact q2 (by omega) (by omega)
theorem RowsA.drop {H : Hp} {D : Addr} {o : HO} {as : List Addr} {rs : List (List Int)} (n : D ∉ as) (h : RowsA .lst H as rs) : RowsA .lst (upd H D o) as rs := h.keep fun b _ hb e => by rw [upd_ne (fun z => n (by rw [← z]; exact hb))]; exact e
theorem rows_upd {q : List Int} : ∀ {H : Hp} {as : List Addr} {rows : List (List Int)} {i : Nat} {a : Addr}, RowsA .lst H as rows → as.Nodup → as[i]? = some a → RowsA .lst (upd H a (.lst (q.map V.int))) as (rows.set i q)
  | _, [], _, _, _, _, _, e => by simp at e
  | _, b :: as, [], _, _, h, _, _ => h.elim
  | H, b :: as, r :: rs, 0, a, h, nd, e => by
    have : b = a := Option.some.inj e
    subst this
    exact ⟨upd_same, My.RowsA.drop (List.nodup_cons.mp nd).1 h.2⟩
  | H, b :: as, r :: rs, i + 1, a, h, nd, e => by
    have e2 : as[i]? = some a := e
    refine ⟨?_, rows_upd h.2 (List.nodup_cons.mp nd).2 e2⟩
    rw [upd_ne (fun z => (List.nodup_cons.mp nd).1 (by rw [z]; exact List.mem_of_getElem? e2))]
    exact h.1
theorem cal_take (T : Txt K mg) : C8.Cal P w K mg base 1 "_law_take" spTake [] := by
  obtain ⟨f, fd, F, hm, hb⟩ := T.h_law_take
  refine ⟨f, fd, _, [], F.ok sc_law_take (fun vs H Q E h => ?_) (fun cdv A outer s H vs Q E hr h => ?_), hm, F.kp, hb, .nil⟩
  · obtain ⟨d, n, rfl, _⟩ := h
    rfl
  · obtain ⟨d, n, rfl, ⟨ds, hd⟩, hn, q⟩ := h
    refine ⟨_, (pss_cons
      (ps_if (pt_cmpR op_eq (pe_callB (call_lenK (K := K) rfl) (by rfl) T.z_len PySem.boot_len (pa_cons (pv 0) pa_nil)) pe_int (nomark _)) (pss_one
      (ps_ret pe_int)) pss_nil)
      (pss_one
      (ps_ret (pe_op op_mod (pe_callTy call_int1 (by rfl) T.z_int (by decide +kernel) (pa_cons (pe_bm0 PySem.F.plainAttrs_list PySem.F.slot_list_pop PySem.F.type_list_pop mt_pop (pv 0)) pa_nil)) (pv 1))))), ?_⟩
    walk_at "bx"
    refine ite2 (fun e => ?_) (fun e => ?_)
    · have q0 := q 0 ds (Int.le_refl 0) hn
      rw [upd_self hd] at q0
      exact q0
    · have hne : ds ≠ [] := fun z => e (by rw [z]; rfl)
      refine ⟨_, rfl, .inl ⟨rfl, _, SqL.of hd⟩, d, _, .int (ds.getLast hne), rfl, rfl, hd, ?_, ?_⟩
      · rw [List.length_map, List.getElem?_map, ← List.getLast?_eq_getElem?, List.getLast?_eq_getLast hne]
        rfl
      · walk_at "bx"
        rw [← List.map_dropLast]
        exact q _ _ (Int.emod_nonneg _ (by omega)) (Int.emod_lt_of_pos _ hn)
theorem cal_draws (T : Txt K mg) : C8.Cal P w K mg base 1 "_law_draws" (spDraws K) [] := by
  obtain ⟨f, fd, F, hm, hb⟩ := T.h_law_draws
  refine ⟨f, fd, _, [], F.ok sc_law_draws (fun vs H Q E h => ?_) (fun cdv A outer s H vs Q E hr h => ?_), hm, F.kp, hb, .nil⟩
  · obtain ⟨a, ns, c, rfl, _⟩ := h
    rfl
  · obtain ⟨a, ns, n, rfl, hS, hn, q⟩ := h
    refine ⟨_, (pss_cons
      (ps_set (i := 2) sc_law_draws.nd rfl (Or.inl rfl) (pe_callTy (call_list_ofK (K := K) rfl) (by rfl) T.z_list (by decide +kernel) (pa_cons (pv 0) pa_nil)))
      (C8.pss_cut
      (ps_if (pt_cmpR op_eq (pe_callB (call_lenK (K := K) rfl) (by rfl) T.z_len PySem.boot_len (pa_cons (pv 2) pa_nil)) pe_int (nomark _)) (pss_one
      (ps_set (i := 2) sc_law_draws.nd rfl (Or.inl rfl) (pe_lst (pa_cons pe_int pa_nil)))) pss_nil)
      (pss_cons
      (ps_set (i := 3) sc_law_draws.nd rfl (Or.inl rfl) (pe_lst pa_nil))
      (pss_cons
      (ps_set (i := 4) sc_law_draws.nd rfl (Or.inl rfl) pe_int)
      (pss_cons
      (ps_for PassesOwn.never rfl (pi_range1 (by rfl) T.z_range (pa_cons (pv 1) pa_nil)) (pg_name (i := 5) sc_law_draws.nd rfl (.inl rfl)) (pss_cons
      (ps_set (i := 6) sc_law_draws.nd rfl (Or.inl rfl) (pe_op op_mod (pv 5) (pe_callB (call_lenK (K := K) rfl) (by rfl) T.z_len PySem.boot_len (pa_cons (pv 2) pa_nil))))
      (pss_cons
      (ps_set (i := 7) sc_law_draws.nd rfl (Or.inl rfl) (pe_ix (ix_listK (K := K) rfl) (pv 2) (pv 6) (fun _ _ => rfl)))
      (pss_cons
      (ps_set (i := 4) sc_law_draws.nd rfl (Or.inl rfl) (pe_op op_mod (pe_callTy call_int1 (by rfl) T.z_int (by decide +kernel) (pa_cons (pe_op op_add (pe_op op_add (pe_op op_add (pe_op op_mul (pv 4) pe_int) (pe_op op_mul (pe_op op_mod (pe_callTy call_int1 (by rfl) T.z_int (by decide +kernel) (pa_cons (pv 7) pa_nil)) pe_int) pe_int)) (pe_op op_mul (pv 5) pe_int)) pe_int) pa_nil)) pe_int))
      (pss_cons
      (ps_set (i := 8) sc_law_draws.nd rfl (Or.inl rfl) (pe_op op_mod (pe_callTy call_int1 (by rfl) T.z_int (by decide +kernel) (pa_cons (pe_op op_add (pe_op op_add (pe_op op_mul (pv 4) (pv 4)) (pe_op op_mul pe_int (pv 4))) (pv 5)) pa_nil)) pe_int))
      (pss_one
      (ps_if (pt_cmpR op_ge (pv 7) (pe_op op_pow pe_int pe_int) (nomark _)) (pss_cons
      (ps_expr (pe_bm PySem.F.plainAttrs_list PySem.F.slot_list_append PySem.F.type_list_append mt_append (pv 3) (pa_cons (pe_op op_mod (pe_callTy call_int1 (by rfl) T.z_int (by decide +kernel) (pa_cons (pv 7) pa_nil)) pe_int) pa_nil)))
      (pss_one
      (ps_asg (pe_op op_fdiv (pv 7) pe_int) (pg_sub (pv 2) (pv 6) set_list)))) (pss_one
      (ps_expr (pe_bm PySem.F.plainAttrs_list PySem.F.slot_list_append PySem.F.type_list_append mt_append (pv 3) (pa_cons (pe_op op_mod (pe_callTy call_int1 (by rfl) T.z_int (by decide +kernel) (pa_cons (pv 8) pa_nil)) pe_int) pa_nil)))))))))))
      (pss_cons
      (ps_expr (pe_bm0 PySem.F.plainAttrs_list PySem.F.slot_list_reverse PySem.F.type_list_reverse mt_reverse (pv 3)))
      (pss_one
      (ps_ret (pv 3))))))))), ?_⟩
    -- cells = list(script)
    refine ⟨_, rfl, a, _, rfl, .inl hS, fun l hl => ?_⟩
    -- if len(cells) == 0: cells = [7]
    refine ⟨fun σ H2 => ∃ (c : Addr) (cs : List Int), σ = [some (.ref a), some (.int n), some (.ref c), none, none, none, none, none, none] ∧ H c = none ∧ Same H H2 ∧ H2 c = some (.lst (cs.map V.int)) ∧ cs ≠ [], ?_, ?_⟩
    · have h0 : (upd H l (.lst (ns.map V.int))) l = some (.lst (ns.map V.int)) := upd_same
      walk_at "bx"
      refine ite2 (fun e => ?_) (fun e => ?_)
      · refine ⟨by show 1 ≤ sizeLine; decide, fun l2 h2 => ?_⟩
        have s1 : Same H (upd H l (.lst (ns.map V.int))) := same_new hl
        exact ⟨l2, [7], rfl, s1.free h2, s1.trans (same_new h2), upd_same, by decide⟩
      · exact ⟨l, ns, rfl, hl, same_new hl, upd_same, fun z => e (by rw [z]; rfl)⟩
    · rintro σ H2 ⟨c, cs, rfl, hc0, s2, hc, hcs⟩
      -- found = [], mixed = 12345
      refine ⟨Nat.zero_le _, fun o ho => ?_⟩
      have hco : c ≠ o := ne_of_none hc ho
      have ho0 : H o = none := s2.free ho
      -- for k in range(count)
      refine ⟨_, rfl, _, rfl, by omega, by omega, for_range (lo := 0) (n := ((n : Int)).toNat) (fun i σ H3 => ∃ (m : Int) (cs fs : List Int) (v5 v6 v7 v8 : Option V), σ = [some (.ref a), some (.int n), some (.ref c), some (.ref o), some (.int m), v5, v6, v7, v8] ∧ 0 ≤ m ∧ m < 2147483647 ∧ Same H H3 ∧ H3 c = some (.lst (cs.map V.int)) ∧ cs ≠ [] ∧ H3 o = some (.lst (fs.map V.int)) ∧ fs.length ≤ i)
        ⟨12345, cs, [], none, none, none, none, rfl, by decide, by decide, s2.trans (same_new ho), by rw [upd_ne hco]; exact hc, hcs, upd_same, Nat.le_refl _⟩ ?_ ?_⟩
      · rintro i σ H3 hi ⟨m, cs, fs, v5, v6, v7, v8, rfl, m0, m1, s3, hc, hcs, hf, hfl⟩
        have hl : 0 < cs.length := List.length_pos_iff.mpr hcs
        obtain ⟨z, hz⟩ : ∃ z, cs[i % cs.length]? = some z := ⟨_, List.getElem?_eq_getElem (Nat.mod_lt _ hl)⟩
        have ej : ((0 : Int) + (i : Int)) % (((cs.map V.int).length : Nat) : Int) = ((i % cs.length : Nat) : Int) := by
          rw [Int.zero_add, List.length_map]
          rfl
        -- j = k % len(cells)
        walk_at "bx"
        refine ⟨(show (0 : Int) < _ by rw [List.length_map]; omega), ?_⟩
        -- cell = cells[j]
        refine ⟨_, rfl, _, rfl, c, _, _, .int z, rfl, rfl, SqL.of hc, ?_, ?_⟩
        · rw [ej]
          exact atI_nat (by rw [List.getElem?_map, hz]; rfl)
        -- mixed, again
        walk_at "bx"
        have b1 : (0 : Int) ≤ z % 1000003 := Int.emod_nonneg _ (by decide)
        refine ⟨.inl ⟨?_, ?_⟩, ?_⟩
        · have := Int.emod_nonneg (m * 48271 + z % 1000003 * 69621 + (0 + (i : Int)) * 7919 + 11) (show (2147483647 : Int) ≠ 0 by decide)
          show -(2 ^ 64) < (m * 48271 + z % 1000003 * 69621 + (0 + (i : Int)) * 7919 + 11) % 2147483647
          omega
        · have := Int.emod_lt_of_pos (m * 48271 + z % 1000003 * 69621 + (0 + (i : Int)) * 7919 + 11) (show (0 : Int) < 2147483647 by decide)
          show (m * 48271 + z % 1000003 * 69621 + (0 + (i : Int)) * 7919 + 11) % 2147483647 < 2 ^ 64
          omega
        have c0 : 0 ≤ (m * 48271 + z % 1000003 * 69621 + (0 + (i : Int)) * 7919 + 11) % 2147483647 := Int.emod_nonneg _ (by decide)
        have c1 : (m * 48271 + z % 1000003 * 69621 + (0 + (i : Int)) * 7919 + 11) % 2147483647 < 2147483647 := Int.emod_lt_of_pos _ (by decide)
        walk_at "bx"
        refine ite2 (fun e => ?_) (fun e => ?_)
        · walk_at "bx"
          refine ⟨lenI (by omega), ?_⟩
          walk_at "bx"
          refine ⟨c, cs.map V.int, _, i % cs.length, rfl, rfl, by rw [upd_ne hco]; exact hc, by rw [ej]; exact ixN_at (by rw [List.length_map]; exact Nat.mod_lt _ hl), ?_⟩
          refine ⟨_, cs.set (i % cs.length) (z / 1000), fs ++ [z % 1000], _, _, _, _, rfl, c0, c1, fun b o' hb => ?_, by rw [upd_same, set_mapI], by simpa using hcs, by rw [upd_ne hco.symm, upd_same]; simp, by simp; omega⟩
          rw [upd_ne (fun z => by rw [z, hc0] at hb; cases hb), upd_ne (fun z => by rw [z, ho0] at hb; cases hb)]
          exact s3 _ _ hb
        · walk_at "bx"
          refine ⟨lenI (by omega), ?_⟩
          refine ⟨_, cs, fs ++ [_], _, _, _, _, rfl, c0, c1, fun b o' hb => ?_, by rw [upd_ne hco]; exact hc, hcs, by rw [upd_same, List.map_append]; rfl, by simp; omega⟩
          rw [upd_ne (fun z => by rw [z, ho0] at hb; cases hb)]
          exact s3 _ _ hb
      · rintro σ H3 ⟨m, cs, fs, v5, v6, v7, v8, rfl, m0, m1, s3, hc, hcs, hf, hfl⟩
        -- found.reverse()
        walk_at "bx"
        refine q _ o (fun b o' hb => ?_) ho0 ⟨fs.reverse, ?_⟩
        · rw [upd_ne (fun z => by rw [z, ho0] at hb; cases hb)]
          exact s3 _ _ hb
        · rw [upd_same, List.map_reverse]
theorem asc_snoc {i : Nat} {xs : List Int} (h : Asc (i : Int) xs) : Asc ((i + 1 : Nat) : Int) (xs ++ [(0 : Int) + (i : Int)]) := by
  refine ⟨List.pairwise_append.mpr ⟨h.1, by simp, fun x hx y hy => ?_⟩, fun x hx => ?_⟩
  · rw [List.mem_singleton.mp hy]
    have := (h.2 x hx).2
    omega
  · rcases List.mem_append.mp hx with z | z
    · have := h.2 x z
      omega
    · rw [List.mem_singleton.mp z]
      omega
theorem asc_mono {n m : Int} {xs : List Int} (h : Asc n xs) (k : n ≤ m) : Asc m xs := ⟨h.1, fun x hx => by have := h.2 x hx; omega⟩
theorem asc_nil (n : Int) : Asc n [] := ⟨by simp, by simp⟩
def spAscd : Sp := fun vs H Q _ => ∃ (d : Addr) (n sh : Int), vs = [.ref d, .int n, .int sh] ∧ Drw H d ∧ 0 ≤ n ∧ n ≤ 1000 ∧
  ∀ (H' : Hp) (t : Addr) (xs : List Int), Kp d H H' → Drw H' d → H t = none → H' t = some (.lst (xs.map V.int)) → Asc n xs → (xs.length : Int) ≤ n → Q (.ref t) H'
theorem cal_ascd (T : Txt K mg) : C8.Cal P w K mg base 2 "_law_ascending" spAscd [] := by
  have C_law_take : C8.Cal P w K mg base 1 "_law_take" spTake [] := cal_take T
  obtain ⟨f, fd, F, hm, hb⟩ := T.h_law_ascending
  refine ⟨f, fd, _, [], F.ok sc_law_ascending (fun vs H Q E h => ?_) (fun cdv A outer s H vs Q E hr h => ?_), hm, F.kp, hb, .nil⟩
  · obtain ⟨d, n, sh, rfl, _⟩ := h
    rfl
  · obtain ⟨d, n, sh, rfl, hd, n0, n1, q⟩ := h
    refine ⟨_, (pss_one
      (ps_ret (pe_lc (own := [("k", 3)]) (g := gName 3) rfl sc_law_ascending.nd (pi_range1 (by rfl) T.z_range (pa_cons (pv 1) pa_nil)) (blkOk_by (N := N_law_ascending) (sc := defScope s_law_ascending) (by decide +kernel)) (fun _ _ _ _ _ => (pg_name (i := 3) sc_law_ascending.nd rfl (Or.inl rfl))) (fun _ _ _ _ _ => (pts_one (pt_cmpR op_lt (C8.pe_c C_law_take hr (by decide) (by rfl) (pa_cons (pv 0) (pa_cons pe_int pa_nil))) (pv 2) (nomark _)))) (fun _ _ _ _ _ => (pv 3))))), ?_⟩
    refine ⟨_, rfl, _, rfl, by omega, by omega, fun D hD => ?_⟩
    have nDd : D ≠ d := fun z => by obtain ⟨o, y⟩ := hd; rw [← z, hD] at y; cases y
    refine lc_range (lo := 0) (n := n.toNat) (fun i H' => ∃ xs : List Int, Kp d H H' ∧ Drw H' d ∧ H' D = some (.lst (xs.map V.int)) ∧ Asc (i : Nat) xs ∧ xs.length ≤ i)
      ⟨[], Kp.new hD, hd.new hD, upd_same, asc_nil _, Nat.le_refl _⟩ ?_ ?_
    · rintro i H1 hi ⟨xs, k1, d1, e1, hA, xl⟩
      refine ⟨rfl, _, rfl, d, 10, rfl, d1, by decide, fun u us u0 u1 => ?_⟩
      have e2 : (upd H1 d (.lst (us.map V.int))) D = some (.lst (xs.map V.int)) := by rw [upd_ne nDd]; exact e1
      have k2 : Kp d H (upd H1 d (.lst (us.map V.int))) := k1.trans Kp.own
      have d2 : Drw (upd H1 d (.lst (us.map V.int))) d := Drw.own
      generalize upd H1 d (.lst (us.map V.int)) = H2 at *
      refine ⟨_, rfl, _, _, rfl, rfl, _, rfl, ite2 (fun c => ?_) (fun c => ⟨xs, k2, d2, e2, asc_mono hA (by omega), by omega⟩)⟩
      refine ⟨_, rfl, _, e2, lenI (by omega), xs ++ [(0 : Int) + (i : Int)], ?_, ?_, ?_, asc_snoc hA, by rw [List.length_append]; show xs.length + 1 ≤ i + 1; omega⟩
      · intro b o nb hb
        rw [upd_ne (ne_of_none hb hD)]
        exact k2 _ _ nb hb
      · obtain ⟨o, y⟩ := d2
        exact ⟨o, by rw [upd_ne nDd.symm]; exact y⟩
      · rw [upd_same, List.map_append]
        rfl
    · rintro H1 ⟨xs, k1, d1, e1, hA, xl⟩
      exact q H1 D xs k1 d1 hD e1 (asc_mono hA (by omega)) (by omega)
def Cpy (H H' : Hp) (r' : Addr) (as' : List Addr) (rows : List (List Int)) : Prop := Same H H' ∧ LL H' r' as' rows ∧ (∀ b ∈ as', H b = none) ∧ H r' = none ∧ r' ∉ as'
/-- one more row of a copy -/
theorem cpy_step {H H' : Hp} {D t : Addr} {bs : List Addr} {rs : List (List Int)} {row : List Int} (h : Cpy H H' D bs rs) (ht : H' t = none) : Cpy H (upd (upd H' t (.lst (row.map V.int))) D (.lst ((bs ++ [t]).map V.ref))) D (bs ++ [t]) (rs ++ [row]) := by
  obtain ⟨s1, ⟨e1, R1⟩, n1, d1, m1⟩ := h
  have nt : D ≠ t := fun z => by rw [z, ht] at e1; cases e1
  refine ⟨fun b o hb => ?_, ⟨upd_same, ?_⟩, fun b hb => ?_, d1, fun z => ?_⟩
  · rw [upd_ne (ne_of_none hb d1), upd_ne (ne_of_none (s1 _ _ hb) ht)]
    exact s1 _ _ hb
  · refine RowsA.snoc ?_ (My.RowsA.drop m1 (R1.same (same_new ht)))
    rw [upd_ne nt.symm, upd_same]
  · rcases List.mem_append.mp hb with z | z
    · exact n1 b z
    · rw [List.mem_singleton.mp z]
      exact s1.free ht
  · rcases List.mem_append.mp z with y | y
    · exact m1 y
    · exact nt (List.mem_singleton.mp y)
theorem cpy_zero {H : Hp} {D : Addr} (hD : H D = none) : Cpy H (upd H D (.lst [])) D [] [] := ⟨same_new hD, ⟨upd_same, True.intro⟩, (by simp), hD, by simp⟩
def spFlat : Sp := fun vs H Q _ => ∃ (r : Addr) (as : List Addr) (rows : List (List Int)), vs = [.ref r] ∧ LL H r as rows ∧ rows.length ≤ 1000 ∧ ∀ (H' : Hp) (r' : Addr) (as' : List Addr), Cpy H H' r' as' rows → Q (.ref r') H'
theorem cal_flat (T : Txt K mg) : C8.Cal P w K mg base 1 "_law_flat" spFlat [] := by
  obtain ⟨f, fd, F, hm, hb⟩ := T.h_law_flat
  refine ⟨f, fd, _, [], F.ok sc_law_flat (fun vs H Q E h => ?_) (fun cdv A outer s H vs Q E hr h => ?_), hm, F.kp, hb, .nil⟩
  · obtain ⟨r, as, rows, rfl, _⟩ := h
    rfl
  · obtain ⟨r, as, rows, rfl, hL, b1, q⟩ := h
    refine ⟨_, (pss_one
      (ps_ret (pe_lc (own := [("row", 1)]) (g := gName 1) (tt := tYes) rfl sc_law_flat.nd (pi_list (pv 0)) (blkOk_by (N := N_law_flat) (sc := defScope s_law_flat) (by decide +kernel)) (fun _ _ _ _ _ => (pg_name (i := 1) sc_law_flat.nd rfl (Or.inl rfl))) (fun _ _ _ _ _ => pts_nil) (fun _ _ _ _ _ => (pe_callTy (call_list_ofK (K := K) rfl) (by rfl) T.z_list (by decide +kernel) (pa_cons (pv 1) pa_nil)))))), ?_⟩
    have hl2 : (as.map V.ref).length = rows.length := by rw [List.length_map, hL.2.len]
    refine ⟨_, rfl, r, rfl, ⟨_, .of hL.1⟩, fun D hD => lc_list (K := K) (a := r) (xs := as.map V.ref) (fun i H' => ∃ bs, Cpy H H' D bs (rows.take i))
      ⟨[], cpy_zero hD⟩ (fun i H' _ ⟨_, z, _⟩ => .of (z _ _ hL.1)) ?_ ?_⟩
    · rintro i v H2 hi ⟨bs, c2⟩
      obtain ⟨a, ha, rfl⟩ := refs_get hi
      obtain ⟨row, hrow, sr⟩ := hL.2.get ha
      have hil : i < rows.length := (List.getElem?_eq_some_iff.mp hrow).1
      have bl := c2.2.1.2.len
      rw [List.length_take] at bl
      have nD : ∀ t, H2 t = none → D ≠ t := fun t ht z => by
        have := c2.2.1.1
        rw [z, ht] at this
        cases this
      refine ⟨rfl, _, rfl, a, _, rfl, .inl (.of (c2.1 _ _ sr)), fun t ht => ⟨_, by rw [upd_ne (nD t ht)]; exact c2.2.1.1, by rw [List.length_map]; exact Nat.lt_of_le_of_lt (show bs.length ≤ 1000 by omega) (by decide), bs ++ [t], ?_⟩⟩
      rw [take_get hrow]
      have := cpy_step (row := row) c2 ht
      rw [List.map_append] at this
      exact this
    · rintro H2 ⟨bs, c2⟩
      rw [hl2, List.take_length] at c2
      exact q _ _ _ c2
def spGame : Sp := fun vs H Q _ => ∃ (d : Addr) (m : Int), vs = [.ref d, .int m] ∧ Drw H d ∧ 1 ≤ m ∧ m ≤ 40 ∧
  ∀ (H' : Hp) (t o p r : Addr) (as : List Addr) (ow ps : List Int) (c : List (List Int)), Kp d H H' → Drw H' d → H' t = some (.tup [.ref o, .ref p, .ref r]) → H' o = some (.lst (ow.map V.int)) → H' p = some (.lst (ps.map V.int)) → LL H' r as c → o ≠ d → p ≠ d → r ≠ d → (∀ a ∈ as, a ≠ d) → Vg ow ps c → (c.length : Int) ≤ m → Q (.ref t) H'
theorem cal_game (T : Txt K mg) : C8.Cal P w K mg base 3 "_law_game" spGame [] := by
  have C_law_take : C8.Cal P w K mg base 1 "_law_take" spTake [] := cal_take T
  have C_law_ascending : C8.Cal P w K mg base 2 "_law_ascending" spAscd [] := cal_ascd T
  obtain ⟨f, fd, F, hm, hb⟩ := T.h_law_game
  refine ⟨f, fd, _, [], F.ok sc_law_game (fun vs H Q E h => ?_) (fun cdv A outer s H vs Q E hr h => ?_), hm, F.kp, hb, .nil⟩
  · obtain ⟨d, m, rfl, _⟩ := h
    rfl
  · obtain ⟨d, m, rfl, hd, m1, m2, q⟩ := h
    refine ⟨_, (pss_cons
      (ps_set (i := 2) sc_law_game.nd rfl (Or.inl rfl) (pe_op op_add pe_int (C8.pe_c C_law_take hr (by decide) (by rfl) (pa_cons (pv 0) (pa_cons (pv 1) pa_nil)))))
      (pss_cons
      (ps_set (i := 3) sc_law_game.nd rfl (Or.inr rfl) (pe_op op_add pe_int (C8.pe_c C_law_take hr (by decide) (by rfl) (pa_cons (pv 0) (pa_cons pe_int pa_nil)))))
      (pss_cons
      (ps_setLc (i := 4) (own := [("k", 8)]) (g := gName 8) (tt := tYes) rfl sc_law_game.nd rfl rfl (sw_true rfl rfl rfl (by decide +kernel)) (pi_range1 (by rfl) T.z_range (pa_cons (pv 2) pa_nil)) (blkOk_by (N := N_law_game) (sc := defScope s_law_game) (by decide +kernel)) (fun _ _ _ _ _ => (pg_name (i := 8) sc_law_game.nd rfl (Or.inl rfl))) (fun _ _ _ _ _ => pts_nil) (fun _ _ _ _ _ => (C8.pe_c C_law_take hr (by decide) (by rfl) (pa_cons (pv 0) (pa_cons pe_int pa_nil)))))
      (pss_cons
      (ps_setLc (i := 5) (own := [("k", 8)]) (g := gName 8) (tt := tYes) rfl sc_law_game.nd rfl rfl (sw_true rfl rfl rfl (by decide +kernel)) (pi_range1 (by rfl) T.z_range (pa_cons (pv 2) pa_nil)) (blkOk_by (N := N_law_game) (sc := defScope s_law_game) (by decide +kernel)) (fun _ _ _ _ _ => (pg_name (i := 8) sc_law_game.nd rfl (Or.inl rfl))) (fun _ _ _ _ _ => pts_nil) (fun _ _ _ _ _ => (C8.pe_c C_law_take hr (by decide) (by rfl) (pa_cons (pv 0) (pa_cons (pv 3) pa_nil)))))
      (pss_cons
      (ps_set (i := 6) sc_law_game.nd rfl (Or.inl rfl) (pe_op op_add pe_int (C8.pe_c C_law_take hr (by decide) (by rfl) (pa_cons (pv 0) (pa_cons pe_int pa_nil)))))
      (pss_cons
      (ps_set (i := 7) sc_law_game.nd rfl (Or.inl rfl) (pe_lst pa_nil))
      (pss_cons
      (ps_for PassesOwn.never rfl (pi_range1 (by rfl) T.z_range (pa_cons (pv 2) pa_nil)) (pg_name (i := 8) sc_law_game.nd rfl (.inl rfl)) (pss_cons
      (ps_set (i := 9) sc_law_game.nd rfl (Or.inl rfl) (C8.pe_c C_law_ascending hr (by decide) (by rfl) (pa_cons (pv 0) (pa_cons (pv 2) (pa_cons (pv 6) pa_nil)))))
      (C8.pss_cut
      (ps_if (pt_cmpR op_eq (pe_callB (call_lenK (K := K) rfl) (by rfl) T.z_len PySem.boot_len (pa_cons (pv 9) pa_nil)) pe_int (nomark _)) (pss_one
      (ps_set (i := 9) sc_law_game.nd rfl (Or.inl rfl) (pe_lst (pa_cons (C8.pe_c C_law_take hr (by decide) (by rfl) (pa_cons (pv 0) (pa_cons (pv 2) pa_nil))) pa_nil)))) pss_nil)
      (pss_one
      (ps_expr (pe_bm PySem.F.plainAttrs_list PySem.F.slot_list_append PySem.F.type_list_append mt_append (pv 7) (pa_cons (pv 9) pa_nil)))))))
      (pss_one
      (ps_ret (pe_tup (pa_cons (pv 4) (pa_cons (pv 5) (pa_cons (pv 7) pa_nil))))))))))))), ?_⟩
    refine ⟨_, rfl, _, rfl, d, m, rfl, hd, by omega, fun cn ds c0 c1 => ?_⟩
    have d1 : Drw (upd H d (.lst (ds.map V.int))) d := Drw.own
    have k1 : Kp d H (upd H d (.lst (ds.map V.int))) := Kp.own
    generalize upd H d (.lst (ds.map V.int)) = H1 at d1 k1 ⊢
    refine ⟨_, _, rfl, rfl, ?_⟩
    show gName 2 (V.int (1 + cn)) _ _ _
    obtain ⟨n, hn⟩ : ∃ n : Nat, 1 + cn = (n : Int) := ⟨(1 + cn).toNat, by omega⟩
    rw [hn]
    have hn0 : 0 < n := by omega
    have hnm : (n : Int) ≤ m := by omega
    refine ⟨_, rfl, d, 5, rfl, d1, by decide, fun tp ds2 t0 t1 => ?_⟩
    have d2 : Drw (upd H1 d (.lst (ds2.map V.int))) d := Drw.own
    have k2 : Kp d H (upd H1 d (.lst (ds2.map V.int))) := k1.trans Kp.own
    generalize upd H1 d (.lst (ds2.map V.int)) = H2 at d2 k2 ⊢
    refine ⟨_, _, rfl, rfl, ?_⟩
    show gName 3 (V.int (1 + tp)) _ _ _
    have ht1 : 1 ≤ 1 + tp := by omega
    generalize 1 + tp = top at ht1 ⊢
    clear k1 d1
    -- owners
    refine ⟨_, rfl, _, rfl, by omega, by omega, fun O hO => ?_⟩
    have nOd : O ≠ d := fun z => by obtain ⟨o, y⟩ := d2; rw [← z, hO] at y; cases y
    rw [Int.toNat_natCast]
    refine lc_range (lo := 0) (n := n) (fun i H' => ∃ xs : List Int, Kp d H2 H' ∧ Drw H' d ∧ H' O = some (.lst (xs.map V.int)) ∧ xs.length = i ∧ ∀ z ∈ xs, 0 ≤ z ∧ z ≤ 1)
      ⟨[], Kp.new hO, d2.new hO, upd_same, rfl, by simp⟩ ?_ ?_
    · rintro i H3 hi ⟨xs, k3, d3, e3, xl, hx⟩
      refine ⟨rfl, _, rfl, d, 2, rfl, d3, by decide, fun u us u0 u1 => ?_⟩
      have e4 : (upd H3 d (.lst (us.map V.int))) O = some (.lst (xs.map V.int)) := by rw [upd_ne nOd]; exact e3
      have k4 : Kp d H2 (upd H3 d (.lst (us.map V.int))) := k3.trans Kp.own
      have d4 : Drw (upd H3 d (.lst (us.map V.int))) d := Drw.own
      generalize upd H3 d (.lst (us.map V.int)) = H4 at e4 k4 d4 ⊢
      refine ⟨_, e4, lenI (by omega), xs ++ [u], fun b o nb hb => ?_, ?_, by rw [upd_same, List.map_append]; rfl, by rw [List.length_append, xl]; rfl, fun z hz => ?_⟩
      · rw [upd_ne (ne_of_none hb hO)]
        exact k4 _ _ nb hb
      · obtain ⟨o, y⟩ := d4
        exact ⟨o, by rw [upd_ne nOd.symm]; exact y⟩
      · rcases List.mem_append.mp hz with y | y
        · exact hx z y
        · rw [List.mem_singleton.mp y]; omega
    rintro H3 ⟨ow, k3, d3, eO, ol, ho⟩
    have k03 := k2.trans k3
    clear k2 d2 k3 hO
    -- priorities
    refine ⟨_, rfl, _, rfl, by omega, by omega, fun O2 hO2 => ?_⟩
    have nPd : O2 ≠ d := fun z => by obtain ⟨o, y⟩ := d3; rw [← z, hO2] at y; cases y
    rw [Int.toNat_natCast]
    refine lc_range (lo := 0) (n := n) (fun i H' => ∃ xs : List Int, Kp d H3 H' ∧ Drw H' d ∧ H' O2 = some (.lst (xs.map V.int)) ∧ xs.length = i ∧ ∀ z ∈ xs, 0 ≤ z)
      ⟨[], Kp.new hO2, d3.new hO2, upd_same, rfl, by simp⟩ ?_ ?_
    · rintro i H4 hi ⟨xs, k4, d4, e4, xl, hx⟩
      refine ⟨rfl, _, rfl, _, rfl, d, top, rfl, d4, by omega, fun u us u0 u1 => ?_⟩
      have e5 : (upd H4 d (.lst (us.map V.int))) O2 = some (.lst (xs.map V.int)) := by rw [upd_ne nPd]; exact e4
      have k5 : Kp d H3 (upd H4 d (.lst (us.map V.int))) := k4.trans Kp.own
      have d5 : Drw (upd H4 d (.lst (us.map V.int))) d := Drw.own
      generalize upd H4 d (.lst (us.map V.int)) = H5 at e5 k5 d5 ⊢
      refine ⟨_, e5, lenI (by omega), xs ++ [u], fun b o nb hb => ?_, ?_, by rw [upd_same, List.map_append]; rfl, by rw [List.length_append, xl]; rfl, fun z hz => ?_⟩
      · rw [upd_ne (ne_of_none hb hO2)]
        exact k5 _ _ nb hb
      · obtain ⟨o, y⟩ := d5
        exact ⟨o, by rw [upd_ne nPd.symm]; exact y⟩
      · rcases List.mem_append.mp hz with y | y
        · exact hx z y
        · rw [List.mem_singleton.mp y]; exact u0
    rintro H4 ⟨ps, k4, d4, eP, pl, hp⟩
    have k04 := k03.trans k4
    have eO4 := k4 _ _ nOd eO
    clear k03 d3 k4 hO2 eO
    -- share
    refine ⟨_, rfl, d, 4, rfl, d4, by decide, fun sh ds3 sh0 sh1 => ?_⟩
    have d5 : Drw (upd H4 d (.lst (ds3.map V.int))) d := Drw.own
    have k5 : Kp d H4 (upd H4 d (.lst (ds3.map V.int))) := Kp.own
    generalize upd H4 d (.lst (ds3.map V.int)) = H5 at d5 k5 ⊢
    have k05 := k04.trans k5
    have eO5 := k5 _ _ nOd eO4
    have eP5 := k5 _ _ nPd eP
    clear k04 d4 eO4 eP k5
    refine ⟨_, _, rfl, rfl, ?_⟩
    show gName 6 (V.int (2 + sh)) _ _ _
    generalize 2 + sh = share
    refine ⟨Nat.zero_le _, fun R hR => ?_⟩
    have nRd : R ≠ d := fun z => by obtain ⟨o, y⟩ := d5; rw [← z, hR] at y; cases y
    refine ⟨_, rfl, _, rfl, by omega, by omega, ?_⟩
    rw [Int.toNat_natCast]
    refine for_range (lo := 0) (n := n) (fun i σ H' => ∃ (v8 v9 : Option V) (as : List Addr) (c : List (List Int)), σ = [some (.ref d), some (.int m), some (.int (n : Int)), some (.int top), some (.ref O), some (.ref O2), some (.int share), some (.ref R), v8, v9] ∧ Kp d H5 H' ∧ Drw H' d ∧ LL H' R as c ∧ c.length = i ∧ (∀ a ∈ as, a ≠ d ∧ a ≠ R) ∧ ∀ r ∈ c, r ≠ [] ∧ Asc (n : Int) r)
      ⟨_, _, [], [], rfl, Kp.new hR, d5.new hR, ⟨upd_same, True.intro⟩, rfl, by simp, by simp⟩ ?_ ?_
    · rintro i σ H6 hi ⟨v8, v9, as, c, rfl, k6, d6, hL, cl, ha, hc⟩
      refine ⟨_, rfl, _, rfl, _, rfl, d, (n : Int), share, rfl, d6, by omega, by omega, fun H7 t xs k7 d7 ht e7 hA xl => ?_⟩
      have keepLL : ∀ {X Y : Hp}, LL X R as c → Kp d X Y → LL Y R as c := fun {X Y} h k => ⟨k _ _ nRd h.1, RowsA.keep (fun b o hb hx => k _ _ (ha b hb).1 hx) h.2⟩
      have hL7 := keepLL hL k7
      have k57 := k6.trans k7
      have ntd : t ≠ d := fun z => by obtain ⟨o, y⟩ := d6; rw [z] at ht; rw [ht] at y; cases y
      have ntR : t ≠ R := fun z => by rw [z, hL.1] at ht; cases ht
      clear hL k7 k6 d6
      refine ⟨fun σ H' => ∃ (row : List Int) (t' : Addr), σ = [some (.ref d), some (.int m), some (.int (n : Int)), some (.int top), some (.ref O), some (.ref O2), some (.int share), some (.ref R), some (.int (0 + (i : Int))), some (.ref t')] ∧ Kp d H5 H' ∧ Drw H' d ∧ LL H' R as c ∧ H' t' = some (.lst (row.map V.int)) ∧ t' ≠ d ∧ t' ≠ R ∧ row ≠ [] ∧ Asc (n : Int) row, ?_, ?_⟩
      · refine ⟨_, rfl, t, _, rfl, .inl (.of e7), rfl, _, rfl, ite_eq (fun y => ?_) (fun y => ⟨xs, t, rfl, k57, d7, hL7, e7, ntd, ntR, fun z => y (by rw [z]; rfl), hA⟩)⟩
        refine ⟨_, rfl, _, rfl, d, (n : Int), rfl, d7, by omega, fun u us u0 u1 => ?_⟩
        have k8 : Kp d H7 (upd H7 d (.lst (us.map V.int))) := Kp.own
        have d8 : Drw (upd H7 d (.lst (us.map V.int))) d := Drw.own
        have hL8 := keepLL hL7 k8
        generalize upd H7 d (.lst (us.map V.int)) = H8 at k8 d8 hL8 ⊢
        refine ⟨by show 1 ≤ sizeLine; decide, fun t2 n2 => ?_⟩
        have s9 := same_new (o := .lst [.int u]) n2
        exact ⟨[u], t2, rfl, (k57.trans k8).trans (fun b o _ hb => s9 _ _ hb), d8.same s9, hL8.same s9, upd_same, (fun z => by obtain ⟨o, y⟩ := d8; rw [z] at n2; rw [n2] at y; cases y), (fun z => by rw [z, hL8.1] at n2; cases n2), by simp, ⟨by simp, fun x hx => by rw [List.mem_singleton.mp hx]; exact ⟨u0, u1⟩⟩⟩
      · rintro σ H8 ⟨row, t', rfl, k8, d8, hL8, e8, nt1, nt2, hne, hasc⟩
        refine ⟨_, rfl, .inl ⟨rfl, _, .of hL8.1⟩, _, rfl, R, _, _, rfl, rfl, hL8.1, by rw [List.length_map, hL8.2.len]; exact Nat.lt_of_le_of_lt (show c.length ≤ 1000 by omega) (by decide), ?_⟩
        have hRm : R ∉ as := fun z => (ha R z).2 rfl
        refine ⟨_, _, as ++ [t'], c ++ [row], rfl, fun b o nb hb => ?_, ?_, ⟨by rw [upd_same, List.map_append]; rfl, RowsA.snoc (by rw [upd_ne nt2]; exact e8) (My.RowsA.drop hRm hL8.2)⟩, by rw [List.length_append, cl]; rfl, fun b hb => ?_, fun r hr => ?_⟩
        · rw [upd_ne (ne_of_none hb hR)]
          exact k8 _ _ nb hb
        · obtain ⟨o, y⟩ := d8
          exact ⟨o, by rw [upd_ne nRd.symm]; exact y⟩
        · rcases List.mem_append.mp hb with y | y
          · exact ha b y
          · rw [List.mem_singleton.mp y]; exact ⟨nt1, nt2⟩
        · rcases List.mem_append.mp hr with y | y
          · exact hc r y
          · rw [List.mem_singleton.mp y]; exact ⟨hne, hasc⟩
    rintro σ H6 ⟨v8, v9, as, c, rfl, k6, d6, hL, cl, ha, hc⟩
    refine ⟨_, rfl, _, rfl, _, rfl, by show 3 ≤ sizeLine; decide, fun t ht => ?_⟩
    have s7 := same_new (o := .tup [.ref O, .ref O2, .ref R]) ht
    exact q _ t O O2 R as ow ps c ((k05.trans k6).trans (fun b o _ hb => s7 _ _ hb)) (d6.same s7) upd_same (s7 _ _ (k6 _ _ nOd eO5)) (s7 _ _ (k6 _ _ nPd eP5)) (hL.same s7) nOd nPd nRd (fun a h => (ha a h).1) ⟨fun z => by rw [z] at cl; simp at cl; omega, by omega, by omega, ho, hp, by rw [cl]; exact hc⟩ (by omega)
/-! walks that stay within some nodes, and cycles whose greatest number is of a kind -/
inductive RS (g : Gr.G) (S : Nat → Prop) : Nat → Nat → Prop
  | refl {u : Nat} : S u → RS g S u u
  | step {u x v : Nat} : S u → Gr.E g u x → RS g S x v → RS g S u v
theorem RS.src {g : Gr.G} {S : Nat → Prop} {u v : Nat} (h : RS g S u v) : S u := by cases h <;> assumption
theorem RS.tgt {g : Gr.G} {S : Nat → Prop} {u v : Nat} (h : RS g S u v) : S v := by
  induction h with
  | refl h => exact h
  | step _ _ _ ih => exact ih
theorem RS.trans {g : Gr.G} {S : Nat → Prop} {u v x : Nat} (h : RS g S u v) (k : RS g S v x) : RS g S u x := by
  induction h with
  | refl _ => exact k
  | step a b _ ih => exact .step a b (ih k)
theorem RS.mono {g : Gr.G} {S S' : Nat → Prop} {u v : Nat} (h : RS g S u v) (m : ∀ x, S x → S' x) : RS g S' u v := by
  induction h with
  | refl a => exact .refl (m _ a)
  | step a b _ ih => exact .step (m _ a) b ih
theorem RS.rc {g : Gr.G} {S : Nat → Prop} {u v : Nat} (h : RS g S u v) : Gr.Rc g u v := by
  induction h with
  | refl _ => exact .refl _
  | step _ b _ ih => exact .step b ih
/-- closed under the edges: no walk leaves -/
theorem RS.of_rc {g : Gr.G} {S : Nat → Prop} (cl : ∀ u v, S u → Gr.E g u v → S v) {u v : Nat} (h : Gr.Rc g u v) (hu : S u) : RS g S u v := by
  induction h with
  | refl _ => exact .refl hu
  | step b _ ih => exact .step hu b (ih (cl _ _ hu b))
/-- a walk, cut to where all nodes between reach its end and are reached from its start -/
theorem RS.cut {g : Gr.G} {S : Nat → Prop} {u v : Nat} (h : RS g S u v) : RS g (fun x => S x ∧ RS g S u x ∧ RS g S x v) u v := by
  have gen : ∀ {a b : Nat}, RS g S a b → RS g S u a → b = v → RS g (fun x => S x ∧ RS g S u x ∧ RS g S x v) a b := by
    intro a b k
    induction k with
    | refl h => exact fun q e => .refl ⟨h, q, by rw [← e]; exact .refl h⟩
    | step h e r ih => exact fun q z => .step ⟨h, q, by rw [← z]; exact .step h e r⟩ e (ih (q.trans (.step h e (.refl r.src))) z)
  exact gen h (.refl h.src) rfl
def subN (g : Gr.G) (ns : List Nat) : Gr.G := ns.map fun n => ((Gr.row g n).filter fun v => decide (v ∈ ns)).map ns.idxOf
theorem subN_len (g : Gr.G) (ns : List Nat) : (subN g ns).length = ns.length := List.length_map _
theorem row_subN {g : Gr.G} {ns : List Nat} {i u : Nat} (h : ns[i]? = some u) : Gr.row (subN g ns) i = ((Gr.row g u).filter fun v => decide (v ∈ ns)).map ns.idxOf := by
  unfold Gr.row subN
  rw [List.getD_eq_getElem?_getD, List.getElem?_map, h]
  rfl
theorem idxN {us : List Nat} {u : Nat} (h : u ∈ us) : us[us.idxOf u]? = some u := by
  have hl := List.idxOf_lt_length_of_mem h
  rw [List.getElem?_eq_getElem hl, List.getElem_idxOf]
theorem row_ge {g : Gr.G} {i : Nat} (h : g.length ≤ i) : Gr.row g i = [] := by
  unfold Gr.row
  rw [List.getD_eq_getElem?_getD, List.getElem?_eq_none h]
  rfl
theorem subN_ok (g : Gr.G) (ns : List Nat) : Gr.Ok (subN g ns) := by
  intro i v hv
  rw [subN_len]
  rcases Nat.lt_or_ge i ns.length with c | c
  · rw [row_subN (List.getElem?_eq_getElem c)] at hv
    obtain ⟨x, hx, rfl⟩ := List.mem_map.mp hv
    exact List.idxOf_lt_length_of_mem (of_decide_eq_true (List.mem_filter.mp hx).2)
  · rw [row_ge (by rw [subN_len]; exact c)] at hv
    cases hv
theorem subN_E {g : Gr.G} {ns : List Nat} (nd : ns.Nodup) {i j u v : Nat} (hi : ns[i]? = some u) (hj : ns[j]? = some v) : Gr.E (subN g ns) i j ↔ Gr.E g u v := by
  unfold Gr.E
  rw [row_subN hi]
  constructor
  · intro h
    obtain ⟨x, hx, e⟩ := List.mem_map.mp h
    have hx2 : x ∈ ns := of_decide_eq_true (List.mem_filter.mp hx).2
    have e2 := idxN hx2
    rw [e, hj] at e2
    cases e2
    exact (List.mem_filter.mp hx).1
  · intro h
    have hv := List.mem_of_getElem? hj
    exact List.mem_map.mpr ⟨v, List.mem_filter.mpr ⟨h, decide_eq_true hv⟩, nd_inj nd (idxN hv) hj⟩
theorem subN_rc {g : Gr.G} {ns : List Nat} (nd : ns.Nodup) {i j u v : Nat} (hi : ns[i]? = some u) (hj : ns[j]? = some v) : Gr.Rc (subN g ns) i j ↔ RS g (· ∈ ns) u v := by
  constructor
  · intro h
    induction h generalizing u with
    | refl x =>
      rw [hi] at hj
      cases hj
      exact .refl (List.mem_of_getElem? hi)
    | step a b ih =>
      rename_i x y z
      have hy : y < ns.length := by
        have := subN_ok g ns _ _ a
        rwa [subN_len] at this
      have ey := List.getElem?_eq_getElem hy
      exact .step (List.mem_of_getElem? hi) ((subN_E nd hi ey).mp a) (ih ey hj)
  · intro h
    induction h generalizing i with
    | refl x =>
      rw [nd_inj nd hi hj]
      exact .refl _
    | step a b c ih =>
      have ey := idxN c.src
      exact .step ((subN_E nd hi ey).mpr b) (ih ey hj)
/-- the members whose number is i -/
def grpOf (ns h : List Nat) (i : Nat) : List Nat := ((ns.zip h).filter fun p => decide (p.2 = i)).map (·.1)
def grps (ns h : List Nat) (c : Nat) : List (List Nat) := (List.range c).map (grpOf ns h)
theorem grpOf_snoc {ns h : List Nat} {x y i : Nat} (hl : ns.length = h.length) : grpOf (ns ++ [x]) (h ++ [y]) i = if y = i then grpOf ns h i ++ [x] else grpOf ns h i := by
  unfold grpOf
  rw [List.zip_append hl, List.filter_append, List.map_append]
  by_cases e : y = i
  · rw [if_pos e]
    subst e
    simp
  · rw [if_neg e]
    simp [e]
theorem grpOf_mem {ns h : List Nat} {i x : Nat} : x ∈ grpOf ns h i ↔ ∃ k : Nat, ns[k]? = some x ∧ h[k]? = some i := by
  unfold grpOf
  constructor
  · intro q
    obtain ⟨p, hp, rfl⟩ := List.mem_map.mp q
    obtain ⟨hz, e⟩ := List.mem_filter.mp hp
    obtain ⟨k, hk⟩ := List.mem_iff_getElem?.mp hz
    obtain ⟨h1, h2⟩ := List.getElem?_zip_eq_some.mp hk
    exact ⟨k, h1, by rw [h2, of_decide_eq_true e]⟩
  · rintro ⟨k, h1, h2⟩
    exact List.mem_map.mpr ⟨(x, i), List.mem_filter.mpr ⟨List.mem_of_getElem? (List.getElem?_zip_eq_some.mpr ⟨h1, h2⟩), by simp⟩, rfl⟩
theorem grpOf_nodup {ns h : List Nat} (nd : ns.Nodup) (i : Nat) : (grpOf ns h i).Nodup := by
  have h1 : (grpOf ns h i).Sublist ((ns.zip h).map (·.1)) := (List.filter_sublist).map _
  have h2 : ((ns.zip h).map (·.1)).Sublist ns := by
    have : (ns.zip h).map (·.1) = ns.take (min ns.length h.length) := by
      apply List.ext_getElem?
      intro k
      rw [List.getElem?_map, List.getElem?_take]
      rcases Nat.lt_or_ge k (min ns.length h.length) with c | c
      · rw [if_pos c, List.getElem?_eq_getElem (by rw [List.length_zip]; exact c), List.getElem_zip, List.getElem?_eq_getElem (by omega)]
        rfl
      · rw [if_neg (by omega), List.getElem?_eq_none (by rw [List.length_zip]; exact c)]
        rfl
    rw [this]
    exact List.take_sublist _ _
  exact nd.sublist (h1.trans h2)
def lsum (l : List (List Nat)) : Nat := (l.map List.length).sum
theorem lsum_cons (a : List Nat) (l : List (List Nat)) : lsum (a :: l) = a.length + lsum l := rfl
theorem lsum_append (l m : List (List Nat)) : lsum (l ++ m) = lsum l + lsum m := by
  unfold lsum
  rw [List.map_append, List.sum_append]
theorem lsum_set {l : List (List Nat)} {i : Nat} {a b : List Nat} (h : l[i]? = some a) : lsum (l.set i b) + a.length = lsum l + b.length := by
  induction l generalizing i with
  | nil => simp at h
  | cons x l ih =>
    cases i with
    | zero =>
      simp at h
      subst h
      rw [List.set_cons_zero, lsum_cons, lsum_cons]
      omega
    | succ i =>
      rw [List.set_cons_succ, lsum_cons, lsum_cons]
      have := ih (i := i) (by simpa using h)
      omega
theorem grps_get {ns h : List Nat} {c i : Nat} (hi : i < c) : (grps ns h c)[i]? = some (grpOf ns h i) := by
  unfold grps
  rw [List.getElem?_map, List.getElem?_range hi]
  rfl
theorem grps_len (ns h : List Nat) (c : Nat) : (grps ns h c).length = c := by
  unfold grps
  rw [List.length_map, List.length_range]
theorem grps_snoc {ns h : List Nat} {x y c : Nat} (hl : ns.length = h.length) (hy : y < c) : grps (ns ++ [x]) (h ++ [y]) c = (grps ns h c).set y (grpOf ns h y ++ [x]) := by
  apply List.ext_getElem?
  intro k
  rcases Nat.lt_or_ge k c with z | z
  · rw [grps_get z, grpOf_snoc hl]
    by_cases e : y = k
    · subst e
      rw [if_pos rfl, List.getElem?_set_self (by rw [grps_len]; exact z)]
    · rw [if_neg e, List.getElem?_set_ne e, grps_get z]
  · rw [List.getElem?_eq_none (by rw [grps_len]; exact z), List.getElem?_eq_none (by rw [List.length_set, grps_len]; exact z)]
theorem grps_sum {c : Nat} : ∀ (k : Nat) {ns h : List Nat}, k = ns.length → ns.length = h.length → (∀ i ∈ h, i < c) → lsum (grps ns h c) = ns.length := by
  intro k
  induction k with
  | zero =>
    intro ns h e hl _
    have e1 : ns = [] := List.eq_nil_of_length_eq_zero e.symm
    subst e1
    have : grps [] h c = List.replicate c [] := by
      apply List.ext_getElem?
      intro k
      rw [List.getElem?_replicate]
      rcases Nat.lt_or_ge k c with z | z
      · rw [grps_get z, if_pos z]
        rfl
      · rw [if_neg (by omega), List.getElem?_eq_none (by rw [grps_len]; exact z)]
    rw [this]
    unfold lsum
    rw [List.map_replicate, List.sum_replicate_nat]
    simp
  | succ k ih =>
    intro ns h e hl hc
    rcases List.eq_nil_or_concat ns with e1 | ⟨ns', x, rfl⟩
    · rw [e1] at e; cases e
    rcases List.eq_nil_or_concat h with e2 | ⟨h', y, rfl⟩
    · rw [e2] at hl; simp at hl
    simp only [List.concat_eq_append] at *
    rw [List.length_append, List.length_append] at hl
    rw [List.length_append] at e
    have hl' : ns'.length = h'.length := by simpa using hl
    have hy := hc y (by simp)
    have := ih (ns := ns') (h := h') (by simpa using e) hl' (fun i hi => hc i (by simp [hi]))
    rw [grps_snoc hl' hy, List.length_append]
    have := lsum_set (l := grps ns' h' c) (i := y) (b := grpOf ns' h' y ++ [x]) (grps_get hy)
    rw [List.length_append] at this
    have e1 : [x].length = 1 := rfl
    omega
/-- the components of some nodes, those that lead to others first -/
structure Grp (g : Gr.G) (ns : List Nat) (gs : List (List Nat)) : Prop where
  mem : ∀ x, x ∈ ns ↔ ∃ G ∈ gs, x ∈ G
  ne : ∀ G ∈ gs, G ≠ []
  nd : ∀ G ∈ gs, G.Nodup
  sum : lsum gs = ns.length
  mu : ∀ G ∈ gs, ∀ x ∈ G, ∀ y ∈ ns, (y ∈ G ↔ RS g (· ∈ ns) x y ∧ RS g (· ∈ ns) y x)
  ed : ∀ (i j : Nat) (A B : List Nat), gs[i]? = some A → gs[j]? = some B → ∀ x ∈ A, ∀ y ∈ B, Gr.E g x y → i ≤ j
theorem grp_of {g : Gr.G} {ns h : List Nat} {c : Nat} (nd : ns.Nodup) (C : Gr.Comps (subN g ns) h c) : Grp g ns (grps ns h c) := by
  have hl : ns.length = h.length := by rw [C.len, subN_len]
  have hg : ∀ {G : List Nat}, G ∈ grps ns h c → ∃ i, i < c ∧ G = grpOf ns h i := fun {G} hG => by
    obtain ⟨i, hi, rfl⟩ := List.mem_map.mp hG
    exact ⟨i, List.mem_range.mp hi, rfl⟩
  refine ⟨fun x => ⟨fun hx => ?_, fun ⟨G, hG, hx⟩ => ?_⟩, fun G hG => ?_, fun G hG => ?_, grps_sum _ rfl hl C.lt, fun G hG x hx y hy => ?_, fun i j A B hA hB x hx y hy e => ?_⟩
  · obtain ⟨k, hk⟩ := List.mem_iff_getElem?.mp hx
    have hkl := lt_of_get hk
    have e := List.getElem?_eq_getElem (show k < h.length by omega)
    exact ⟨grpOf ns h h[k], List.mem_map.mpr ⟨h[k], List.mem_range.mpr (C.lt _ (List.getElem_mem _)), rfl⟩, grpOf_mem.mpr ⟨k, hk, e⟩⟩
  · obtain ⟨i, _, rfl⟩ := hg hG
    obtain ⟨k, hk, _⟩ := grpOf_mem.mp hx
    exact List.mem_of_getElem? hk
  · obtain ⟨i, hi, rfl⟩ := hg hG
    obtain ⟨k, hk⟩ := List.mem_iff_getElem?.mp (C.us i hi)
    have hkl := lt_of_get hk
    have := grpOf_mem (ns := ns) (h := h).mpr ⟨k, List.getElem?_eq_getElem (show k < ns.length by omega), hk⟩
    exact fun z => by rw [z] at this; cases this
  · obtain ⟨i, _, rfl⟩ := hg hG
    exact grpOf_nodup nd i
  · obtain ⟨i, hi, rfl⟩ := hg hG
    obtain ⟨k, hk, hk2⟩ := grpOf_mem.mp hx
    obtain ⟨l, hl1⟩ := List.mem_iff_getElem?.mp hy
    have hll := lt_of_get hl1
    have e := List.getElem?_eq_getElem (show l < h.length by omega)
    have key := C.eq k l i h[l] hk2 e
    unfold Gr.Mu at key
    rw [subN_rc nd hk hl1, subN_rc nd hl1 hk] at key
    rw [← key]
    constructor
    · intro q
      obtain ⟨l', h1, h2⟩ := grpOf_mem.mp q
      have ll := nd_inj nd hl1 h1
      subst ll
      exact (Option.some.inj (e.symm.trans h2)).symm
    · intro q
      exact grpOf_mem.mpr ⟨l, hl1, by rw [e, q]⟩
  · have hic : i < c := by have := lt_of_get hA; rwa [grps_len] at this
    have hjc : j < c := by have := lt_of_get hB; rwa [grps_len] at this
    rw [grps_get hic] at hA
    rw [grps_get hjc] at hB
    cases hA
    cases hB
    obtain ⟨k, h1, h2⟩ := grpOf_mem.mp hx
    obtain ⟨l, h3, h4⟩ := grpOf_mem.mp hy
    exact C.ed k l i j ((subN_E nd h1 h3).mpr e) h2 h4
/-- a cycle in S whose greatest number is of the kind p -/
def BadIn (g : Gr.G) (pr : Nat → Int) (p : Int) (S : Nat → Prop) : Prop := ∃ k v, S k ∧ pr k % 2 = p ∧ Gr.E g k v ∧ RS g (fun x => S x ∧ pr x ≤ pr k) v k
theorem BadIn.mono {g : Gr.G} {pr : Nat → Int} {p : Int} {S S' : Nat → Prop} (h : BadIn g pr p S) (m : ∀ x, S x → S' x) : BadIn g pr p S' := by
  obtain ⟨k, v, h1, h2, h3, h4⟩ := h
  exact ⟨k, v, m _ h1, h2, h3, h4.mono fun x q => ⟨m _ q.1, q.2⟩⟩
theorem bad_grp {g : Gr.G} {pr : Nat → Int} {p : Int} {ns : List Nat} {gs : List (List Nat)} (G : Grp g ns gs) : BadIn g pr p (· ∈ ns) ↔ ∃ A ∈ gs, BadIn g pr p (· ∈ A) := by
  constructor
  · rintro ⟨k, v, h1, h2, h3, h4⟩
    obtain ⟨A, hA, hk⟩ := (G.mem k).mp h1
    refine ⟨A, hA, k, v, hk, h2, h3, h4.cut.mono fun x ⟨⟨q1, q2⟩, q3, q4⟩ => ⟨?_, q2⟩⟩
    have q3' : RS g (· ∈ ns) v x := q3.mono fun y z => z.1
    have q4' : RS g (· ∈ ns) x k := q4.mono fun y z => z.1
    exact (G.mu A hA k hk x q1).mpr ⟨.step h1 h3 q3', q4'⟩
  · rintro ⟨A, hA, h⟩
    exact h.mono fun x hx => (G.mem x).mpr ⟨A, hA, hx⟩
theorem bad_high {g : Gr.G} {pr : Nat → Int} {p : Int} {ns : List Nat} {gs : List (List Nat)} (G : Grp g ns gs) {A : List Nat} (hA : A ∈ gs) {k : Nat} (hk : k ∈ A) (hm : ∀ x ∈ A, pr x ≤ pr k) (hp : pr k % 2 = p)
    (nt : 1 < A.length ∨ ∃ a, A[0]? = some a ∧ Gr.E g a a) : BadIn g pr p (· ∈ ns) := by
  have inn : ∀ x, x ∈ A → x ∈ ns := fun x hx => (G.mem x).mpr ⟨A, hA, hx⟩
  have two : (∃ y ∈ A, y ≠ k) ∨ Gr.E g k k := by
    by_cases c : ∃ y ∈ A, y ≠ k
    · exact .inl c
    · refine .inr ?_
      have all : ∀ y ∈ A, y = k := fun y hy => Classical.byContradiction fun z => c ⟨y, hy, z⟩
      rcases nt with nt | ⟨a, ha, he⟩
      · exfalso
        have e0 := List.getElem?_eq_getElem (show 0 < A.length by omega)
        have e1 := List.getElem?_eq_getElem nt
        have a0 := all _ (List.mem_of_getElem? e0)
        have a1 := all _ (List.mem_of_getElem? e1)
        rw [a0] at e0
        rw [a1] at e1
        have := nd_inj (G.nd A hA) e0 e1
        omega
      · rw [all a (List.mem_of_getElem? ha)] at he
        exact he
  rcases two with ⟨y, hy, hne⟩ | he
  · obtain ⟨r1, r2⟩ := (G.mu A hA k hk y (inn y hy)).mp hy
    -- the first edge of the walk to y
    have : ∃ v, Gr.E g k v ∧ RS g (· ∈ ns) v y := by
      cases r1 with
      | refl h => exact absurd rfl hne
      | step h e r => exact ⟨_, e, r⟩
    obtain ⟨v, e1, e2⟩ := this
    have e3 : RS g (· ∈ ns) v k := e2.trans r2
    refine ⟨k, v, inn k hk, hp, e1, e3.cut.mono fun x ⟨q1, q2, q3⟩ => ⟨q1, hm x ?_⟩⟩
    exact (G.mu A hA k hk x q1).mpr ⟨.step (inn k hk) e1 q2, q3⟩
  · exact ⟨k, k, inn k hk, hp, he, .refl ⟨inn k hk, Int.le_refl _⟩⟩
theorem bad_less {g : Gr.G} {pr : Nat → Int} {p m : Int} {A : List Nat} (hm : ∀ x ∈ A, pr x ≤ m) (hp : m % 2 ≠ p) : BadIn g pr p (· ∈ A) ↔ BadIn g pr p (· ∈ A.filter fun x => decide (pr x < m)) := by
  constructor
  · rintro ⟨k, v, h1, h2, h3, h4⟩
    have hk : pr k < m := by
      have := hm k h1
      have : pr k ≠ m := fun z => hp (by rw [← z]; exact h2)
      omega
    exact ⟨k, v, List.mem_filter.mpr ⟨h1, decide_eq_true hk⟩, h2, h3, h4.mono fun x q => ⟨List.mem_filter.mpr ⟨q.1, decide_eq_true (by have := q.2; omega)⟩, q.2⟩⟩
  · exact fun h => h.mono fun x hx => (List.mem_filter.mp hx).1
theorem bad_one {g : Gr.G} {pr : Nat → Int} {p : Int} {a : Nat} (h : ¬ Gr.E g a a) : ¬ BadIn g pr p (· ∈ [a]) := by
  rintro ⟨k, v, h1, h2, h3, h4⟩
  have e1 := List.mem_singleton.mp h1
  have e2 := List.mem_singleton.mp h4.src.1
  rw [e1, e2] at h3
  exact h h3
theorem row_repl (i j : Nat) : Gr.row (List.replicate i ([] : List Nat)) j = [] := by
  unfold Gr.row
  rw [List.getD_eq_getElem?_getD, List.getElem?_replicate]
  split <;> rfl
theorem NL.add {H0 H2 H3 : Hp} {D t : Addr} {bs : List Addr} {i : Nat} (s2 : Same H0 H2) (h2 : NL H0 D bs (List.replicate i []) H2) (nt : H2 t = none) (s : Same H2 H3) (et : H3 t = some (.lst [])) : NL H0 D (bs ++ [t]) (List.replicate (i + 1) []) (upd H3 D (.lst (bs.map V.ref ++ [V.ref t]))) := by
  have h3 := h2.keep s
  have hbl : bs.length = i := by rw [h2.len, List.length_replicate]
  have ntD : t ≠ D := fun z => by rw [z, h2.d] at nt; cases nt
  have ntb : t ∉ bs := fun z => by
    obtain ⟨j, hj⟩ := List.mem_iff_getElem?.mp z
    rw [h2.get j t hj] at nt
    cases nt
  refine ⟨?_, ?_, List.nodup_append.mpr ⟨h2.nd, by simp, fun a ha b hb' => by rw [List.mem_singleton.mp hb']; exact fun z => ntb (z ▸ ha)⟩, fun b hb' => ?_, fun j b hj => ?_⟩
  · rw [upd_same, List.map_append]; rfl
  · rw [List.length_append, hbl]; simp
  · rcases List.mem_append.mp hb' with z | z
    · exact h2.fr b z
    · rw [List.mem_singleton.mp z]; exact ⟨s2.free nt, ntD⟩
  · rcases snocg hj with ⟨_, z⟩ | ⟨_, z⟩
    · rw [upd_ne (h2.fr b (List.mem_of_getElem? z)).2, h3.get j b z, row_repl, row_repl]
    · rw [z, upd_ne ntD, et, row_repl]; rfl
def spPart : Sp := fun vs H Q _ => ∃ (r a : Addr) (g : Gr.G) (ns : List Nat), vs = [.ref r, .ref a] ∧ GrL H r g ∧ H a = some (.lst (ns.map VN)) ∧ ns.Nodup ∧ (∀ n ∈ ns, n < g.length) ∧ g.length ≤ 1000 ∧ (∀ n, (Gr.row g n).length ≤ 1000) ∧
  ∀ (H' : Hp) (y : Addr), Same H H' → H y = none → GrL H' y (subN g ns) → Q (.ref y) H'
theorem sub_row_snoc (ns l : List Nat) (x : Nat) : ((l ++ [x]).filter fun v => decide (v ∈ ns)).map ns.idxOf = if x ∈ ns then (l.filter fun v => decide (v ∈ ns)).map ns.idxOf ++ [ns.idxOf x] else (l.filter fun v => decide (v ∈ ns)).map ns.idxOf := by
  rw [List.filter_append, List.map_append]
  by_cases h : x ∈ ns
  · rw [if_pos h, List.filter_cons_of_pos (by simpa using h)]; rfl
  · rw [if_neg h, List.filter_cons_of_neg (by simpa using h)]; simp
abbrev pScope : Scope := { kind := ScopeKind.function, names := [(".0", NameKind.local), ("node", NameKind.local), ("graph", NameKind.cell), ("numbers", NameKind.cell)], isGenerator := false, isCoroutine := false }
theorem cal_part (T : Txt K mg) : C8.Cal P w K mg base 1 "part_of" spPart [] := by
  obtain ⟨f, fd, F, hm, hb⟩ := T.h_part_of
  refine ⟨f, fd, _, [], F.ok sc_part_of (fun vs H Q E h => ?_) (fun cdv A outer s H vs Q E hr h => ?_), hm, F.kp, hb, .nil⟩
  · obtain ⟨r, a, g, ns, rfl, _⟩ := h
    rfl
  · obtain ⟨r, U, g, ns, rfl, hG, eU, hnd, hlt, hgl, hrl, q⟩ := h
    refine ⟨_, (pss_cons
      (ps_set (i := 2) sc_part_of.nd rfl (Or.inr rfl) (pe_dc (own := [("at", 3), ("node", 4)]) (g := gTup K 2 (gCons (gName 3) (gCons (gName 4) gNil))) (tt := tYes) rfl sc_part_of.nd (pi_enum (by rfl) T.z_enumerate (pa_cons (pv 1) pa_nil)) (blkOk_by (N := N_part_of) (sc := defScope s_part_of) (by decide +kernel)) (fun _ _ _ _ _ => (pg_tup (by rfl) (pgs_cons (pg_name (i := 3) sc_part_of.nd rfl (Or.inl rfl)) (pgs_cons (pg_name (i := 4) sc_part_of.nd rfl (Or.inl rfl)) pgs_nil)))) (fun _ _ _ _ _ => pts_nil) (fun _ _ _ _ _ => (pv 4)) (fun _ _ _ _ _ => (pv 3))))
      (pss_one
      (ps_ret (pe_lc (own := [("node", 4)]) (g := gName 4) (tt := tYes) rfl sc_part_of.nd (pi_list (pv 1)) (blkOk_by (N := N_part_of) (sc := defScope s_part_of) (by decide +kernel)) (fun _ _ _ _ _ => (pg_name (i := 4) sc_part_of.nd rfl (by first | exact Or.inl rfl | exact Or.inr rfl))) (fun _ _ _ _ _ => pts_nil) (fun _ _ _ _ _ => (pe_lc (own := [("target", 5)]) (g := gName 5) rfl sc_part_of.nd (pi_listK (K := K) rfl (pe_ix (ix_listK (K := K) rfl) (pv 0) (pv 4) (fun _ _ => rfl))) (blkOk_by (N := N_part_of) (sc := pScope) (by decide +kernel)) (fun _ _ _ _ _ => (pg_name (i := 5) sc_part_of.nd rfl (Or.inl rfl))) (fun _ _ _ _ _ => (pts_one (pt_cmp (pc_din (hu_of hr) (pv 5) (pv 2))))) (fun _ _ _ _ _ => (pe_dget (hu_of hr) (pv 2) (pv 5) (fun _ _ => rfl))))))))), ?_⟩
    obtain ⟨as, hr0, hal, ha⟩ := id hG
    have hul : ns.length ≤ 1000 := by have := nd_len hnd hlt; omega
    refine ⟨_, rfl, U, _, rfl, .of eU, fun d nd => dc_it (walk_enum (K := K) (a := U) (xs := ns.map VN)) (fun i H' => Same H H' ∧ H' d = some (.dK (numK (ns.take i))))
      ⟨same_new nd, upd_same⟩ (fun i H' _ ⟨z, _⟩ => .of (z _ _ eU)) ?_ ?_⟩
    · rintro i v H3 H4 hi ⟨s3, ed⟩ ⟨p, xi, y, rfl, np, rfl, hx, hy⟩
      obtain rfl := Option.some.inj hx
      obtain ⟨u, hu, rfl⟩ := nats_get hy
      generalize hX : upd H3 p _ = H4; obtain ⟨sH4, ep⟩ := nw np hX; clear hX
      refine ⟨p, _, rfl, .of ep, rfl, _, _, rfl, _, _, rfl, rfl, rfl, ?_⟩
      have ed4 := sH4 _ _ ed
      have hil := lt_of_get hu
      have hni : u ∉ ns.take i := fun hm => by
        obtain ⟨j, hj⟩ := List.mem_iff_getElem?.mp hm
        rw [List.getElem?_take] at hj
        split at hj
        · rename_i hji
          have := nd_inj hnd hj hu
          omega
        · cases hj
      have hput := numK_put hni
      rw [List.length_take, Nat.min_eq_left (Nat.le_of_lt hil)] at hput
      refine ⟨_, rfl, _, rfl, _, Sum.inl (u : Int), rfl, ed4, by rw [numK_len, List.length_take]; exact Nat.lt_of_le_of_lt (show min i ns.length ≤ 1000 by omega) (by decide), fun a o e => by rw [upd_ne (ne_of_none e nd)]; exact (s3.trans sH4) _ _ e, ?_⟩
      show upd H4 d (.dK (putK (numK (ns.take i)) (Sum.inl (u : Int)) (VN i))) d = _
      rw [upd_same, hput, take_succ' hu]
    rintro H3 ⟨s3, ed⟩
    rw [List.length_map, List.take_length] at ed
    have eU3 := s3 _ _ eU
    refine ⟨_, rfl, U, rfl, ⟨_, .of eU3⟩, fun R nR => lc_list (K := K) (a := U) (xs := ns.map VN) (fun i H' => ∃ ys : List Addr, Same H3 H' ∧ H' R = some (.lst (ys.map V.ref)) ∧ ys.length = i ∧ ∀ (j : Nat) (y : Addr), ys[j]? = some y → y ≠ R ∧ H' y = some (.lst ((Gr.row (subN g ns) j).map VN)))
      ⟨[], same_new nR, upd_same, rfl, fun i a h => by (cases h)⟩ (fun i H' _ ⟨_, z, _⟩ => .of (z _ _ eU3)) ?_ ?_⟩
    · rintro i v H4 hi ⟨ys, s4, eR, hyl, hys⟩
      obtain ⟨u, hu, rfl⟩ := nats_get hi
      have hus := hlt u (List.mem_of_getElem? hu)
      obtain ⟨a, haa⟩ : ∃ a, as[u]? = some a := ⟨_, List.getElem?_eq_getElem (by rw [hal]; exact hus)⟩
      have hra := ha u a haa
      have s04 := s3.trans s4
      refine ⟨rfl, _, rfl, _, rfl, r, _, _, .ref a, rfl, rfl, .of (s04 _ _ hr0), atN haa, a, rfl, ⟨_, .of (s04 _ _ hra)⟩, fun D nD => ?_⟩
      have nDR : D ≠ R := fun z => by rw [z, eR] at nD; cases nD
      refine lc_list (K := K) (a := a) (xs := (Gr.row g u).map VN) (fun j H' => Same H4 H' ∧ H' D = some (.lst (((((Gr.row g u).take j).filter fun v => decide (v ∈ ns)).map ns.idxOf).map VN)))
        ⟨same_new nD, upd_same⟩ (fun j H' _ ⟨z, _⟩ => .of (z _ _ (s04 _ _ hra))) ?_ ?_
      · rintro j v H5 hj ⟨s5, eD⟩
        obtain ⟨z, hz, rfl⟩ := nats_get hj
        have ed5 := s5 _ _ (s4 _ _ ed)
        refine ⟨rfl, _, rfl, _, rfl, d, _, rfl, DGet.k (k := Sum.inl (z : Int)) ed5, _, rfl, ?_⟩
        rw [take_succ' hz, sub_row_snoc]
        by_cases hm : z ∈ ns
        · have hv : valV (numK ns) (Sum.inl (z : Int) : L2.Key) = some (VN (ns.idxOf z)) := by
            rw [numK_val, if_pos ⟨by rw [Int.toNat_natCast]; exact hm, Int.natCast_nonneg z⟩, Int.toNat_natCast]
          rw [hv, if_pos hm]
          refine iteB_t rfl ⟨_, rfl, _, rfl, d, VN (ns.idxOf z), rfl, ?_, _, eD, ?_, fun p o e => by rw [upd_ne (ne_of_none e nD)]; exact s5 _ _ e, by rw [upd_same, List.map_append]; rfl⟩
          · have := DGet.k (k := Sum.inl (z : Int)) ed5
            rw [hv] at this
            exact this
          · rw [List.length_map, List.length_map]
            have h1 := List.length_filter_le (fun v => decide (v ∈ ns)) ((Gr.row g u).take j)
            have h2 := hrl u
            rw [List.length_take] at h1
            exact Nat.lt_of_le_of_lt (show _ ≤ 1000 by omega) (by decide)
        · have hv : valV (numK ns) (Sum.inl (z : Int) : L2.Key) = none := by
            rw [numK_val, if_neg (fun q => hm (by have := q.1; rw [Int.toNat_natCast] at this; exact this))]
          rw [hv, if_neg hm]
          exact iteB_f rfl ⟨s5, eD⟩
      · rintro H5 ⟨s5, eD⟩
        rw [List.length_map, List.take_length] at eD
        have hil := lt_of_get hu
        refine ⟨_, s5 _ _ eR, by rw [List.length_map]; exact Nat.lt_of_le_of_lt (show ys.length ≤ 1000 by omega) (by decide), ys ++ [D], fun p o e => by rw [upd_ne (ne_of_none e nR)]; exact s5 _ _ (s4 _ _ e), by rw [upd_same, List.map_append]; rfl, by rw [List.length_append, hyl]; rfl, fun j y hj => ?_⟩
        rcases snocg hj with ⟨_, k⟩ | ⟨k1, k2⟩
        · obtain ⟨n1, h1⟩ := hys j y k
          exact ⟨n1, by rw [upd_ne n1]; exact s5 _ _ h1⟩
        · subst k2
          rw [hyl] at k1
          subst k1
          exact ⟨nDR, by rw [upd_ne nDR, eD, row_subN hu]⟩
    rintro H4 ⟨ys, s4, eR, hyl, hys⟩
    rw [List.length_map] at hyl
    exact q H4 R (s3.trans s4) (s3.free nR) ⟨ys, eR, by rw [hyl, subN_len], fun i a h => (hys i a h).2⟩
theorem le_of_all : ∀ {c : Nat} {h : List Nat}, (∀ i, i < c → i ∈ h) → c ≤ h.length
  | 0, _, _ => Nat.zero_le _
  | c + 1, h, k => by
    have hm := k c (Nat.lt_succ_self c)
    have := le_of_all (c := c) (h := h.erase c) fun i hi => (List.mem_erase_of_ne (by omega)).mpr (k i (by omega))
    rw [List.length_erase_of_mem hm] at this
    have := List.length_pos_of_mem hm
    omega
theorem below_le {w : Nat → Nat} {M : Nat} (h : ∀ u, w u ≤ M) : ∀ n, Gr.below w n ≤ n * M
  | 0 => by show 0 ≤ _; omega
  | n + 1 => by
    have := below_le h n
    have h2 := h n
    show Gr.below w n + w n ≤ _
    rw [Nat.add_mul, Nat.one_mul]
    omega
theorem subN_row_le {g : Gr.G} {ns : List Nat} {M : Nat} (h : ∀ n, (Gr.row g n).length ≤ M) (i : Nat) : (Gr.row (subN g ns) i).length ≤ M := by
  rcases Nat.lt_or_ge i ns.length with c | c
  · rw [row_subN (List.getElem?_eq_getElem c), List.length_map]
    exact Nat.le_trans (List.length_filter_le _ _) (h _)
  · rw [row_ge (by rw [subN_len]; exact c)]
    exact Nat.zero_le _
theorem max_c {g : Gr.G} {h : List Nat} {c : Nat} (C : Gr.Comps g h c) {m : Int} (h1 : h.map (Int.ofNat) = [] → m = -1) (h2 : h.map (Int.ofNat) ≠ [] → m ∈ h.map (Int.ofNat) ∧ ∀ y ∈ h.map (Int.ofNat), y ≤ m) : m + 1 = (c : Int) := by
  by_cases e : h = []
  · subst e
    rw [h1 rfl]
    have : c = 0 := by
      rcases Nat.eq_zero_or_pos c with z | z
      · exact z
      · have := C.us 0 z
        cases this
    omega
  · obtain ⟨k1, k2⟩ := h2 (fun z => e (List.map_eq_nil_iff.mp z))
    obtain ⟨i, hi, rfl⟩ := List.mem_map.mp k1
    have l1 := C.lt i hi
    have hc : c - 1 < c := by omega
    have l2 := k2 _ (List.mem_map.mpr ⟨_, C.us _ hc, rfl⟩)
    have e1 : Int.ofNat i = (i : Int) := rfl
    have e2 : Int.ofNat (c - 1) = ((c - 1 : Nat) : Int) := rfl
    rw [e1] at l2 ⊢
    rw [e2] at l2
    omega
theorem grps_nil (c : Nat) : grps [] [] c = List.replicate c [] := by
  apply List.ext_getElem?
  intro k
  rw [List.getElem?_replicate]
  rcases Nat.lt_or_ge k c with z | z
  · rw [grps_get z, if_pos z]
    rfl
  · rw [if_neg (by omega), List.getElem?_eq_none (by rw [grps_len]; exact z)]
def spCL : Sp := fun vs H Q _ => ∃ (r a : Addr) (g : Gr.G) (ns : List Nat), vs = [.ref r, .ref a] ∧ GrL H r g ∧ H a = some (.lst (ns.map VN)) ∧ ns.Nodup ∧ (∀ n ∈ ns, n < g.length) ∧ g.length ≤ 1000 ∧ (∀ n, (Gr.row g n).length ≤ 1000) ∧
  ∀ (H' : Hp) (y : Addr) (bs : List Addr) (gs : List (List Nat)), Same H H' → NL H y bs gs H' → H y = none → Grp g ns gs → Q (.ref y) H'
theorem cal_cl (T : Txt K mg) : C8.Cal P w K mg base 3 "component_lists" spCL [] := by
  have C_part_of : C8.Cal P w K mg base 1 "part_of" spPart [] := cal_part T
  have C_components : C8.Cal P w K mg base 2 "components" spComp [] := cal_comp T
  obtain ⟨f, fd, F, hm, hb⟩ := T.h_component_lists
  refine ⟨f, fd, _, [], F.ok sc_component_lists (fun vs H Q E h => ?_) (fun cdv A outer s H vs Q E hr h => ?_), hm, F.kp, hb, .nil⟩
  · obtain ⟨r, a, g, ns, rfl, _⟩ := h
    rfl
  · obtain ⟨r, U, g, ns, rfl, hG, eU, hnd, hlt, hgl, hrl, q⟩ := h
    refine ⟨_, (pss_cons
      (ps_set (i := 2) sc_component_lists.nd rfl (Or.inl rfl) (C8.pe_c C_components hr (by decide) (by rfl) (pa_cons (C8.pe_c C_part_of hr (by decide) (by rfl) (pa_cons (pv 0) (pa_cons (pv 1) pa_nil))) pa_nil)))
      (pss_cons
      (ps_setLc (i := 3) (own := [("_", 6)]) (g := gName 6) (tt := tYes) rfl sc_component_lists.nd rfl rfl (sw_true rfl rfl rfl (by decide +kernel)) (pi_range1 (by rfl) T.z_range (pa_cons (pe_op op_add (pe_callBK (call_maxD (K := K) rfl rfl) (by rfl) T.z_max (by decide +kernel) (pa_cons (pv 2) pa_nil) (pk_cons (pe_un un_neg pe_int) pk_nil)) pe_int) pa_nil)) (blkOk_by (N := N_component_lists) (sc := defScope s_component_lists) (by decide +kernel)) (fun _ _ _ _ _ => (pg_name (i := 6) sc_component_lists.nd rfl (Or.inl rfl))) (fun _ _ _ _ _ => pts_nil) (fun _ _ _ _ _ => (pe_lst pa_nil)))
      (pss_cons
      (ps_for PassesOwn.never rfl (pi_zip (by rfl) T.z_zip (pa_cons (pv 1) (pa_cons (pv 2) pa_nil))) (pg_tup (by rfl) (pgs_cons (pg_name (i := 4) sc_component_lists.nd rfl (.inl rfl)) (pgs_cons (pg_name (i := 5) sc_component_lists.nd rfl (.inl rfl)) pgs_nil))) (pss_one
      (ps_expr (pe_bm PySem.F.plainAttrs_list PySem.F.slot_list_append PySem.F.type_list_append mt_append (pe_ix (ix_listK (K := K) rfl) (pv 3) (pv 5) (fun _ _ => rfl)) (pa_cons (pv 4) pa_nil)))))
      (pss_one
      (ps_ret (pv 3)))))), ?_⟩
    have hul : ns.length ≤ 1000 := by have := nd_len hnd hlt; omega
    refine ⟨_, rfl, _, rfl, r, U, g, ns, rfl, hG, eU, hnd, hlt, hgl, hrl, fun H1 y s1 ny hS => ?_⟩
    have hsm : Small (subN g ns) := by
      refine ⟨by rw [subN_len]; omega, ?_⟩
      have := below_le (w := fun u => (Gr.row (subN g ns) u).length) (subN_row_le hrl) (subN g ns).length
      rw [subN_len] at this ⊢
      have h2 : ns.length * 1000 ≤ 1000 * 1000 := Nat.mul_le_mul_right _ hul
      omega
    refine ⟨y, subN g ns, rfl, hS, subN_ok g ns, hsm, fun H2 z h c s2 nz ez C => ?_⟩
    have s02 := s1.trans s2
    have hhl : h.length = ns.length := by rw [C.len, subN_len]
    have hcl : c ≤ ns.length := by
      have := le_of_all C.us
      omega
    refine ⟨_, rfl, _, rfl, z, h.map Int.ofNat, -1, rfl, rfl, .of (by rw [ez, List.map_map]; rfl), fun m h1 h2 => ⟨_, _, rfl, rfl, _, rfl, ?_⟩⟩
    have hm1 := max_c C h1 h2
    rw [hm1]
    refine ⟨by omega, by omega, fun D nD => ?_⟩
    rw [Int.toNat_natCast]
    refine lc_range (lo := 0) (n := c) (fun i H' => ∃ bs : List Addr, Same H2 H' ∧ NL H2 D bs (List.replicate i []) H')
      ⟨[], same_new nD, upd_same, rfl, by simp, by simp, by simp⟩ ?_ ?_
    · rintro i H3 hi ⟨bs, s3, h3⟩
      refine ⟨rfl, Nat.zero_le _, fun t nt => ?_⟩
      generalize hX : upd H3 t _ = H4; obtain ⟨sH4, et⟩ := nw nt hX; clear hX
      have hbl : bs.length = i := by rw [h3.len, List.length_replicate]
      refine ⟨_, sH4 _ _ h3.d, by rw [List.length_map]; exact Nat.lt_of_le_of_lt (show bs.length ≤ 1000 by omega) (by decide), bs ++ [t], fun x y e => by rw [upd_ne (ne_of_none e nD)]; exact (s3.trans sH4) _ _ e, h3.add s3 nt sH4 et⟩
    rintro H3 ⟨bs, s3, h3⟩
    rw [← grps_nil] at h3
    have s03 := s02.trans s3
    refine ⟨_, rfl, _, rfl, U, z, ns.map VN, h.map VN, rfl, .of (s03 _ _ eU), .of (s3 _ _ ez), ?_⟩
    refine for_it (walk_zip (K := K) (a := U) (b := z) (xs := ns.map VN) (ys := h.map VN) (n := ns.length) (by rw [List.length_map, List.length_map, hhl, Nat.min_self])) (fun i σ H' => ∃ v4 v5 v6 : Option V, σ = [some (.ref r), some (.ref U), some (.ref z), some (.ref D), v4, v5, v6] ∧ (∀ b o, H2 b = some o → H' b = some o) ∧ NL H2 D bs (grps (ns.take i) (h.take i) c) H')
      ⟨none, none, none, rfl, s3, h3⟩ (fun i σ H' _ ⟨_, _, _, _, s, _⟩ => ⟨.of (s _ _ (s02 _ _ eU)), .of (s _ _ ez)⟩) ?_ ?_
    · rintro i v σ H4 H5 hi ⟨v4, v5, v6, rfl, s4, h4⟩ ⟨t, y1, y2, rfl, nt, rfl, hy1, hy2⟩
      obtain ⟨u, hu, rfl⟩ := nats_get hy1
      obtain ⟨j, hj, rfl⟩ := nats_get hy2
      generalize hX : upd H4 t _ = H5; obtain ⟨sH5, et⟩ := nw nt hX; clear hX
      have h5 := h4.keep sH5
      refine ⟨t, _, rfl, .of et, rfl, _, _, rfl, _, _, rfl, rfl, ?_⟩
      have hjc := C.lt j (List.mem_of_getElem? hj)
      have hil := lt_of_get hu
      have hjb : j < bs.length := by rw [h4.len, grps_len]; exact hjc
      have hbb := List.getElem?_eq_getElem hjb
      have eb := h5.get j _ hbb
      have hrow : Gr.row (grps (ns.take i) (h.take i) c) j = grpOf (ns.take i) (h.take i) j := by
        unfold Gr.row
        rw [List.getD_eq_getElem?_getD, grps_get hjc]
        rfl
      rw [hrow] at eb
      have hgle : (grpOf (ns.take i) (h.take i) j).length ≤ 1000 := by
        unfold grpOf
        rw [List.length_map]
        refine Nat.le_trans (List.length_filter_le _ _) ?_
        rw [List.length_zip, List.length_take, List.length_take]
        omega
      refine ⟨_, rfl, _, rfl, D, _, _, .ref bs[j], rfl, rfl, .of h5.d, atN hbb, .inl ⟨rfl, _, .of eb⟩, _, rfl, bs[j], _, _, rfl, rfl, eb, by rw [List.length_map]; exact Nat.lt_of_le_of_lt hgle (by decide), ?_⟩
      rw [show (grpOf (ns.take i) (h.take i) j).map VN ++ [VN u] = (grpOf (ns.take i) (h.take i) j ++ [u]).map VN by rw [List.map_append]; rfl]
      have hfr := h4.fr bs[j] (List.mem_of_getElem? hbb)
      refine ⟨_, _, _, rfl, fun b o e => ?_, ?_⟩
      · rw [upd_ne (ne_of_none e hfr.1)]
        exact sH5 _ _ (s4 _ _ e)
      · rw [take_succ' hu, take_succ' hj, grps_snoc (by rw [List.length_take, List.length_take, hhl]) hjc]
        exact h5.put hbb
    · rintro σ H4 ⟨v4, v5, v6, rfl, s4, h4⟩
      rw [List.take_length, ← hhl, List.take_length] at h4
      exact ⟨_, rfl, q H4 D bs _ (s02.trans s4) ⟨h4.d, h4.len, h4.nd, fun b hb => ⟨s02.free (h4.fr b hb).1, (h4.fr b hb).2⟩, h4.get⟩ (s02.free nD) (grp_of hnd C)⟩
theorem op_inK {X : Cx} {K : PySem.W.Frag} (h : X.K = K) : OpR X (compareOp .In) (rIn K false) := by
  subst h
  exact op_in_seq
theorem op_notInK {X : Cx} {K : PySem.W.Frag} (h : X.K = K) : OpR X (compareOp .NotIn) (rIn K true) := by
  subst h
  exact op_notIn_seq
structure Wls (H : Hp) (W : Addr) (ws : List Addr) (Ls : List (List Nat)) : Prop where
  at_ : H W = some (.lst (ws.map V.ref))
  len : ws.length = Ls.length
  get : ∀ (i : Nat) (a : Addr), ws[i]? = some a → a ≠ W ∧ ∃ L, Ls[i]? = some L ∧ H a = some (.lst (L.map VN))
theorem Wls.snoc {H : Hp} {W a : Addr} {ws : List Addr} {Ls : List (List Nat)} {L : List Nat} (h : Wls H W ws Ls) (na : a ≠ W) (ha : H a = some (.lst (L.map VN))) : Wls (upd H W (.lst (ws.map V.ref ++ [V.ref a]))) W (ws ++ [a]) (Ls ++ [L]) := by
  refine ⟨by rw [upd_same, List.map_append]; rfl, by rw [List.length_append, List.length_append, h.len]; rfl, fun i x e => ?_⟩
  rcases snocg e with ⟨k0, k⟩ | ⟨k1, k2⟩
  · obtain ⟨n, L', h1, h2⟩ := h.get i x k
    exact ⟨n, L', by rw [List.getElem?_append_left (lt_of_get h1)]; exact h1, by rw [upd_ne n]; exact h2⟩
  · subst k2
    exact ⟨na, L, by rw [List.getElem?_append_right (by rw [k1, h.len]; exact Nat.le_refl _), show i - Ls.length = 0 by rw [k1, h.len]; omega]; rfl, by rw [upd_ne na]; exact ha⟩
theorem Wls.keep {H H' : Hp} {W : Addr} {ws : List Addr} {Ls : List (List Nat)} (s : Same H H') (h : Wls H W ws Ls) : Wls H' W ws Ls := ⟨s _ _ h.at_, h.len, fun i a e => by
  obtain ⟨n, L, h1, h2⟩ := h.get i a e
  exact ⟨n, L, h1, s _ _ h2⟩⟩
theorem Wls.pop {H H3 : Hp} {W a : Addr} {ws : List Addr} {Ls : List (List Nat)} {L : List Nat} (h : Wls H W (ws ++ [a]) (Ls ++ [L])) (e3 : H3 W = some (.lst (ws.map V.ref))) (k : ∀ q, q ≠ W → H3 q = H q) : Wls H3 W ws Ls ∧ a ≠ W ∧ H3 a = some (.lst (L.map VN)) := by
  have hl := h.len
  rw [List.length_append, List.length_append] at hl
  have hl' : ws.length = Ls.length := by simpa using hl
  refine ⟨⟨e3, hl', fun i x e => ?_⟩, ?_⟩
  · have hi := lt_of_get e
    obtain ⟨n, L', h1, h2⟩ := h.get i x (by rw [List.getElem?_append_left hi]; exact e)
    rw [List.getElem?_append_left (by omega)] at h1
    exact ⟨n, L', h1, by rw [k x n]; exact h2⟩
  · obtain ⟨n, L', h1, h2⟩ := h.get ws.length a (by rw [List.getElem?_append_right (Nat.le_refl _)]; simp)
    rw [hl', List.getElem?_append_right (Nat.le_refl _)] at h1
    simp at h1
    subst h1
    exact ⟨n, by rw [k a n]; exact h2⟩
def prF (ps : List Int) (k : Nat) : Int := ps.getD k 0
def spWG : Sp := fun vs H Q _ => ∃ (r a pa : Addr) (p : Int) (g : Gr.G) (ns : List Nat) (ps : List Int), vs = [.ref r, .ref a, .ref pa, .int p] ∧ GrL H r g ∧ H a = some (.lst (ns.map VN)) ∧ ns.Nodup ∧ (∀ n ∈ ns, n < g.length) ∧ g.length ≤ 1000 ∧ (∀ n, (Gr.row g n).length ≤ 1000) ∧ H pa = some (.tup (ps.map V.int)) ∧ ps.length = g.length ∧
  (¬ BadIn g (prF ps) p (· ∈ ns) → ∀ H', Same H H' → Q .non H') ∧ (BadIn g (prF ps) p (· ∈ ns) → ∀ (H' : Hp) (b : Addr), Same H H' → Q (.ref b) H')
theorem prf_get {ps : List Int} {k : Nat} (h : k < ps.length) : ps[k]? = some (prF ps k) := by
  unfold prF
  rw [List.getD_eq_getElem?_getD, List.getElem?_eq_getElem h]; rfl
theorem lsum_drop {gs : List (List Nat)} {i : Nat} {A : List Nat} (h : gs[i]? = some A) : lsum (gs.drop i) = A.length + lsum (gs.drop (i + 1)) := by
  rw [List.drop_eq_getElem?_toList_append, h]; rfl
theorem mem_drop {gs : List (List Nat)} {i : Nat} {A : List Nat} (h : gs[i]? = some A) (R : List Nat → Prop) : (∃ B ∈ gs.drop i, R B) ↔ (R A ∨ ∃ B ∈ gs.drop (i + 1), R B) := by
  rw [List.drop_eq_getElem?_toList_append, h]
  simp
theorem inV_nat (x : Nat) (ts : List Nat) : inV (VN x) (ts.map VN) = decide (x ∈ ts) := by
  rw [Bool.eq_iff_iff, decide_eq_true_iff]
  unfold inV
  rw [List.any_eq_true]
  constructor
  · rintro ⟨y, hy, h⟩
    obtain ⟨z, hz, rfl⟩ := List.mem_map.mp hy
    have : z = x := by
      have h' : ((z : Int) == (x : Int)) = true := by simpa [eqV, VN] using h
      have := of_decide_eq_true h'
      omega
    rw [← this]; exact hz
  · intro h
    exact ⟨VN x, List.mem_map.mpr ⟨x, h, rfl⟩, by simp [eqV, VN]⟩
theorem flat_nats {ts : List Nat} : (ts.map VN).all flatV = true := List.all_eq_true.mpr fun y hy => by obtain ⟨z, _, rfl⟩ := List.mem_map.mp hy; rfl
theorem cal_wg (T : Txt K mg) : C8.Cal P w K mg base 4 "winning_group" spWG [] := by
  have C_component_lists : C8.Cal P w K mg base 3 "component_lists" spCL [] := cal_cl T
  obtain ⟨f, fd, F, hm, hb⟩ := T.h_winning_group
  refine ⟨f, fd, _, [], F.ok sc_winning_group (fun vs H Q E h => ?_) (fun cdv A outer s H vs Q E hr h => ?_), hm, F.kp, hb, .nil⟩
  · obtain ⟨r, a, pa, p, g, ns, ps, rfl, _⟩ := h
    rfl
  · obtain ⟨r, U, pa, p, g, ns, ps, rfl, hG, eU, hnd, hlt, hgl, hrl, ePs, hpl, q1, q2⟩ := h
    refine ⟨_, (pss_cons
      (ps_set (i := 4) sc_winning_group.nd rfl (Or.inl rfl) (pe_lst (pa_cons (pv 1) pa_nil)))
      (C8.pss_cut
      (ps_while PassesOwn.never (pt_cmpR op_gt (pe_callB (call_lenK (K := K) rfl) (by rfl) T.z_len PySem.boot_len (pa_cons (pv 4) pa_nil)) pe_int (nomark _)) (pss_cons
      (ps_set (i := 5) sc_winning_group.nd rfl (Or.inl rfl) (C8.pe_c C_component_lists hr (by decide) (by rfl) (pa_cons (pv 0) (pa_cons (pe_bm0 PySem.F.plainAttrs_list PySem.F.slot_list_pop PySem.F.type_list_pop mt_pop (pv 4)) pa_nil))))
      (pss_one
      (ps_for PassesOwn.never rfl (pi_list (pv 5)) (pg_name (i := 6) sc_winning_group.nd rfl (.inl rfl)) (pss_one
      (ps_if (PW.pt (pw_or (pt_cmpR op_gt (pe_callB (call_lenK (K := K) rfl) (by rfl) T.z_len PySem.boot_len (pa_cons (pv 6) pa_nil)) pe_int (nomark _)) (pw_or1 (pt_cmpR (op_inK (K := K) rfl) (pe_ix (ix_listK (K := K) rfl) (pv 6) pe_int (fun _ _ => rfl)) (pe_ix (ix_listK (K := K) rfl) (pv 0) (pe_ix (ix_listK (K := K) rfl) (pv 6) pe_int (fun _ _ => rfl)) (fun _ _ => rfl)) (by rfl))))) (pss_cons
      (ps_set (i := 7) sc_winning_group.nd rfl (Or.inr rfl) (pe_callB (call_maxK (K := K) rfl rfl) (by rfl) T.z_max (by decide +kernel) (pa_cons (pe_lc (own := [("place", 8)]) (g := gName 8) (tt := tYes) rfl sc_winning_group.nd (pi_list (pv 6)) (blkOk_by (N := N_winning_group) (sc := defScope s_winning_group) (by decide +kernel)) (fun _ _ _ _ _ => (pg_name (i := 8) sc_winning_group.nd rfl (Or.inl rfl))) (fun _ _ _ _ _ => pts_nil) (fun _ _ _ _ _ => (pe_ix (ix_tupK (K := K) rfl) (pv 2) (pv 8) (fun _ _ => rfl)))) pa_nil)))
      (pss_cons
      (ps_if (pt_cmpR op_eq (pe_op op_mod (pv 7) pe_int) (pv 3) (nomark _)) (pss_one
      (ps_ret (pv 6))) pss_nil)
      (pss_one
      (ps_expr (pe_bm PySem.F.plainAttrs_list PySem.F.slot_list_append PySem.F.type_list_append mt_append (pv 4) (pa_cons (pe_lc (own := [("place", 8)]) (g := gName 8) rfl sc_winning_group.nd (pi_list (pv 6)) (blkOk_by (N := N_winning_group) (sc := defScope s_winning_group) (by decide +kernel)) (fun _ _ _ _ _ => (pg_name (i := 8) sc_winning_group.nd rfl (Or.inl rfl))) (fun _ _ _ _ _ => (pts_one (pt_cmpR op_lt (pe_ix (ix_tupK (K := K) rfl) (pv 2) (pv 8) (fun _ _ => rfl)) (pv 7) (nomark _)))) (fun _ _ _ _ _ => (pv 8))) pa_nil)))))) pss_nil))))))
      (pss_one
      (ps_ret pe_non)))), ?_⟩
    have hul : ns.length ≤ 1000 := by have := nd_len hnd hlt; omega
    obtain ⟨as, hr0, hal, ha⟩ := id hG
    refine ⟨_, rfl, by show 1 ≤ sizeLine; decide, fun W nW => ?_⟩
    generalize hX : upd H W _ = H1; obtain ⟨sH1, eW⟩ := nw nW hX; clear hX
    refine ⟨fun σ H' => ¬ BadIn g (prF ps) p (· ∈ ns) ∧ Same H H', ?_, fun σ H' ⟨z, s⟩ => q1 z H' s⟩
    have hW1 : Wls H1 W [U] [ns] := ⟨eW, rfl, fun i a e => by
      cases i with
      | zero =>
        simp at e
        subst e
        exact ⟨fun z => by rw [z, nW] at eU; (cases eU), ns, rfl, sH1 _ _ eU⟩
      | succ i => simp at e⟩
    refine ⟨fun m σ H' => ∃ (v5 v6 v7 v8 : Option V) (ws : List Addr) (Ls : List (List Nat)), m = lsum Ls + Ls.length ∧ σ = [some (.ref r), some (.ref U), some (.ref pa), some (.int p), some (.ref W), v5, v6, v7, v8] ∧ Same H H' ∧ Wls H' W ws Ls ∧ (∀ L ∈ Ls, L.Nodup ∧ ∀ n ∈ L, n < g.length) ∧ lsum Ls + Ls.length ≤ 1001 ∧ (BadIn g (prF ps) p (· ∈ ns) ↔ ∃ L ∈ Ls, BadIn g (prF ps) p (· ∈ L)),
      ⟨_, _, _, _, _, [U], [ns], rfl, rfl, sH1, hW1, fun L hL => by rw [List.mem_singleton.mp hL]; exact ⟨hnd, hlt⟩, by show ns.length + 0 + 1 ≤ 1001; omega, by simp⟩, ?_⟩
    clear hW1 sH1 eW
    rintro m σ H2 ⟨v5, v6, v7, v8, ws, Ls, rfl, rfl, s2, hW, hok, hbd, hiff⟩
    have hwl := hW.len
    refine ⟨_, rfl, W, _, rfl, .inl (.of hW.at_), _, _, rfl, rfl, _, rfl, ite2 (fun cc => ?_) (fun cc => ?_)⟩
    · obtain ⟨ws', wa, rfl⟩ : ∃ ws' x, ws = ws' ++ [x] := by
        rcases List.eq_nil_or_concat ws with rfl | ⟨a, b, rfl⟩
        · exact absurd cc (by decide)
        · exact ⟨a, b, List.concat_eq_append⟩
      obtain ⟨Ls', L, rfl⟩ : ∃ Ls' x, Ls = Ls' ++ [x] := by
        rcases List.eq_nil_or_concat Ls with rfl | ⟨a, b, rfl⟩
        · simp at hwl
        · exact ⟨a, b, List.concat_eq_append⟩
      rw [lsum_append, show lsum [L] = L.length from rfl, List.length_append, List.length_singleton] at hbd
      obtain ⟨hLnd, hLlt⟩ := hok L (by simp)
      refine ⟨_, fun σ' H'' z => z, ?_⟩
      refine ⟨_, rfl, _, rfl, .inl ⟨rfl, _, .of hW.at_⟩, W, _, V.ref wa, rfl, rfl, hW.at_, by simp, ?_⟩
      rw [show ((ws' ++ [wa]).map V.ref).dropLast = ws'.map V.ref by simp]
      have eW2 := hW.at_
      generalize hX : upd H2 W _ = H3; have tH3 := mwt eW2 hX; clear eW2; obtain ⟨sH3, eW, kH3⟩ := mw s2 nW hX; clear hX
      obtain ⟨hW3, nwa, eL3⟩ := hW.pop eW kH3
      refine ⟨r, wa, g, L, rfl, hG.same sH3, eL3, hLnd, hLlt, hgl, hrl, fun H4 y bs gs s4 hN ny hgrp => ?_⟩
      have s04 := sH3.trans s4
      have hW4 := hW3.keep s4
      have hiff4 : BadIn g (prF ps) p (· ∈ ns) ↔ (∃ L ∈ Ls', BadIn g (prF ps) p (· ∈ L)) ∨ ∃ A ∈ gs.drop 0, BadIn g (prF ps) p (· ∈ A) := by
        rw [hiff]
        have := bad_grp (p := p) (pr := prF ps) hgrp
        simp only [List.mem_append, List.mem_singleton]
        rw [List.drop_zero, ← this]
        constructor
        · rintro ⟨A, hA | rfl, h⟩
          · exact .inl ⟨A, hA, h⟩
          · exact .inr h
        · rintro (⟨A, hA, h⟩ | h)
          · exact ⟨A, .inl hA, h⟩
          · exact ⟨L, .inr rfl, h⟩
      have nyW : y ≠ W := fun z => by rw [z, eW] at ny; cases ny
      have nbW : ∀ b ∈ bs, b ≠ W := fun b hb z => by have := (hN.fr b hb).1; rw [z, eW] at this; cases this
      refine ⟨_, rfl, y, rfl, ⟨_, .of hN.d⟩, for_list (K := K) (a := y) (xs := bs.map V.ref) (fun i σ H' => ∃ (v6 v7 v8 : Option V) (ws : List Addr) (Ls : List (List Nat)), σ = [some (.ref r), some (.ref U), some (.ref pa), some (.int p), some (.ref W), some (.ref y), v6, v7, v8] ∧ Same H H' ∧ Kp W H4 H' ∧ Wls H' W ws Ls ∧ (∀ L ∈ Ls, L.Nodup ∧ ∀ n ∈ L, n < g.length) ∧ lsum Ls + Ls.length + lsum (gs.drop i) ≤ lsum Ls' + Ls'.length + L.length ∧ (BadIn g (prF ps) p (· ∈ ns) ↔ (∃ L ∈ Ls, BadIn g (prF ps) p (· ∈ L)) ∨ ∃ A ∈ gs.drop i, BadIn g (prF ps) p (· ∈ A)))
        ⟨_, _, _, ws', Ls', rfl, s04, Kp.refl _ _, hW4, fun L hL => hok L (by simp [hL]), by rw [List.drop_zero, hgrp.sum]; exact Nat.le_refl _, hiff4⟩ (fun i σ H' _ ⟨_, _, _, _, _, _, _, k, _⟩ => .of (k _ _ nyW hN.d)) ?_ ?_⟩
      · rintro i v σ H5 hi ⟨v6, v7, v8, ws, Ls, rfl, s5, k5, hW5, hok5, hle, hiff5⟩
        obtain ⟨b, hb, rfl⟩ := refsg hi
        have hil : i < gs.length := by rw [← hN.len]; exact lt_of_get hb
        obtain ⟨A, hA⟩ : ∃ A, gs[i]? = some A := ⟨_, List.getElem?_eq_getElem hil⟩
        have hAm := List.mem_of_getElem? hA
        have eb := k5 _ _ (nbW b (List.mem_of_getElem? hb)) (hN.get i b hb)
        rw [show Gr.row gs i = A by unfold Gr.row; rw [List.getD_eq_getElem?_getD, hA]; rfl] at eb
        have hAL : ∀ x ∈ A, x ∈ L := fun x hx => (hgrp.mem x).mpr ⟨A, hAm, hx⟩
        have hAlt : ∀ x ∈ A, x < g.length := fun x hx => hLlt x (hAL x hx)
        have hAnd := hgrp.nd A hAm
        have hAl : A.length ≤ g.length := nd_len hAnd hAlt
        rw [mem_drop hA (fun A => BadIn g (prF ps) p (· ∈ A))] at hiff5
        rw [lsum_drop hA] at hle
        obtain ⟨a0, ha0⟩ : ∃ a, A[0]? = some a := ⟨_, List.getElem?_eq_getElem (List.length_pos_iff.mpr (hgrp.ne A hAm))⟩
        have ha0l := hAlt a0 (List.mem_of_getElem? ha0)
        obtain ⟨ra, hra⟩ : ∃ a, as[a0]? = some a := ⟨_, List.getElem?_eq_getElem (by rw [hal]; exact ha0l)⟩
        have era := s5 _ _ (ha a0 ra hra)
        have at0 : atI (A.map VN) 0 = some (VN a0) := atN (i := 0) ha0
        have inI : ∀ x : Nat, inV (VN x) ((Gr.row g x).map VN) = decide (x ∈ Gr.row g x) := fun x => inV_nat x _
        refine ⟨_, rfl, b, _, rfl, .inl (.of eb), _, _, rfl, rfl, _, rfl, ite2 (fun c1 => iteB_t rfl ?_) (fun c1 => ⟨_, rfl, b, _, _, VN a0, rfl, rfl, .of eb, at0, _, rfl, _, rfl, b, _, _, VN a0, rfl, rfl, .of eb, at0, r, _, _, .ref ra, rfl, rfl, .of (s5 _ _ hr0), atN hra, ra, _, rfl, .inl (.of era), rfl, flat_nats, decide (a0 ∈ Gr.row g a0), (by rw [if_neg (by decide), inI]), ite2 (fun c2 => ?_) (fun c2 => ?_)⟩)⟩
        rotate_left 2
        · have h1 : ¬ 1 < A.length := fun z => c1 (decide_eq_true (by rw [List.length_map]; omega))
          have h2 : A = [a0] := by
            cases A with
            | nil => simp at ha0
            | cons x l =>
              cases l with
              | nil => simp at ha0; rw [ha0]
              | cons y l => simp at h1
          have h3 : ¬ Gr.E g a0 a0 := fun z => c2 (decide_eq_true z)
          have h4 : ¬ BadIn g (prF ps) p (· ∈ A) := by rw [h2]; exact bad_one h3
          exact ⟨_, _, _, ws, Ls, rfl, s5, k5, hW5, hok5, by omega, by rw [hiff5]; simp [h4]⟩
        all_goals
          have nt : 1 < A.length ∨ ∃ a, A[0]? = some a ∧ Gr.E g a a := by
            first
            | exact .inl (by have h1 : (1 : Int) < ((A.map VN).length : Int) := of_decide_eq_true c1; rw [List.length_map] at h1; omega)
            | exact .inr ⟨a0, ha0, (show a0 ∈ Gr.row g a0 from of_decide_eq_true c2)⟩
          clear ha0 ha0l hra era at0 inI c1
          refine ⟨_, rfl, b, rfl, ⟨_, .of eb⟩, fun D nD => lc_list (K := K) (a := b) (xs := A.map VN) (fun j H' => Same H5 H' ∧ H' D = some (.lst ((A.take j).map fun x => V.int (prF ps x)))) ⟨same_new nD, upd_same⟩ (fun j H' _ ⟨z, _⟩ => .of (z _ _ eb)) ?_ ?_⟩
          · rintro j v H6 hj ⟨s6, eD⟩
            obtain ⟨z, hz, rfl⟩ := nats_get hj
            have hzl := hAlt z (List.mem_of_getElem? hz)
            have hjl := lt_of_get hz
            refine ⟨rfl, _, rfl, _, rfl, pa, _, _, .int (prF ps z), rfl, rfl, .of ((s5.trans s6) _ _ ePs), atI_nat (by rw [List.getElem?_map, prf_get (by omega)]; rfl), _, eD, by rw [List.length_map, List.length_take]; exact Nat.lt_of_le_of_lt (show min j A.length ≤ 1000 by omega) (by decide), fun q o e => by rw [upd_ne (ne_of_none e nD)]; exact s6 _ _ e, by rw [upd_same, take_succ' hz, List.map_append]; rfl⟩
          rintro H6 ⟨s6, eD⟩
          rw [List.length_map, List.take_length] at eD
          refine ⟨D, A.map (prF ps), rfl, .of (by rw [eD, List.map_map]; rfl), by rw [List.length_map]; exact List.length_pos_iff.mpr (hgrp.ne A hAm), fun m hm hmx => ?_⟩
          obtain ⟨k, hkA, rfl⟩ := List.mem_map.mp hm
          have hmx' : ∀ x ∈ A, prF ps x ≤ prF ps k := fun x hx => hmx _ (List.mem_map_of_mem hx)
          refine ⟨_, rfl, _, _, rfl, rfl, (show (0 : Int) < 2 by decide), _, rfl, rfl, _, rfl, ite_eq (fun c3 => ?_) (fun c3 => ?_)⟩
          · exact ⟨_, rfl, q2 (hiff.mpr ⟨L, by simp, bad_high hgrp hAm hkA hmx' c3 nt⟩) H6 b (s5.trans s6)⟩
          have eb6 := s6 _ _ eb
          have hW6 := hW5.keep s6
          refine ⟨_, rfl, .inl ⟨rfl, _, .of hW6.at_⟩, _, rfl, b, rfl, ⟨_, .of eb6⟩, fun D2 nD2 => ?_⟩
          refine lc_list (K := K) (a := b) (xs := A.map VN) (fun j H' => Same H6 H' ∧ H' D2 = some (.lst (((A.take j).filter fun x => decide (prF ps x < prF ps k)).map VN))) ⟨same_new nD2, upd_same⟩ (fun j H' _ ⟨z, _⟩ => .of (z _ _ eb6)) ?_ ?_
          · rintro j v H7 hj ⟨s7, eD2⟩
            obtain ⟨z, hz, rfl⟩ := nats_get hj
            have hzl := hAlt z (List.mem_of_getElem? hz)
            have hjl := lt_of_get hz
            refine ⟨rfl, _, rfl, _, rfl, pa, _, _, .int (prF ps z), rfl, rfl, .of ((s5.trans s6).trans s7 _ _ ePs), atI_nat (by rw [List.getElem?_map, prf_get (by omega)]; rfl), _, rfl, _, _, rfl, rfl, _, rfl, ?_⟩
            rw [take_succ' hz, List.filter_append, List.map_append]
            by_cases c4 : prF ps z < prF ps k
            · rw [List.filter_cons_of_pos (by exact decide_eq_true c4)]
              refine iteB_t (decide_eq_true c4) ⟨_, rfl, _, eD2, ?_, fun q o e => by rw [upd_ne (ne_of_none e nD2)]; exact s7 _ _ e, by rw [upd_same]; rfl⟩
              have h1 := List.length_filter_le (fun x => decide (prF ps x < prF ps k)) (A.take j)
              rw [List.length_take] at h1
              rw [List.length_map]
              exact Nat.lt_of_le_of_lt (show _ ≤ 1000 by omega) (by decide)
            · rw [List.filter_cons_of_neg (by simpa using c4)]
              refine iteB_f (decide_eq_false c4) ⟨s7, by rw [eD2]; simp⟩
          rintro H7 ⟨s7, eD2⟩
          rw [List.length_map, List.take_length] at eD2
          have hW7 := hW6.keep s7
          have nDW : D2 ≠ W := fun z => by rw [z, hW6.at_] at nD2; cases nD2
          have hf1 := List.length_filter_lt_length_iff_exists (l := A) (p := fun x => decide (prF ps x < prF ps k)).mpr ⟨k, hkA, by simp⟩
          have hwl7 := hW7.len
          refine ⟨W, _, _, rfl, rfl, hW7.at_, by rw [List.length_map]; exact Nat.lt_of_le_of_lt (show ws.length ≤ 2000 by omega) (by decide), ?_⟩
          refine ⟨_, _, _, ws ++ [D2], Ls ++ [A.filter fun x => decide (prF ps x < prF ps k)], rfl, ?_, ?_, hW7.snoc nDW eD2, ?_, ?_, ?_⟩
          · exact fun q o e => by rw [upd_ne (ne_of_none e nW)]; exact ((s5.trans s6).trans s7) _ _ e
          · exact (k5.trans (Same.kp (s6.trans s7))).trans Kp.own
          · intro M hM
            rcases List.mem_append.mp hM with z | z
            · exact hok5 M z
            · rw [List.mem_singleton.mp z]
              exact ⟨hAnd.sublist List.filter_sublist, fun n hn => hAlt n (List.mem_filter.mp hn).1⟩
          · rw [lsum_append, List.length_append, show lsum [A.filter fun x => decide (prF ps x < prF ps k)] = (A.filter fun x => decide (prF ps x < prF ps k)).length from rfl, List.length_singleton]
            omega
          · rw [hiff5, bad_less hmx' c3]
            simp only [List.mem_append, List.mem_singleton]
            constructor
            · rintro (⟨M, hM, h⟩ | h | h)
              · exact .inl ⟨M, .inl hM, h⟩
              · exact .inl ⟨_, .inr rfl, h⟩
              · exact .inr h
            · rintro (⟨M, hM | rfl, h⟩ | h)
              · exact .inl ⟨M, hM, h⟩
              · exact .inr (.inl h)
              · exact .inr (.inr h)
      · rintro σ H5 ⟨v6, v7, v8, ws, Ls, rfl, s5, k5, hW5, hok5, hle, hiff5⟩
        rw [List.length_map, hN.len, List.drop_length] at hle hiff5
        refine ⟨lsum Ls + Ls.length, ?_, _, _, _, _, ws, Ls, rfl, rfl, s5, hW5, hok5, ?_, ?_⟩
        · rw [lsum_append, show lsum [L] = L.length from rfl, List.length_append, List.length_singleton]
          have : lsum ([] : List (List Nat)) = 0 := rfl
          omega
        · omega
        · rw [hiff5]
          simp
    · have : Ls = [] := by
        cases Ls with
        | nil => rfl
        | cons x l => rw [List.length_cons] at hwl; exact absurd (decide_eq_true (by rw [List.length_map, hwl]; omega)) cc
      subst this
      exact ⟨fun z => by obtain ⟨L, hL, _⟩ := hiff.mp z; (cases hL), s2⟩
theorem asc_len_from : ∀ (xs : List Int) (a n : Int), xs.Pairwise (· < ·) → (∀ x ∈ xs, a ≤ x ∧ x < n) → (xs.length : Int) ≤ max 0 (n - a)
  | [], a, n, _, _ => by show (0 : Int) ≤ _; omega
  | x :: xs, a, n, h, hb => by
    rw [List.pairwise_cons] at h
    have ih := asc_len_from xs (x + 1) n h.2 fun y hy => by
      have h1 := h.1 y hy
      have h2 := hb y (List.mem_cons_of_mem _ hy)
      omega
    have hx := hb x List.mem_cons_self
    rw [List.length_cons]
    omega
theorem asc_len {n : Nat} {xs : List Int} (h : Asc (n : Int) xs) : xs.length ≤ n := by
  have := asc_len_from xs 0 n h.1 h.2
  omega
theorem vn_nat {xs : List Int} (h : ∀ z ∈ xs, 0 ≤ z) : xs.map V.int = (xs.map Int.toNat).map VN := by
  rw [List.map_map]
  refine List.map_congr_left fun z hz => ?_
  show V.int z = V.int ((z.toNat : Nat) : Int)
  rw [Int.toNat_of_nonneg (h z hz)]
structure GLn (H : Hp) (D : Addr) (ys : List Addr) (g : Gr.G) (i : Nat) : Prop where
  at_ : H D = some (.lst (ys.map V.ref))
  len : ys.length = i
  get : ∀ (j : Nat) (y : Addr), ys[j]? = some y → y ≠ D ∧ H y = some (.lst ((Gr.row g j).map VN))
theorem GLn.keep {H H' : Hp} {D : Addr} {ys : List Addr} {g : Gr.G} {i : Nat} (s : Same H H') (h : GLn H D ys g i) : GLn H' D ys g i := ⟨s _ _ h.at_, h.len, fun j y e => ⟨(h.get j y e).1, s _ _ (h.get j y e).2⟩⟩
theorem GLn.snoc {H : Hp} {D y : Addr} {ys : List Addr} {g : Gr.G} {i : Nat} (h : GLn H D ys g i) (ny : y ≠ D) (ey : H y = some (.lst ((Gr.row g i).map VN))) : GLn (upd H D (.lst (ys.map V.ref ++ [V.ref y]))) D (ys ++ [y]) g (i + 1) := by
  refine ⟨by rw [upd_same, List.map_append]; rfl, by rw [List.length_append, h.len]; rfl, fun j z hj => ?_⟩
  rcases snocg hj with ⟨_, k⟩ | ⟨k1, k2⟩
  · obtain ⟨n1, h1⟩ := h.get j z k
    exact ⟨n1, by rw [upd_ne n1]; exact h1⟩
  · subst k2
    rw [h.len] at k1
    subst k1
    exact ⟨ny, by rw [upd_ne ny]; exact ey⟩
theorem GLn.grl {H : Hp} {D : Addr} {ys : List Addr} {g : Gr.G} (h : GLn H D ys g g.length) : GrL H D g := ⟨ys, h.at_, h.len, fun i a e => (h.get i a e).2⟩
def gcw (ow : List Int) (c : List (List Int)) (pl : Int) (ch : List Int) : Gr.G := (List.range c.length).map fun k => if ow.getD k 0 = pl then (if 0 ≤ ch.getD k 0 then [(ch.getD k 0).toNat] else []) else (c.getD k []).map Int.toNat
theorem gcw_len (ow : List Int) (c : List (List Int)) (pl : Int) (ch : List Int) : (gcw ow c pl ch).length = c.length := by
  unfold gcw
  rw [List.length_map, List.length_range]
theorem row_gcw {ow : List Int} {c : List (List Int)} {pl : Int} {ch : List Int} {k : Nat} (h : k < c.length) : Gr.row (gcw ow c pl ch) k = if ow.getD k 0 = pl then (if 0 ≤ ch.getD k 0 then [(ch.getD k 0).toNat] else []) else (c.getD k []).map Int.toNat := by
  unfold Gr.row gcw
  rw [List.getD_eq_getElem?_getD, List.getElem?_map, List.getElem?_range h]
  rfl
theorem getD_at {α : Type} {xs : List α} {k : Nat} {x d : α} (h : xs[k]? = some x) : xs.getD k d = x := by rw [List.getD_eq_getElem?_getD, h]; rfl
theorem gcw_ok {ow ps : List Int} {c : List (List Int)} {pl : Int} {ch : List Int} (V : Vg ow ps c) (hc : ∀ (k : Nat) (z : Int), ch[k]? = some z → z < (c.length : Int)) : Gr.Ok (gcw ow c pl ch) := by
  intro u v hv
  rw [gcw_len]
  rcases Nat.lt_or_ge u c.length with l | l
  · rw [row_gcw l] at hv
    split at hv
    · split at hv
      · rename_i h0
        rw [List.mem_singleton.mp hv]
        have hn := List.length_pos_iff.mpr V.ne
        rcases Nat.lt_or_ge u ch.length with l2 | l2
        · have := hc u _ (List.getElem?_eq_getElem l2)
          rw [getD_at (List.getElem?_eq_getElem l2)] at h0 ⊢
          omega
        · rw [List.getD_eq_getElem?_getD, List.getElem?_eq_none l2]
          exact hn
      · cases hv
    · rw [getD_at (List.getElem?_eq_getElem l)] at hv
      obtain ⟨z, hz, rfl⟩ := List.mem_map.mp hv
      have := (V.mv _ (List.getElem_mem l)).2.2 z hz
      omega
  · rw [row_ge (by rw [gcw_len]; exact l)] at hv
    cases hv
theorem gcw_row {ow ps : List Int} {c : List (List Int)} {pl : Int} {ch : List Int} (V : Vg ow ps c) (hl : c.length ≤ 1000) (n : Nat) : (Gr.row (gcw ow c pl ch) n).length ≤ 1000 := by
  rcases Nat.lt_or_ge n c.length with l | l
  · rw [row_gcw l]
    split
    · split
      · show 1 ≤ 1000
        omega
      · exact Nat.zero_le _
    · rw [getD_at (List.getElem?_eq_getElem l), List.length_map]
      have := asc_len (V.mv _ (List.getElem_mem l)).2
      omega
  · rw [row_ge (by rw [gcw_len]; exact l)]
    exact Nat.zero_le _
/-- each play from s is won by the one who loses the cycles of the kind p -/
def WinC (g : Gr.G) (pr : Nat → Int) (p : Int) (s : Nat) : Prop := (∀ u, Gr.Rc g s u → Gr.row g u ≠ []) ∧ ¬ BadIn g pr p (Gr.Rc g s)
def spCW (C cL : Addr) : Sp := fun vs H Q E => ∃ (x a : Addr) (pl pos : Int) (ow ps ch : List Int) (c : List (List Int)), vs = [.ref x, .int pl, .ref a, .int pos] ∧ GmeAt C H x ow ps c ∧ Vg ow ps c ∧ c.length ≤ 1000 ∧ H a = some (.lst (ch.map V.int)) ∧ ch.length = c.length ∧ (∀ (k : Nat) (z : Int), ch[k]? = some z → z < (c.length : Int)) ∧
  (¬ (0 ≤ pos ∧ pos < (c.length : Int)) → E (.ref cL) none H) ∧
  (0 ≤ pos → pos < (c.length : Int) → ∀ (H' : Hp) (b : Bool), Same H H' → (b = true ↔ WinC (gcw ow c pl ch) (prF ps) (1 - pl) pos.toNat) → Q (.bl b) H')
theorem cal_cw {C cL : Addr} (T : Txt K mg) (eL : ErrC K mg "InvalidPosition" cL) (PC : GmeC K C) : CalX P w K mg base 5 "choices_win" (spCW C cL) := by
  have X_check_position : CalX P w K mg base 1 "check_position" (spChkPos C cL) := cal_chkpos T eL PC
  have C_reachable : C8.Cal P w K mg base 1 "reachable" spRch [] := cal_rch T
  have C_winning_group : C8.Cal P w K mg base 4 "winning_group" spWG [] := cal_wg T
  obtain ⟨f, fd, F, hm, hb⟩ := T.h_choices_win
  refine ⟨f, fd, _, F.okX sc_choices_win (fun vs H Q E h => ?_) (fun cdv A outer s H vs Q E hr h => ?_), hm, F.kp, hb⟩
  · obtain ⟨x, a, pl, pos, ow, ps, ch, c, rfl, _⟩ := h
    rfl
  · obtain ⟨x, a, pl, pos, ow, ps, ch, c, rfl, hG, hV, hn, ha, hcl, hch, q1, q2⟩ := h
    refine ⟨_, (pss_cons
      (ps_expr (pe_cx X_check_position hr (by decide) (takes_of rfl rfl rfl rfl) (by rfl) (pa_cons (pv 0) (pa_cons (pv 3) pa_nil))))
      (pss_cons
      (ps_set (i := 4) sc_choices_win.nd rfl (Or.inr rfl) (pe_lst pa_nil))
      (pss_cons
      (ps_for (passes_of rfl) rfl (pi_enumT (by rfl) T.z_enumerate (pa_cons (pe_fld (pv 0) rfl) pa_nil)) (pg_tup (by rfl) (pgs_cons (pg_name (i := 5) sc_choices_win.nd rfl (.inl rfl)) (pgs_cons (pg_name (i := 6) sc_choices_win.nd rfl (.inl rfl)) pgs_nil))) (pss_one
      (ps_if (pt_cmpR op_ne (pe_ix (ix_tupK (K := K) rfl) (pe_fld (pv 0) rfl) (pv 5) (fun _ _ => rfl)) (pv 1) (nomark _)) (pss_one
      (ps_expr (pe_bm PySem.F.plainAttrs_list PySem.F.slot_list_append PySem.F.type_list_append mt_append (pv 4) (pa_cons (pe_callTy (call_list_ofK (K := K) rfl) (by rfl) T.z_list (by decide +kernel) (pa_cons (pv 6) pa_nil)) pa_nil)))) (pss_one
      (ps_expr (pe_bm PySem.F.plainAttrs_list PySem.F.slot_list_append PySem.F.type_list_append mt_append (pv 4) (pa_cons (pe_ifExp (pt_cmpR op_ge (pe_ix (ix_listK (K := K) rfl) (pv 2) (pv 5) (fun _ _ => rfl)) pe_int (nomark _)) (pe_lst (pa_cons (pe_ix (ix_listK (K := K) rfl) (pv 2) (pv 5) (fun _ _ => rfl)) pa_nil)) (pe_lst pa_nil)) pa_nil)))))))
      (pss_cons
      (ps_set (i := 7) sc_choices_win.nd rfl (Or.inl rfl) (C8.pe_c C_reachable hr (by decide) (by rfl) (pa_cons (pv 4) (pa_cons (pe_lst (pa_cons (pv 3) pa_nil)) pa_nil))))
      (pss_cons
      (ps_setLc (i := 8) (own := [("place", 5), ("found", 9)]) (g := gTup K 2 (gCons (gName 5) (gCons (gName 9) gNil))) rfl sc_choices_win.nd rfl rfl (sw_true rfl rfl rfl (by decide +kernel)) (pi_enum (by rfl) T.z_enumerate (pa_cons (pv 7) pa_nil)) (blkOk_by (N := N_choices_win) (sc := defScope s_choices_win) (by decide +kernel)) (fun _ _ _ _ _ => (pg_tup (by rfl) (pgs_cons (pg_name (i := 5) sc_choices_win.nd rfl (Or.inl rfl)) (pgs_cons (pg_name (i := 9) sc_choices_win.nd rfl (Or.inl rfl)) pgs_nil)))) (fun _ _ _ _ _ => (pts_one (pt_val (pv 9)))) (fun _ _ _ _ _ => (pv 5)))
      (pss_cons
      (ps_if (pt_cmpR op_eq (pe_callB (call_minK (K := K) rfl rfl) (by rfl) T.z_min (by decide +kernel) (pa_cons (pe_lc (own := [("place", 5)]) (g := gName 5) (tt := tYes) rfl sc_choices_win.nd (pi_list (pv 8)) (blkOk_by (N := N_choices_win) (sc := defScope s_choices_win) (by decide +kernel)) (fun _ _ _ _ _ => (pg_name (i := 5) sc_choices_win.nd rfl (Or.inl rfl))) (fun _ _ _ _ _ => pts_nil) (fun _ _ _ _ _ => (pe_callB (call_lenK (K := K) rfl) (by rfl) T.z_len PySem.boot_len (pa_cons (pe_ix (ix_listK (K := K) rfl) (pv 4) (pv 5) (fun _ _ => rfl)) pa_nil)))) pa_nil)) pe_int (nomark _)) (pss_one
      (ps_ret pe_bl)) pss_nil)
      (pss_one
      (ps_ret (pe_cmpR op_isN (C8.pe_c C_winning_group hr (by decide) (by rfl) (pa_cons (pv 4) (pa_cons (pv 8) (pa_cons (pe_fld (pv 0) rfl) (pa_cons (pe_op op_sub pe_int (pv 1)) pa_nil))))) pe_non (nomark _)))))))))), ?_⟩
    obtain ⟨dx, ot, pt, rt, as, e1, e2, e3, e4, e5⟩ := id hG
    refine ⟨_, rfl, _, rfl, x, pos, ow, ps, c, rfl, hG, q1, fun z0 z1 => ?_⟩
    obtain ⟨s, rfl⟩ : ∃ s : Nat, pos = (s : Int) := ⟨pos.toNat, by omega⟩
    have q := q2 z0 z1
    rw [Int.toNat_natCast] at q
    clear q1 q2 z0
    have hs : s < c.length := by omega
    generalize hg : gcw ow c pl ch = g at q
    have hgl : g.length = c.length := by rw [← hg, gcw_len]
    have hok : Gr.Ok g := by rw [← hg]; exact gcw_ok hV hch
    have hrow : ∀ n, (Gr.row g n).length ≤ 1000 := fun n => by rw [← hg]; exact gcw_row hV hn n
    refine ⟨Nat.zero_le _, fun D nD => ?_⟩
    generalize hX : upd H D _ = H1; obtain ⟨sH1, eD⟩ := nw nD hX; clear hX
    refine ⟨_, rfl, x, C, dx, _, _, rfl, sH1 _ _ e1, PC.cl, PC.nm, gf_m _ _ _, rt, _, rfl, .of (sH1 _ _ e4), ?_⟩
    refine for_it (walk_enumT (K := K) (a := rt) (xs := as.map V.ref)) (fun i σ H' => ∃ (v5 v6 : Option V) (ys : List Addr), σ = [some (.ref x), some (.int pl), some (.ref a), some (.int (s : Int)), some (.ref D), v5, v6, none, none, none] ∧ Same H H' ∧ GLn H' D ys g i)
      ⟨none, none, [], rfl, sH1, ⟨eD, rfl, fun j y e => by (cases e)⟩⟩ (fun i σ H' _ ⟨_, _, _, _, z, _⟩ => .of (z _ _ e4)) ?_ ?_
    · rintro i v σ H2 H3 hi ⟨v5, v6, ys, rfl, s2, hL⟩ ⟨p, xi, y, rfl, np, rfl, hx, hy⟩
      obtain rfl := Option.some.inj hx
      obtain ⟨r, hr1, rfl⟩ := refsg hy
      generalize hX : upd H2 p _ = H3; obtain ⟨sH3, ep⟩ := nw np hX; clear hX
      have s3 := s2.trans sH3
      have hL3 := hL.keep sH3
      refine ⟨p, _, rfl, .of ep, rfl, _, _, rfl, _, _, rfl, rfl, ?_⟩
      obtain ⟨row, hc1, hra⟩ := RowsA.get e5 hr1
      have hil := lt_of_get hc1
      have hVr := hV.mv row (List.mem_of_getElem? hc1)
      have hol := hV.lo
      obtain ⟨o, ho⟩ : ∃ o, ow[i]? = some o := ⟨_, List.getElem?_eq_getElem (by omega)⟩
      obtain ⟨z, hz⟩ : ∃ z, ch[i]? = some z := ⟨_, List.getElem?_eq_getElem (by omega)⟩
      have hrw : Gr.row g i = if o = pl then (if 0 ≤ z then [z.toNat] else []) else row.map Int.toNat := by rw [← hg, row_gcw hil, getD_at ho, getD_at hz, getD_at hc1]
      have nDD : ∀ {q : Addr} {H4 : Hp}, H4 q = none → H4 D = some (.lst (ys.map V.ref)) → q ≠ D := fun n e z => by rw [z, e] at n; cases n
      have hyl : (ys.map V.ref).length < sizeLine := by rw [List.length_map, hL.len]; exact Nat.lt_of_le_of_lt (show i ≤ 1000 by omega) (by decide)
      refine ⟨_, rfl, x, C, dx, _, _, rfl, s3 _ _ e1, PC.cl, PC.no, gf_o _ _ _, _, rfl, ot, _, _, .int o, rfl, rfl, .of (s3 _ _ e2), atI_nat (by rw [List.getElem?_map, ho]; rfl), _, rfl, rfl, _, rfl, ?_⟩
      by_cases c0 : o = pl
      · rw [if_pos c0] at hrw
        rw [decide_eq_true (by rw [c0])]
        refine iteB_f rfl ⟨_, rfl, .inl ⟨rfl, _, .of hL3.at_⟩, _, rfl, _, rfl, a, _, _, .int z, rfl, rfl, .of (s3 _ _ ha), atI_nat (by rw [List.getElem?_map, hz]; rfl), _, _, rfl, rfl, _, rfl, ?_⟩
        by_cases c4 : 0 ≤ z
        · rw [if_pos c4] at hrw
          refine iteB_t (decide_eq_true c4) ⟨_, rfl, _, rfl, a, _, _, .int z, rfl, rfl, .of (s3 _ _ ha), atI_nat (by rw [List.getElem?_map, hz]; rfl), by show 1 ≤ sizeLine; decide, fun t nt => ?_⟩
          have nt3 := nt
          generalize hX : upd H3 t _ = H4; obtain ⟨sH4, et⟩ := nw nt hX; clear hX
          refine ⟨D, _, _, rfl, rfl, (hL3.keep sH4).at_, hyl, ?_⟩
          refine ⟨_, _, ys ++ [t], rfl, fun q o e => by rw [upd_ne (ne_of_none e nD)]; exact (s3.trans sH4) _ _ e, (hL3.keep sH4).snoc (nDD nt hL3.at_) ?_⟩
          rw [et, hrw]
          show _ = some (HO.lst [V.int ((z.toNat : Nat) : Int)])
          rw [Int.toNat_of_nonneg c4]
        · rw [if_neg c4] at hrw
          refine iteB_f (decide_eq_false c4) ⟨Nat.zero_le _, fun t nt => ?_⟩
          generalize hX : upd H3 t _ = H4; obtain ⟨sH4, et⟩ := nw nt hX; clear hX
          refine ⟨D, _, _, rfl, rfl, (hL3.keep sH4).at_, hyl, ?_⟩
          exact ⟨_, _, ys ++ [t], rfl, fun q o e => by rw [upd_ne (ne_of_none e nD)]; exact (s3.trans sH4) _ _ e, (hL3.keep sH4).snoc (nDD nt hL3.at_) (by rw [et, hrw]; rfl)⟩
      · rw [if_neg c0] at hrw
        rw [decide_eq_false (fun z => c0 (by injection z))]
        refine iteB_t rfl ⟨_, rfl, .inl ⟨rfl, _, .of hL3.at_⟩, _, rfl, r, _, rfl, .inr (.of (s3 _ _ hra)), fun t nt => ?_⟩
        generalize hX : upd H3 t _ = H4; obtain ⟨sH4, et⟩ := nw nt hX; clear hX
        refine ⟨D, _, _, rfl, rfl, (hL3.keep sH4).at_, hyl, ?_⟩
        exact ⟨_, _, ys ++ [t], rfl, fun q o e => by rw [upd_ne (ne_of_none e nD)]; exact (s3.trans sH4) _ _ e, (hL3.keep sH4).snoc (nDD nt hL3.at_) (by rw [et, hrw, vn_nat fun z hz => (hVr.2.2 z hz).1])⟩
    rintro σ H2 ⟨v5, v6, ys, rfl, s2, hL⟩
    have hal : (as.map V.ref).length = g.length := by rw [List.length_map, e5.len, hgl]
    rw [hal] at hL
    have hGr := hL.grl
    refine ⟨_, rfl, _, rfl, by show 1 ≤ sizeLine; decide, fun t nt => ?_⟩
    generalize hX : upd H2 t _ = H3; obtain ⟨sH3, et⟩ := nw nt hX; clear hX
    have s3 := s2.trans sH3
    refine ⟨D, t, g, [s], rfl, hGr.same sH3, hok, by omega, .inl et, fun z hz => by rw [List.mem_singleton.mp hz]; omega, by show 1 ≤ 1000000; decide, fun H4 y fs s4 ny ey hfl => ?_⟩
    have hfl2 : Fl g.length (Gr.Rc g s) fs := hfl.cong fun u => by simp
    have s04 := s3.trans s4
    have hGr4 := (hGr.same sH3).same s4
    clear s3 s4 hfl nt et hL
    have hfs := hfl2.1
    -- reached
    refine ⟨_, rfl, y, _, rfl, .of ey, fun R nR => ?_⟩
    refine lc_it (walk_enum (K := K) (a := y) (xs := fs.map V.bl)) (fun i H' => Same H4 H' ∧ ∃ rs : List Nat, H' R = some (.lst (rs.map VN)) ∧ rs.length ≤ i ∧ rs.Pairwise (· < ·) ∧ ∀ u, u ∈ rs ↔ u < i ∧ u < g.length ∧ Gr.Rc g s u)
      ⟨same_new nR, [], upd_same, Nat.le_refl _, List.Pairwise.nil, fun u => ⟨fun h => (by cases h), fun h => absurd h.1 (Nat.not_lt_zero _)⟩⟩ (fun i H' _ ⟨z, _⟩ => .of (z _ _ ey)) ?_ ?_
    · rintro i v H5 H6 hi ⟨s5, rs, eR, hrl, hpw, hmem⟩ ⟨p, xi, y, rfl, np, rfl, hx, hy⟩
      obtain rfl := Option.some.inj hx
      obtain ⟨b, hb, rfl⟩ := mapg hy
      have hil := lt_of_get hb
      rw [hfs] at hil
      have hbs := hfl2.2 i b hb
      generalize hX : upd H5 p _ = H6; obtain ⟨sH6, ep⟩ := nw np hX; clear hX
      refine ⟨p, _, rfl, .of ep, rfl, _, _, rfl, _, _, rfl, rfl, rfl, _, rfl, ?_⟩
      refine ⟨_, rfl, ?_⟩
      cases b with
      | true =>
        have hrc := hbs.mp rfl
        refine iteB_t rfl ⟨_, rfl, _, sH6 _ _ eR, by rw [List.length_map]; exact Nat.lt_of_le_of_lt (show rs.length ≤ 1000 by omega) (by decide), fun q o e => by rw [upd_ne (ne_of_none e nR)]; exact (s5.trans sH6) _ _ e, rs ++ [i], by rw [upd_same, List.map_append]; rfl, by rw [List.length_append, List.length_singleton]; omega, ?_, fun u => ?_⟩
        · exact List.pairwise_append.mpr ⟨hpw, by simp, fun u hu v hv => by rw [List.mem_singleton.mp hv]; exact ((hmem u).mp hu).1⟩
        · rw [List.mem_append, List.mem_singleton, hmem u]
          constructor
          · rintro (⟨h1, h2, h3⟩ | rfl)
            · exact ⟨by omega, h2, h3⟩
            · exact ⟨by omega, hil, hrc⟩
          · rintro ⟨h1, h2, h3⟩
            rcases Nat.lt_or_ge u i with k | k
            · exact .inl ⟨k, h2, h3⟩
            · exact .inr (by omega)
      | false =>
        refine iteB_f rfl ⟨s5.trans sH6, rs, sH6 _ _ eR, by omega, hpw, fun u => ?_⟩
        rw [hmem u]
        constructor
        · rintro ⟨h1, h2, h3⟩
          exact ⟨by omega, h2, h3⟩
        · rintro ⟨h1, h2, h3⟩
          refine ⟨?_, h2, h3⟩
          rcases Nat.lt_or_ge u i with k | k
          · exact k
          · have : u = i := by omega
            subst this
            exact absurd (hbs.mpr h3) (by decide)
    rintro H5 ⟨s5, rs, eR, hrl, hpw, hmem0⟩
    rw [List.length_map, hfs] at hrl hmem0
    have hmem : ∀ u, u ∈ rs ↔ Gr.Rc g s u := fun u => ⟨fun h => ((hmem0 u).mp h).2.2, fun h => have l := Gr.Ok.rc hok h (by omega); (hmem0 u).mpr ⟨l, l, h⟩⟩
    have hlt : ∀ u ∈ rs, u < g.length := fun u h => ((hmem0 u).mp h).1
    clear hmem0
    have s05 := s04.trans s5
    have hGr5 := hGr4.same s5
    obtain ⟨gs, eD5, hgsl, hgs⟩ := id hGr5
    -- the shortest row
    refine ⟨_, rfl, R, rfl, ⟨_, .of eR⟩, fun M nM => ?_⟩
    refine lc_list (K := K) (a := R) (xs := rs.map VN) (fun j H' => Same H5 H' ∧ H' M = some (.lst ((rs.take j).map fun u => V.int ((Gr.row g u).length : Int)))) ⟨same_new nM, upd_same⟩ (fun j H' _ ⟨z, _⟩ => .of (z _ _ eR)) ?_ ?_
    · rintro j v H6 hj ⟨s6, eM⟩
      obtain ⟨u, hu, rfl⟩ := nats_get hj
      have hul := hlt u (List.mem_of_getElem? hu)
      obtain ⟨ra, hra⟩ : ∃ a, gs[u]? = some a := ⟨_, List.getElem?_eq_getElem (by rw [hgsl]; exact hul)⟩
      have hjl := lt_of_get hu
      refine ⟨rfl, _, rfl, _, rfl, D, _, _, .ref ra, rfl, rfl, .of (s6 _ _ eD5), atN hra, ra, _, rfl, .inl (.of (s6 _ _ (hgs u ra hra))), _, eM, by rw [List.length_map, List.length_take]; exact Nat.lt_of_le_of_lt (show min j rs.length ≤ 1000 by omega) (by decide), fun q o e => by rw [upd_ne (ne_of_none e nM)]; exact s6 _ _ e, by rw [upd_same, take_succ' hu, List.map_append, List.length_map]; rfl⟩
    rintro H6 ⟨s6, eM⟩
    rw [List.length_map, List.take_length] at eM
    have s06 := s05.trans s6
    have hsr : s ∈ rs := (hmem s).mpr (.refl s)
    refine ⟨M, rs.map (fun u => ((Gr.row g u).length : Int)), rfl, .of (by rw [eM, List.map_map]; rfl), by rw [List.length_map]; exact List.length_pos_of_mem hsr, fun m hm hmx => ⟨rfl, _, rfl, ite_eq (fun c0 => ?_) (fun c0 => ?_)⟩⟩
    · obtain ⟨u, hu, hum⟩ := List.mem_map.mp hm
      refine q H6 false s06 ⟨fun z => (by cases z), fun z => absurd ?_ (z.1 u ((hmem u).mp hu))⟩
      exact List.eq_nil_of_length_eq_zero (by omega)
    · have hpos : ∀ u, Gr.Rc g s u → Gr.row g u ≠ [] := fun u hu z => by
        have h1 := hmx _ (List.mem_map_of_mem ((hmem u).mpr hu))
        obtain ⟨u2, hu2, hum⟩ := List.mem_map.mp hm
        rw [z] at h1
        have e0 : (([] : List Nat).length : Int) = 0 := rfl
        rw [e0] at h1
        omega
      have hbad : BadIn g (prF ps) (1 - pl) (· ∈ rs) ↔ BadIn g (prF ps) (1 - pl) (Gr.Rc g s) := ⟨fun h => h.mono fun u hu => (hmem u).mp hu, fun h => h.mono fun u hu => (hmem u).mpr hu⟩
      refine ⟨_, rfl, _, rfl, _, rfl, x, C, dx, _, _, rfl, s06 _ _ e1, PC.cl, PC.np, gf_p _ _ _, _, rfl, _, _, rfl, rfl, D, R, pt, 1 - pl, g, rs, ps, rfl, hGr5.same s6, s6 _ _ eR, (by rw [List.nodup_iff_pairwise_ne]; exact hpw.imp (fun h => Nat.ne_of_lt h)), hlt, by omega, hrow, s06 _ _ e3, by rw [hgl]; exact hV.lp, fun hno H7 s7 => ⟨rfl, ?_⟩, fun hyes H7 b s7 => ⟨rfl, ?_⟩⟩
      · rw [decide_eq_true rfl]
        exact q H7 true (s06.trans s7) ⟨fun _ => ⟨hpos, fun z => hno (hbad.mpr z)⟩, fun _ => rfl⟩
      · rw [decide_eq_false (by simp)]
        exact q H7 false (s06.trans s7) ⟨fun z => (by cases z), fun z => absurd (hbad.mp hyes) z.2⟩
def spRev : Sp := fun vs H Q _ => ∃ (r : Addr) (as : List Addr) (c : List (List Int)), vs = [.ref r] ∧ H r = some (.tup (as.map V.ref)) ∧ RowsA .tup H as c ∧ c.length ≤ 1000 ∧ (∀ q ∈ c, Asc (c.length : Int) q) ∧
  ∀ (H' : Hp) (y : Addr) (bs : List Addr) (g : List (List Int)), Same H H' → LL H' y bs g → H y = none → (∀ b ∈ bs, H b = none) → g.length = c.length → (∀ p, p < c.length → g[p]? = some (((List.range c.length).filter fun k => decide ((p : Int) ∈ c.getD k [])).map fun (k : Nat) => (k : Int))) → Q (.ref y) H'
theorem cal_rev (T : Txt K mg) : C8.Cal P w K mg base 1 "reversed_graph" spRev [] := by
  obtain ⟨f, fd, F, hm, hb⟩ := T.h_reversed_graph
  refine ⟨f, fd, _, [], F.ok sc_reversed_graph (fun vs H Q E h => ?_) (fun cdv A outer s H vs Q E hr h => ?_), hm, F.kp, hb, .nil⟩
  · obtain ⟨r, as, c, rfl, _⟩ := h
    rfl
  · obtain ⟨r, as, c, rfl, hr2, hR, l1, hasc, q⟩ := h
    refine ⟨_, (pss_cons
      (ps_setLc (i := 1) (own := [("_", 5)]) (g := gName 5) (tt := tYes) rfl sc_reversed_graph.nd rfl rfl (sw_true rfl rfl rfl (by decide +kernel)) (pi_tup (pv 0)) (blkOk_by (N := N_reversed_graph) (sc := defScope s_reversed_graph) (by decide +kernel)) (fun _ _ _ _ _ => (pg_name (i := 5) sc_reversed_graph.nd rfl (Or.inl rfl))) (fun _ _ _ _ _ => pts_nil) (fun _ _ _ _ _ => (pe_lst pa_nil)))
      (pss_cons
      (ps_for PassesOwn.never rfl (pi_enumT (by rfl) T.z_enumerate (pa_cons (pv 0) pa_nil)) (pg_tup (by rfl) (pgs_cons (pg_name (i := 2) sc_reversed_graph.nd rfl (.inl rfl)) (pgs_cons (pg_name (i := 3) sc_reversed_graph.nd rfl (.inl rfl)) pgs_nil))) (pss_one
      (ps_for PassesOwn.never rfl (pi_tup (pv 3)) (pg_name (i := 4) sc_reversed_graph.nd rfl (.inl rfl)) (pss_one
      (ps_expr (pe_bm PySem.F.plainAttrs_list PySem.F.slot_list_append PySem.F.type_list_append mt_append (pe_ix (ix_listK (K := K) rfl) (pv 1) (pv 4) (fun _ _ => rfl)) (pa_cons (pv 2) pa_nil)))))))
      (pss_one
      (ps_ret (pv 1))))), ?_⟩
    have hl2 : (as.map V.ref).length = c.length := by rw [List.length_map, hR.len]
    refine ⟨_, rfl, r, rfl, ⟨_, .of hr2⟩, fun D hD => lc_tup (K := K) (a := r) (xs := as.map V.ref) (fun i H' => ∃ bs : List Addr, Same H H' ∧ H' D = some (.lst (bs.map V.ref)) ∧ bs.length = i ∧ RowsA .lst H' bs (List.replicate i []) ∧ bs.Nodup ∧ ∀ b ∈ bs, b ≠ D ∧ H b = none ∧ H' b = some (.lst []))
      ⟨[], same_new hD, upd_same, rfl, True.intro, by simp, by simp⟩ (fun i H' _ ⟨_, z, _⟩ => .of (z _ _ hr2)) ?_ ?_⟩
    · rintro i v H2 hi ⟨bs, s2, e2, hbl, R2, nd, hb⟩
      have hil : i < c.length := by rw [← hl2]; exact (List.getElem?_eq_some_iff.mp hi).1
      refine ⟨rfl, Nat.zero_le _, fun t ht => ?_⟩
      have s3 := same_new (o := .lst []) ht
      have e3 := upd_same (H := H2) (a := t) (o := .lst [])
      generalize upd H2 t (.lst []) = H3 at s3 e3 ⊢
      have ntD : t ≠ D := fun z => by rw [z, e2] at ht; cases ht
      have nDb : D ∉ bs := fun z => (hb D z).1 rfl
      have ntb : t ∉ bs := fun z => by rw [(hb t z).2.2] at ht; cases ht
      refine ⟨_, s3 _ _ e2, by rw [List.length_map]; exact Nat.lt_of_le_of_lt (show bs.length ≤ 1000 by omega) (by decide), bs ++ [t], fun b o hbo => ?_, by rw [upd_same, List.map_append]; rfl, by rw [List.length_append, hbl]; rfl, ?_, List.nodup_append.mpr ⟨nd, by simp, fun a ha b hb' => by rw [List.mem_singleton.mp hb']; exact fun z => ntb (z ▸ ha)⟩, fun b hb' => ?_⟩
      · rw [upd_ne (ne_of_none hbo hD)]
        exact s3 _ _ (s2 _ _ hbo)
      · rw [List.replicate_succ']
        refine RowsA.snoc (by rw [upd_ne ntD]; exact e3) (RowsA.keep (fun b o hb' h => ?_) R2)
        rw [upd_ne (fun z => nDb (by rw [← z]; exact hb'))]
        exact s3 _ _ h
      · rcases List.mem_append.mp hb' with y | y
        · rw [upd_ne (hb b y).1]
          exact ⟨(hb b y).1, (hb b y).2.1, s3 _ _ (hb b y).2.2⟩
        · rw [List.mem_singleton.mp y, upd_ne ntD]
          exact ⟨ntD, s2.free ht, e3⟩
    rintro H2 ⟨bs, s2, e2, hbl, R2, nd, hb⟩
    rw [hl2] at hbl R2
    have nDb : D ∉ bs := fun z => (hb D z).1 rfl
    have hbf : ∀ b ∈ bs, H b = none := fun b h => (hb b h).2.1
    clear hb
    obtain ⟨val, hval⟩ : ∃ val : Nat → Nat → List Int, val = fun (i p : Nat) => ((List.range i).filter fun k => decide ((p : Int) ∈ c.getD k [])).map fun (k : Nat) => (k : Int) := ⟨_, rfl⟩
    have hlt : ∀ p, p < c.length → (List.replicate c.length ([] : List Int))[p]? = some (val 0 p) := fun p hp => by
      rw [hval, List.getElem?_replicate, if_pos hp]
      rfl
    refine ⟨_, rfl, r, _, rfl, .of (s2 _ _ hr2), ?_⟩
    refine for_it (walk_enumT (K := K) (a := r) (xs := as.map V.ref)) (fun i σ H' => ∃ (v2 v3 v4 v5 : Option V) (g : List (List Int)), σ = [some (.ref r), some (.ref D), v2, v3, v4, v5] ∧ Same H H' ∧ H' D = some (.lst (bs.map V.ref)) ∧ RowsA .lst H' bs g ∧ g.length = c.length ∧ ∀ p, p < c.length → g[p]? = some (val i p))
      ⟨none, none, none, none, _, rfl, s2, e2, R2, List.length_replicate, hlt⟩ (fun i σ H' _ ⟨_, _, _, _, _, _, z, _⟩ => .of (z _ _ hr2)) ?_ ?_
    · clear s2 e2 R2 hlt
      rintro i v σ H3 H4 hi ⟨v2, v3, v4, v5, g, rfl, s3, e3, R3, gl, hg⟩ ⟨t, xi, y, rfl, ht, rfl, hx, hy⟩
      obtain rfl := Option.some.inj hx
      obtain ⟨a, ha, rfl⟩ := refs_get hy
      obtain ⟨row, hrow, hra⟩ := hR.get ha
      have s4 := s3.trans (same_new (o := .tup [.int (i : Nat), .ref a]) ht)
      have t4 := same_new (o := .tup [.int (i : Nat), .ref a]) ht
      have et := upd_same (H := H3) (a := t) (o := .tup [.int (i : Nat), .ref a])
      have e4 := t4 _ _ e3
      have R4 := R3.same t4
      generalize upd H3 t (.tup [.int (i : Nat), .ref a]) = H4 at s4 et e4 R4 ⊢
      clear t4 s3 e3 R3 ht
      refine ⟨t, _, rfl, .of et, rfl, _, _, rfl, _, _, rfl, rfl, ?_⟩
      have hil := (List.getElem?_eq_some_iff.mp hrow).1
      have ha' := hasc row (List.mem_of_getElem? hrow)
      have hmem : ∀ p, (p ∈ c.getD i []) = (p ∈ row) := fun p => by rw [List.getD_eq_getElem?_getD, hrow]; rfl
      refine ⟨_, rfl, a, rfl, ⟨_, .of (s4 _ _ hra)⟩, for_tup (K := K) (a := a) (xs := row.map V.int) (fun j σ H' => ∃ (v4 v5 : Option V) (g : List (List Int)), σ = [some (.ref r), some (.ref D), some (.int (i : Nat)), some (.ref a), v4, v5] ∧ Same H H' ∧ H' D = some (.lst (bs.map V.ref)) ∧ RowsA .lst H' bs g ∧ g.length = c.length ∧ ∀ p, p < c.length → g[p]? = some (val i p ++ if (p : Int) ∈ row.take j then [(i : Int)] else []))
        ⟨v4, v5, g, rfl, s4, e4, R4, gl, fun p hp => by rw [hg p hp]; simp⟩ (fun j σ H' _ ⟨_, _, _, _, z, _⟩ => .of (z _ _ hra)) ?_ ?_⟩
      · clear s4 e4 R4 gl hg et
        rintro j v σ H5 hj ⟨v4, v5, g, rfl, s5, e5, R5, gl, hg⟩
        obtain ⟨z, hz, rfl⟩ := ints_get hj
        obtain ⟨z0, z1⟩ := ha'.2 z (List.mem_of_getElem? hz)
        have hzn : z.toNat < c.length := by omega
        obtain ⟨b, hb⟩ : ∃ b, bs[z.toNat]? = some b := ⟨_, List.getElem?_eq_getElem (by omega)⟩
        obtain ⟨gr, hgr, eb⟩ := R5.get hb
        have hbm := List.mem_of_getElem? hb
        have hgz := hg _ hzn
        rw [hgr] at hgz
        have hgz := Option.some.inj hgz
        have zz : ((z.toNat : Nat) : Int) = z := by omega
        have cutE : row = row.take j ++ z :: row.drop (j + 1) := by
          conv => lhs; rw [← List.take_append_drop j row]
          congr 1
          exact List.drop_eq_getElem?_toList_append.trans (by rw [hz]; rfl)
        have hnot : z ∉ row.take j := fun hin => by
          have hp := ha'.1
          rw [cutE] at hp
          have := (List.pairwise_append.mp hp).2.2 z hin z List.mem_cons_self
          omega
        rw [zz, if_neg hnot, List.append_nil] at hgz
        have hat : atI (bs.map V.ref) z = some (.ref b) := by
          rw [← zz]
          exact atI_nat (by rw [List.getElem?_map, hb]; rfl)
        have hvl : gr.length ≤ i := by
          rw [hgz, hval, List.length_map]
          exact Nat.le_trans (List.length_filter_le _ _) (by rw [List.length_range]; exact Nat.le_refl _)
        refine ⟨_, rfl, _, rfl, D, _, _, .ref b, rfl, rfl, .of e5, hat, .inl ⟨rfl, _, .of eb⟩, _, rfl, b, _, _, rfl, rfl, eb, lenI (by omega), ?_⟩
        have nbD : b ≠ D := fun y => nDb (y ▸ hbm)
        have eg : (gr.map V.int ++ [V.int (i : Nat)]) = (gr ++ [(i : Int)]).map V.int := by rw [List.map_append]; rfl
        rw [eg]
        refine ⟨_, _, g.set z.toNat (gr ++ [(i : Int)]), rfl, fun d u hd => ?_, ?_, rows_upd R5 nd hb, by rw [List.length_set]; exact gl, fun p hp => ?_⟩
        · rw [upd_ne (ne_of_none hd (hbf b hbm))]
          exact s5 _ _ hd
        · rw [upd_ne nbD.symm]
          exact e5
        · rw [List.getElem?_set, take_get hz]
          by_cases y : z.toNat = p
          · subst y
            rw [if_pos rfl, if_pos (by omega), zz, if_pos (by simp), hgz]
          · rw [if_neg y, hg p hp]
            have h1 : (p : Int) ≠ z := fun k => y (by omega)
            have h2 : ((p : Int) ∈ row.take j ++ [z]) ↔ ((p : Int) ∈ row.take j) := by simp [h1]
            simp only [h2]
      · rintro σ H5 ⟨v4, v5, g, rfl, s5, e5, R5, gl, hg⟩
        rw [List.length_map, List.take_length] at hg
        refine ⟨_, _, _, _, g, rfl, s5, e5, R5, gl, fun p hp => ?_⟩
        rw [hg p hp, hval]
        show some _ = some (List.map _ (List.filter _ (List.range (i + 1))))
        rw [List.range_succ, List.filter_append, List.map_append]
        congr 2
        by_cases y : (p : Int) ∈ row
        · have e : decide ((p : Int) ∈ c.getD i []) = true := decide_eq_true (Eq.mpr (hmem _) y)
          rw [if_pos y]
          simp only [List.filter, e]
          rfl
        · have e : decide ((p : Int) ∈ c.getD i []) = false := decide_eq_false fun k => y (Eq.mp (hmem _) k)
          rw [if_neg y]
          simp only [List.filter, e]
          rfl
    · rintro σ H3 ⟨v2, v3, v4, v5, g, rfl, s3, e3, R3, gl, hg⟩
      rw [hl2] at hg
      refine ⟨_, rfl, q H3 D bs g s3 ⟨e3, R3⟩ hD hbf gl fun p hp => ?_⟩
      rw [hg p hp, hval]
/-- what stands outside S stays -/
def Fz (S : List Addr) (H H' : Hp) : Prop := ∀ b o, b ∉ S → H b = some o → H' b = some o
theorem Fz.refl {S : List Addr} {H : Hp} : Fz S H H := fun _ _ _ h => h
theorem Fz.of {S : List Addr} {H H' : Hp} (s : Same H H') : Fz S H H' := fun b o _ h => s b o h
theorem Fz.trans {S S' : List Addr} {H H1 H2 : Hp} (h : Fz S H H1) (k : Fz S' H1 H2) (hs : ∀ b ∈ S', b ∈ S ∨ H b = none) : Fz S H H2 := fun b o nb e => by
  refine k b o (fun z => ?_) (h b o nb e)
  rcases hs b z with y | y
  · exact nb y
  · rw [e] at y; cases y
theorem Fz.upd {S : List Addr} {H : Hp} {a : Addr} {o : HO} (h : a ∈ S) : Fz S H (L2.upd H a o) := fun b u nb e => by rw [upd_ne (fun z => nb (by rw [z]; exact h))]; exact e
/-- a game as natural numbers -/
structure Gd where
  ow : List Nat
  ps : List Nat
  mv : Gr.G
def Gd.n (d : Gd) : Nat := d.mv.length
structure Gd.Ok (d : Gd) : Prop where
  lo : d.ow.length = d.mv.length
  lp : d.ps.length = d.mv.length
  n1 : 1 ≤ d.mv.length
  n2 : d.mv.length ≤ 1000
  o2 : ∀ z ∈ d.ow, z < 2
  ne : ∀ p, p < d.mv.length → Gr.row d.mv p ≠ []
  nd : ∀ p, (Gr.row d.mv p).Nodup
  rg : ∀ p, ∀ q ∈ Gr.row d.mv p, q < d.mv.length
  asc : ∀ p, (Gr.row d.mv p).Pairwise (· < ·)
def GrT (H : Hp) (r : Addr) (g : Gr.G) : Prop := ∃ as : List Addr, H r = some (.tup (as.map V.ref)) ∧ as.length = g.length ∧ ∀ i a, as[i]? = some a → H a = some (.tup ((Gr.row g i).map VN))
theorem GrT.same {H H' : Hp} {r : Addr} {g : Gr.G} (s : Same H H') (h : GrT H r g) : GrT H' r g := by
  obtain ⟨as, h1, h2, h3⟩ := h
  exact ⟨as, s _ _ h1, h2, fun i a e => s _ _ (h3 i a e)⟩
def GmN (C : Addr) (H : Hp) (x : Addr) (d : Gd) : Prop := ∃ dx ot pt rt : Addr, H x = some (.ins C dx (gf ot pt rt)) ∧ H ot = some (.tup (d.ow.map VN)) ∧ H pt = some (.tup (d.ps.map VN)) ∧ GrT H rt d.mv
theorem GmN.same {C : Addr} {H H' : Hp} {x : Addr} {d : Gd} (s : Same H H') (h : GmN C H x d) : GmN C H' x d := by
  obtain ⟨dx, ot, pt, rt, h1, h2, h3, h4⟩ := h
  exact ⟨dx, ot, pt, rt, s _ _ h1, s _ _ h2, s _ _ h3, h4.same s⟩
/-- the sources of each place -/
def rvG (mv : Gr.G) : Gr.G := (List.range mv.length).map fun p => (List.range mv.length).filter fun k => decide (p ∈ Gr.row mv k)
theorem rv_len (mv : Gr.G) : (rvG mv).length = mv.length := by unfold rvG; rw [List.length_map, List.length_range]
theorem rv_row {mv : Gr.G} {p : Nat} (h : p < mv.length) : Gr.row (rvG mv) p = (List.range mv.length).filter fun k => decide (p ∈ Gr.row mv k) := by
  unfold Gr.row rvG
  rw [List.getD_eq_getElem?_getD, List.getElem?_map, List.getElem?_range h]
  rfl
theorem rv_mem {mv : Gr.G} {p s : Nat} (h : p < mv.length) : s ∈ Gr.row (rvG mv) p ↔ s < mv.length ∧ p ∈ Gr.row mv s := by
  rw [rv_row h, List.mem_filter, List.mem_range, decide_eq_true_iff]
theorem rv_nd {mv : Gr.G} {p : Nat} (h : p < mv.length) : (Gr.row (rvG mv) p).Nodup := by
  rw [rv_row h]
  exact List.nodup_range.sublist List.filter_sublist
theorem rv_le {mv : Gr.G} {p : Nat} (h : p < mv.length) : (Gr.row (rvG mv) p).length ≤ mv.length := by
  rw [rv_row h]
  exact Nat.le_trans (List.length_filter_le _ _) (by rw [List.length_range]; exact Nat.le_refl _)
/-- the places of each own level -/
def natL (own : List Nat) (T : Nat) : Gr.G := (List.range T).map fun l => (List.range own.length).filter fun p => decide (own.getD p 0 = l)
theorem natL_len (own : List Nat) (T : Nat) : (natL own T).length = T := by unfold natL; rw [List.length_map, List.length_range]
theorem natL_row {own : List Nat} {T l : Nat} (h : l < T) : Gr.row (natL own T) l = (List.range own.length).filter fun p => decide (own.getD p 0 = l) := by
  unfold Gr.row natL
  rw [List.getD_eq_getElem?_getD, List.getElem?_map, List.getElem?_range h]
  rfl
structure RA where
  dx : Addr
  gA : Addr
  sA : Addr
  oA : Addr
  lA : Addr
  cA : Addr
  nA : Addr
  jA : Addr
structure RIm (CR CG : Addr) (H : Hp) (x : Addr) (A : RA) (d : Gd) (own : List Nat) (T : Nat) : Prop where
  ins : H x = some (.ins CR A.dx (rgf A.gA A.sA A.oA A.lA A.cA A.nA A.jA))
  gm : GmN CG H A.gA d
  so : GrL H A.sA (rvG d.mv)
  ow : H A.oA = some (.lst (own.map VN))
  nt : GrL H A.nA (natL own T)
def RA.mu (A : RA) (jas : List Addr) : List Addr := A.lA :: A.cA :: A.jA :: jas
/-- the levels, the choices, who has joined -/
structure RSt where
  r : List Nat
  ch : List Int
  jo : List (List Nat)
structure RgAt (CR CG : Addr) (H : Hp) (x : Addr) (A : RA) (d : Gd) (own : List Nat) (T : Nat) (jas : List Addr) (s : RSt) : Prop where
  im : ∀ H', Fz (A.mu jas) H H' → RIm CR CG H' x A d own T
  lev : H A.lA = some (.lst (s.r.map VN))
  cho : H A.cA = some (.lst (s.ch.map V.int))
  jn : H A.jA = some (.lst (jas.map V.ref))
  jl : jas.length = s.jo.length
  jr : ∀ (i : Nat) (a : Addr), jas[i]? = some a → H a = some (.lst ((s.jo.getD i []).map VN))
  nd : (A.mu jas).Nodup
section
variable {CR CG x : Addr} {A : RA} {d : Gd} {own : List Nat} {T : Nat} {jas : List Addr} {s : RSt} {H H' : Hp}
theorem RgAt.i (h : RgAt CR CG H x A d own T jas s) : RIm CR CG H x A d own T := h.im H Fz.refl
theorem RgAt.same (sm : Same H H') (h : RgAt CR CG H x A d own T jas s) : RgAt CR CG H' x A d own T jas s :=
  ⟨fun H2 k => h.im H2 (Fz.trans (.of sm) k fun b hb => .inl hb), sm _ _ h.lev, sm _ _ h.cho, sm _ _ h.jn, h.jl, fun i a e => sm _ _ (h.jr i a e), h.nd⟩
theorem mu_l : A.lA ∈ A.mu jas := List.mem_cons_self
theorem mu_c : A.cA ∈ A.mu jas := List.mem_cons_of_mem _ List.mem_cons_self
theorem mu_j : A.jA ∈ A.mu jas := List.mem_cons_of_mem _ (List.mem_cons_of_mem _ List.mem_cons_self)
theorem mu_r {a : Addr} (h : a ∈ jas) : a ∈ A.mu jas := List.mem_cons_of_mem _ (List.mem_cons_of_mem _ (List.mem_cons_of_mem _ h))
theorem RgAt.ne (h : RgAt CR CG H x A d own T jas s) : A.lA ≠ A.cA ∧ A.lA ≠ A.jA ∧ A.cA ≠ A.jA ∧ (∀ a ∈ jas, A.lA ≠ a ∧ A.cA ≠ a ∧ A.jA ≠ a) := by
  have n := h.nd
  unfold RA.mu at n
  rw [List.nodup_cons, List.nodup_cons, List.nodup_cons] at n
  obtain ⟨n1, n2, n3, n4⟩ := n
  refine ⟨fun z => n1 (by rw [z]; exact List.mem_cons_self), fun z => n1 (by rw [z]; exact List.mem_cons_of_mem _ List.mem_cons_self), fun z => n2 (by rw [z]; exact List.mem_cons_self), fun a ha => ⟨fun z => n1 (z ▸ List.mem_cons_of_mem _ (List.mem_cons_of_mem _ ha)), fun z => n2 (z ▸ List.mem_cons_of_mem _ ha), fun z => n3 (z ▸ ha)⟩⟩
theorem RgAt.setL (h : RgAt CR CG H x A d own T jas s) (r' : List Nat) : RgAt CR CG (upd H A.lA (.lst (r'.map VN))) x A d own T jas ⟨r', s.ch, s.jo⟩ := by
  obtain ⟨n1, n2, n3, n4⟩ := h.ne
  refine ⟨fun H2 k => h.im H2 (Fz.trans (Fz.upd mu_l) k fun b hb => .inl hb), upd_same, ?_, ?_, h.jl, fun i a e => ?_, h.nd⟩
  · rw [upd_ne n1.symm]; exact h.cho
  · rw [upd_ne n2.symm]; exact h.jn
  · rw [upd_ne (n4 a (List.mem_of_getElem? e)).1.symm]; exact h.jr i a e
theorem RgAt.setC (h : RgAt CR CG H x A d own T jas s) (c' : List Int) : RgAt CR CG (upd H A.cA (.lst (c'.map V.int))) x A d own T jas ⟨s.r, c', s.jo⟩ := by
  obtain ⟨n1, n2, n3, n4⟩ := h.ne
  refine ⟨fun H2 k => h.im H2 (Fz.trans (Fz.upd mu_c) k fun b hb => .inl hb), ?_, upd_same, ?_, h.jl, fun i a e => ?_, h.nd⟩
  · rw [upd_ne n1]; exact h.lev
  · rw [upd_ne n3.symm]; exact h.jn
  · rw [upd_ne (n4 a (List.mem_of_getElem? e)).2.1.symm]; exact h.jr i a e
theorem RgAt.jnd (h : RgAt CR CG H x A d own T jas s) : jas.Nodup := by
  have n := h.nd
  unfold RA.mu at n
  rw [List.nodup_cons, List.nodup_cons, List.nodup_cons] at n
  exact n.2.2.2
theorem RgAt.setJ (h : RgAt CR CG H x A d own T jas s) {l : Nat} {a : Addr} (ha : jas[l]? = some a) (q : List Nat) : RgAt CR CG (upd H a (.lst (q.map VN))) x A d own T jas ⟨s.r, s.ch, s.jo.set l q⟩ := by
  obtain ⟨n1, n2, n3, n4⟩ := h.ne
  obtain ⟨m1, m2, m3⟩ := n4 a (List.mem_of_getElem? ha)
  refine ⟨fun H2 k => h.im H2 (Fz.trans (Fz.upd (mu_r (List.mem_of_getElem? ha))) k fun b hb => .inl hb), ?_, ?_, ?_, by rw [List.length_set]; exact h.jl, fun i b e => ?_, h.nd⟩
  · rw [upd_ne m1]; exact h.lev
  · rw [upd_ne m2]; exact h.cho
  · rw [upd_ne m3]; exact h.jn
  · by_cases c : i = l
    · subst c
      rw [ha] at e
      cases e
      have hl : i < s.jo.length := by rw [← h.jl]; exact lt_of_get ha
      rw [upd_same]
      simp [List.getD_eq_getElem?_getD, List.getElem?_set, hl]
    · have : b ≠ a := fun z => c (by subst z; exact nd_inj h.jnd e ha)
      rw [upd_ne this, h.jr i b e]
      simp [List.getD_eq_getElem?_getD, List.getElem?_set, Ne.symm c]
theorem nodup_of {α : Type} {l : List α} (h : ∀ (i j : Nat) (z : α), l[i]? = some z → l[j]? = some z → i = j) : l.Nodup := by
  rw [List.nodup_iff_pairwise_ne, List.pairwise_iff_getElem]
  intro i j hi hj hij e
  have := h i j l[i] (List.getElem?_eq_getElem hi) (by rw [e]; exact List.getElem?_eq_getElem hj)
  omega
/-- a new empty list of those who have joined -/
theorem RgAt.newJ (h : RgAt CR CG H x A d own T jas s) {l : Nat} {a : Addr} (hl : l < jas.length) (na : H a = none) : RgAt CR CG (upd (upd H a (.lst [])) A.jA (.lst ((jas.set l a).map V.ref))) x A d own T (jas.set l a) ⟨s.r, s.ch, s.jo.set l []⟩ := by
  obtain ⟨n1, n2, n3, n4⟩ := h.ne
  have nl : A.lA ≠ a := fun z => by rw [← z, h.lev] at na; cases na
  have nc : A.cA ≠ a := fun z => by rw [← z, h.cho] at na; cases na
  have nj : A.jA ≠ a := fun z => by rw [← z, h.jn] at na; cases na
  have nr : a ∉ jas := fun z => by
    obtain ⟨i, hi⟩ := List.mem_iff_getElem?.mp z
    rw [h.jr i a hi] at na
    cases na
  have msub : ∀ b ∈ A.mu (jas.set l a), b ∈ A.mu jas ∨ H b = none := fun b hb => by
    unfold RA.mu at hb ⊢
    simp only [List.mem_cons] at hb ⊢
    rcases hb with z | z | z | z
    · exact .inl (.inl z)
    · exact .inl (.inr (.inl z))
    · exact .inl (.inr (.inr (.inl z)))
    · rcases List.mem_or_eq_of_mem_set z with y | y
      · exact .inl (.inr (.inr (.inr y)))
      · exact .inr (by rw [y]; exact na)
  refine ⟨fun H2 k => h.im H2 (Fz.trans (H1 := upd (upd H a (.lst [])) A.jA (.lst ((jas.set l a).map V.ref))) ?_ k msub), ?_, ?_, upd_same, by rw [List.length_set, List.length_set]; exact h.jl, fun i b e => ?_, ?_⟩
  · intro b o nb e
    rw [upd_ne (fun z => nb (by rw [z]; exact mu_j)), upd_ne (ne_of_none e na)]
    exact e
  · rw [upd_ne n2, upd_ne nl]; exact h.lev
  · rw [upd_ne n3, upd_ne nc]; exact h.cho
  · have hjl := h.jl
    by_cases c : i = l
    · subst c
      rw [List.getElem?_set, if_pos rfl, if_pos hl] at e
      cases e
      rw [upd_ne nj.symm, upd_same]
      simp [List.getD_eq_getElem?_getD, List.getElem?_set, show i < s.jo.length by omega]
    · rw [List.getElem?_set, if_neg (Ne.symm c)] at e
      have hb := List.mem_of_getElem? e
      rw [upd_ne (n4 b hb).2.2.symm, upd_ne (fun z => nr (by rw [← z]; exact hb)), h.jr i b e]
      simp [List.getD_eq_getElem?_getD, List.getElem?_set, Ne.symm c]
  · unfold RA.mu
    have ndj := h.jnd
    have nset : (jas.set l a).Nodup := nodup_of fun i j z hi hj => by
      rw [List.getElem?_set] at hi hj
      by_cases c1 : l = i
      · rw [if_pos c1, if_pos (by omega)] at hi
        by_cases c2 : l = j
        · omega
        · rw [if_neg c2] at hj
          exact absurd (List.mem_of_getElem? (hj.trans hi.symm)) nr
      · rw [if_neg c1] at hi
        by_cases c2 : l = j
        · rw [if_pos c2, if_pos (by omega)] at hj
          exact absurd (List.mem_of_getElem? (hi.trans hj.symm)) nr
        · rw [if_neg c2] at hj
          exact nd_inj ndj hi hj
    have mem : ∀ b ∈ jas.set l a, b ∈ jas ∨ b = a := fun b hb => List.mem_or_eq_of_mem_set hb
    refine List.nodup_cons.mpr ⟨fun z => ?_, List.nodup_cons.mpr ⟨fun z => ?_, List.nodup_cons.mpr ⟨fun z => ?_, nset⟩⟩⟩
    · rcases List.mem_cons.mp z with y | y
      · exact n1 y
      · rcases List.mem_cons.mp y with y | y
        · exact n2 y
        · rcases mem _ y with y | y
          · exact (n4 _ y).1 rfl
          · exact nl y
    · rcases List.mem_cons.mp z with y | y
      · exact n3 y
      · rcases mem _ y with y | y
        · exact (n4 _ y).2.1 rfl
        · exact nc y
    · rcases mem _ z with y | y
      · exact (n4 _ y).2.2 rfl
      · exact nj y
end
def spPartT : Sp := fun vs H Q _ => ∃ (r a : Addr) (g : Gr.G) (ns : List Nat), vs = [.ref r, .ref a] ∧ GrT H r g ∧ H a = some (.lst (ns.map VN)) ∧ ns.Nodup ∧ (∀ n ∈ ns, n < g.length) ∧ g.length ≤ 1000 ∧ (∀ n, (Gr.row g n).length ≤ 1000) ∧
  ∀ (H' : Hp) (y : Addr), Same H H' → H y = none → GrL H' y (subN g ns) → Q (.ref y) H'
theorem cal_partT (T : Txt K mg) : C8.Cal P w K mg base 1 "part_of" spPartT [] := by
  obtain ⟨f, fd, F, hm, hb⟩ := T.h_part_of
  refine ⟨f, fd, _, [], F.ok sc_part_of (fun vs H Q E h => ?_) (fun cdv A outer s H vs Q E hr h => ?_), hm, F.kp, hb, .nil⟩
  · obtain ⟨r, a, g, ns, rfl, _⟩ := h
    rfl
  · obtain ⟨r, U, g, ns, rfl, hG, eU, hnd, hlt, hgl, hrl, q⟩ := h
    refine ⟨_, (pss_cons
      (ps_set (i := 2) sc_part_of.nd rfl (Or.inr rfl) (pe_dc (own := [("at", 3), ("node", 4)]) (g := gTup K 2 (gCons (gName 3) (gCons (gName 4) gNil))) (tt := tYes) rfl sc_part_of.nd (pi_enum (by rfl) T.z_enumerate (pa_cons (pv 1) pa_nil)) (blkOk_by (N := N_part_of) (sc := defScope s_part_of) (by decide +kernel)) (fun _ _ _ _ _ => (pg_tup (by rfl) (pgs_cons (pg_name (i := 3) sc_part_of.nd rfl (Or.inl rfl)) (pgs_cons (pg_name (i := 4) sc_part_of.nd rfl (Or.inl rfl)) pgs_nil)))) (fun _ _ _ _ _ => pts_nil) (fun _ _ _ _ _ => (pv 4)) (fun _ _ _ _ _ => (pv 3))))
      (pss_one
      (ps_ret (pe_lc (own := [("node", 4)]) (g := gName 4) (tt := tYes) rfl sc_part_of.nd (pi_list (pv 1)) (blkOk_by (N := N_part_of) (sc := defScope s_part_of) (by decide +kernel)) (fun _ _ _ _ _ => (pg_name (i := 4) sc_part_of.nd rfl (by first | exact Or.inl rfl | exact Or.inr rfl))) (fun _ _ _ _ _ => pts_nil) (fun _ _ _ _ _ => (pe_lc (own := [("target", 5)]) (g := gName 5) rfl sc_part_of.nd (pi_tupK (K := K) rfl (pe_ix (ix_tupK (K := K) rfl) (pv 0) (pv 4) (fun _ _ => rfl))) (blkOk_by (N := N_part_of) (sc := pScope) (by decide +kernel)) (fun _ _ _ _ _ => (pg_name (i := 5) sc_part_of.nd rfl (Or.inl rfl))) (fun _ _ _ _ _ => (pts_one (pt_cmp (pc_din (hu_of hr) (pv 5) (pv 2))))) (fun _ _ _ _ _ => (pe_dget (hu_of hr) (pv 2) (pv 5) (fun _ _ => rfl))))))))), ?_⟩
    obtain ⟨as, hr0, hal, ha⟩ := id hG
    have hul : ns.length ≤ 1000 := by have := nd_len hnd hlt; omega
    refine ⟨_, rfl, U, _, rfl, .of eU, fun d nd => dc_it (walk_enum (K := K) (a := U) (xs := ns.map VN)) (fun i H' => Same H H' ∧ H' d = some (.dK (numK (ns.take i))))
      ⟨same_new nd, upd_same⟩ (fun i H' _ ⟨z, _⟩ => .of (z _ _ eU)) ?_ ?_⟩
    · rintro i v H3 H4 hi ⟨s3, ed⟩ ⟨p, xi, y, rfl, np, rfl, hx, hy⟩
      obtain rfl := Option.some.inj hx
      obtain ⟨u, hu, rfl⟩ := nats_get hy
      generalize hX : upd H3 p _ = H4; obtain ⟨sH4, ep⟩ := nw np hX; clear hX
      refine ⟨p, _, rfl, .of ep, rfl, _, _, rfl, _, _, rfl, rfl, rfl, ?_⟩
      have ed4 := sH4 _ _ ed
      have hil := lt_of_get hu
      have hni : u ∉ ns.take i := fun hm => by
        obtain ⟨j, hj⟩ := List.mem_iff_getElem?.mp hm
        rw [List.getElem?_take] at hj
        split at hj
        · rename_i hji
          have := nd_inj hnd hj hu
          omega
        · cases hj
      have hput := numK_put hni
      rw [List.length_take, Nat.min_eq_left (Nat.le_of_lt hil)] at hput
      refine ⟨_, rfl, _, rfl, _, Sum.inl (u : Int), rfl, ed4, by rw [numK_len, List.length_take]; exact Nat.lt_of_le_of_lt (show min i ns.length ≤ 1000 by omega) (by decide), fun a o e => by rw [upd_ne (ne_of_none e nd)]; exact (s3.trans sH4) _ _ e, ?_⟩
      show upd H4 d (.dK (putK (numK (ns.take i)) (Sum.inl (u : Int)) (VN i))) d = _
      rw [upd_same, hput, take_succ' hu]
    rintro H3 ⟨s3, ed⟩
    rw [List.length_map, List.take_length] at ed
    have eU3 := s3 _ _ eU
    refine ⟨_, rfl, U, rfl, ⟨_, .of eU3⟩, fun R nR => lc_list (K := K) (a := U) (xs := ns.map VN) (fun i H' => ∃ ys : List Addr, Same H3 H' ∧ H' R = some (.lst (ys.map V.ref)) ∧ ys.length = i ∧ ∀ (j : Nat) (y : Addr), ys[j]? = some y → y ≠ R ∧ H' y = some (.lst ((Gr.row (subN g ns) j).map VN)))
      ⟨[], same_new nR, upd_same, rfl, fun i a h => by (cases h)⟩ (fun i H' _ ⟨_, z, _⟩ => .of (z _ _ eU3)) ?_ ?_⟩
    · rintro i v H4 hi ⟨ys, s4, eR, hyl, hys⟩
      obtain ⟨u, hu, rfl⟩ := nats_get hi
      have hus := hlt u (List.mem_of_getElem? hu)
      obtain ⟨a, haa⟩ : ∃ a, as[u]? = some a := ⟨_, List.getElem?_eq_getElem (by rw [hal]; exact hus)⟩
      have hra := ha u a haa
      have s04 := s3.trans s4
      refine ⟨rfl, _, rfl, _, rfl, r, _, _, .ref a, rfl, rfl, .of (s04 _ _ hr0), atN haa, a, rfl, ⟨_, .of (s04 _ _ hra)⟩, fun D nD => ?_⟩
      have nDR : D ≠ R := fun z => by rw [z, eR] at nD; cases nD
      refine lc_tup (K := K) (a := a) (xs := (Gr.row g u).map VN) (fun j H' => Same H4 H' ∧ H' D = some (.lst (((((Gr.row g u).take j).filter fun v => decide (v ∈ ns)).map ns.idxOf).map VN)))
        ⟨same_new nD, upd_same⟩ (fun j H' _ ⟨z, _⟩ => .of (z _ _ (s04 _ _ hra))) ?_ ?_
      · rintro j v H5 hj ⟨s5, eD⟩
        obtain ⟨z, hz, rfl⟩ := nats_get hj
        have ed5 := s5 _ _ (s4 _ _ ed)
        refine ⟨rfl, _, rfl, _, rfl, d, _, rfl, DGet.k (k := Sum.inl (z : Int)) ed5, _, rfl, ?_⟩
        rw [take_succ' hz, sub_row_snoc]
        by_cases hm : z ∈ ns
        · have hv : valV (numK ns) (Sum.inl (z : Int) : L2.Key) = some (VN (ns.idxOf z)) := by
            rw [numK_val, if_pos ⟨by rw [Int.toNat_natCast]; exact hm, Int.natCast_nonneg z⟩, Int.toNat_natCast]
          rw [hv, if_pos hm]
          refine iteB_t rfl ⟨_, rfl, _, rfl, d, VN (ns.idxOf z), rfl, ?_, _, eD, ?_, fun p o e => by rw [upd_ne (ne_of_none e nD)]; exact s5 _ _ e, by rw [upd_same, List.map_append]; rfl⟩
          · have := DGet.k (k := Sum.inl (z : Int)) ed5
            rw [hv] at this
            exact this
          · rw [List.length_map, List.length_map]
            have h1 := List.length_filter_le (fun v => decide (v ∈ ns)) ((Gr.row g u).take j)
            have h2 := hrl u
            rw [List.length_take] at h1
            exact Nat.lt_of_le_of_lt (show _ ≤ 1000 by omega) (by decide)
        · have hv : valV (numK ns) (Sum.inl (z : Int) : L2.Key) = none := by
            rw [numK_val, if_neg (fun q => hm (by have := q.1; rw [Int.toNat_natCast] at this; exact this))]
          rw [hv, if_neg hm]
          exact iteB_f rfl ⟨s5, eD⟩
      · rintro H5 ⟨s5, eD⟩
        rw [List.length_map, List.take_length] at eD
        have hil := lt_of_get hu
        refine ⟨_, s5 _ _ eR, by rw [List.length_map]; exact Nat.lt_of_le_of_lt (show ys.length ≤ 1000 by omega) (by decide), ys ++ [D], fun p o e => by rw [upd_ne (ne_of_none e nR)]; exact s5 _ _ (s4 _ _ e), by rw [upd_same, List.map_append]; rfl, by rw [List.length_append, hyl]; rfl, fun j y hj => ?_⟩
        rcases snocg hj with ⟨_, k⟩ | ⟨k1, k2⟩
        · obtain ⟨n1, h1⟩ := hys j y k
          exact ⟨n1, by rw [upd_ne n1]; exact s5 _ _ h1⟩
        · subst k2
          rw [hyl] at k1
          subst k1
          exact ⟨nDR, by rw [upd_ne nDR, eD, row_subN hu]⟩
    rintro H4 ⟨ys, s4, eR, hyl, hys⟩
    rw [List.length_map] at hyl
    exact q H4 R (s3.trans s4) (s3.free nR) ⟨ys, eR, by rw [hyl, subN_len], fun i a h => (hys i a h).2⟩
theorem grps_sub {ns h : List Nat} {c : Nat} (hl : ns.length = h.length) {G : List Nat} (hG : G ∈ grps ns h c) : G.Sublist ns := by
  unfold grps at hG
  obtain ⟨i, _, rfl⟩ := List.mem_map.mp hG
  unfold grpOf
  have := (List.filter_sublist (l := ns.zip h) (p := fun p => decide (p.2 = i))).map Prod.fst
  rw [List.map_fst_zip (by omega)] at this
  exact this
def spCLT : Sp := fun vs H Q _ => ∃ (r a : Addr) (g : Gr.G) (ns : List Nat), vs = [.ref r, .ref a] ∧ GrT H r g ∧ H a = some (.lst (ns.map VN)) ∧ ns.Nodup ∧ (∀ n ∈ ns, n < g.length) ∧ g.length ≤ 1000 ∧ (∀ n, (Gr.row g n).length ≤ 1000) ∧
  ∀ (H' : Hp) (y : Addr) (bs : List Addr) (gs : List (List Nat)), Same H H' → NL H y bs gs H' → H y = none → Grp g ns gs → (∀ G ∈ gs, G.Sublist ns) → Q (.ref y) H'
theorem cal_clT (T : Txt K mg) : C8.Cal P w K mg base 3 "component_lists" spCLT [] := by
  have C_part_of : C8.Cal P w K mg base 1 "part_of" spPartT [] := cal_partT T
  have C_components : C8.Cal P w K mg base 2 "components" spComp [] := cal_comp T
  obtain ⟨f, fd, F, hm, hb⟩ := T.h_component_lists
  refine ⟨f, fd, _, [], F.ok sc_component_lists (fun vs H Q E h => ?_) (fun cdv A outer s H vs Q E hr h => ?_), hm, F.kp, hb, .nil⟩
  · obtain ⟨r, a, g, ns, rfl, _⟩ := h
    rfl
  · obtain ⟨r, U, g, ns, rfl, hG, eU, hnd, hlt, hgl, hrl, q⟩ := h
    refine ⟨_, (pss_cons
      (ps_set (i := 2) sc_component_lists.nd rfl (Or.inl rfl) (C8.pe_c C_components hr (by decide) (by rfl) (pa_cons (C8.pe_c C_part_of hr (by decide) (by rfl) (pa_cons (pv 0) (pa_cons (pv 1) pa_nil))) pa_nil)))
      (pss_cons
      (ps_setLc (i := 3) (own := [("_", 6)]) (g := gName 6) (tt := tYes) rfl sc_component_lists.nd rfl rfl (sw_true rfl rfl rfl (by decide +kernel)) (pi_range1 (by rfl) T.z_range (pa_cons (pe_op op_add (pe_callBK (call_maxD (K := K) rfl rfl) (by rfl) T.z_max (by decide +kernel) (pa_cons (pv 2) pa_nil) (pk_cons (pe_un un_neg pe_int) pk_nil)) pe_int) pa_nil)) (blkOk_by (N := N_component_lists) (sc := defScope s_component_lists) (by decide +kernel)) (fun _ _ _ _ _ => (pg_name (i := 6) sc_component_lists.nd rfl (Or.inl rfl))) (fun _ _ _ _ _ => pts_nil) (fun _ _ _ _ _ => (pe_lst pa_nil)))
      (pss_cons
      (ps_for PassesOwn.never rfl (pi_zip (by rfl) T.z_zip (pa_cons (pv 1) (pa_cons (pv 2) pa_nil))) (pg_tup (by rfl) (pgs_cons (pg_name (i := 4) sc_component_lists.nd rfl (.inl rfl)) (pgs_cons (pg_name (i := 5) sc_component_lists.nd rfl (.inl rfl)) pgs_nil))) (pss_one
      (ps_expr (pe_bm PySem.F.plainAttrs_list PySem.F.slot_list_append PySem.F.type_list_append mt_append (pe_ix (ix_listK (K := K) rfl) (pv 3) (pv 5) (fun _ _ => rfl)) (pa_cons (pv 4) pa_nil)))))
      (pss_one
      (ps_ret (pv 3)))))), ?_⟩
    have hul : ns.length ≤ 1000 := by have := nd_len hnd hlt; omega
    refine ⟨_, rfl, _, rfl, r, U, g, ns, rfl, hG, eU, hnd, hlt, hgl, hrl, fun H1 y s1 ny hS => ?_⟩
    have hsm : Small (subN g ns) := by
      refine ⟨by rw [subN_len]; omega, ?_⟩
      have := below_le (w := fun u => (Gr.row (subN g ns) u).length) (subN_row_le hrl) (subN g ns).length
      rw [subN_len] at this ⊢
      have h2 : ns.length * 1000 ≤ 1000 * 1000 := Nat.mul_le_mul_right _ hul
      omega
    refine ⟨y, subN g ns, rfl, hS, subN_ok g ns, hsm, fun H2 z h c s2 nz ez C => ?_⟩
    have s02 := s1.trans s2
    have hhl : h.length = ns.length := by rw [C.len, subN_len]
    have hcl : c ≤ ns.length := by
      have := le_of_all C.us
      omega
    refine ⟨_, rfl, _, rfl, z, h.map Int.ofNat, -1, rfl, rfl, .of (by rw [ez, List.map_map]; rfl), fun m h1 h2 => ⟨_, _, rfl, rfl, _, rfl, ?_⟩⟩
    have hm1 := max_c C h1 h2
    rw [hm1]
    refine ⟨by omega, by omega, fun D nD => ?_⟩
    rw [Int.toNat_natCast]
    refine lc_range (lo := 0) (n := c) (fun i H' => ∃ bs : List Addr, Same H2 H' ∧ NL H2 D bs (List.replicate i []) H')
      ⟨[], same_new nD, upd_same, rfl, by simp, by simp, by simp⟩ ?_ ?_
    · rintro i H3 hi ⟨bs, s3, h3⟩
      refine ⟨rfl, Nat.zero_le _, fun t nt => ?_⟩
      generalize hX : upd H3 t _ = H4; obtain ⟨sH4, et⟩ := nw nt hX; clear hX
      have hbl : bs.length = i := by rw [h3.len, List.length_replicate]
      refine ⟨_, sH4 _ _ h3.d, by rw [List.length_map]; exact Nat.lt_of_le_of_lt (show bs.length ≤ 1000 by omega) (by decide), bs ++ [t], fun x y e => by rw [upd_ne (ne_of_none e nD)]; exact (s3.trans sH4) _ _ e, h3.add s3 nt sH4 et⟩
    rintro H3 ⟨bs, s3, h3⟩
    rw [← grps_nil] at h3
    have s03 := s02.trans s3
    refine ⟨_, rfl, _, rfl, U, z, ns.map VN, h.map VN, rfl, .of (s03 _ _ eU), .of (s3 _ _ ez), ?_⟩
    refine for_it (walk_zip (K := K) (a := U) (b := z) (xs := ns.map VN) (ys := h.map VN) (n := ns.length) (by rw [List.length_map, List.length_map, hhl, Nat.min_self])) (fun i σ H' => ∃ v4 v5 v6 : Option V, σ = [some (.ref r), some (.ref U), some (.ref z), some (.ref D), v4, v5, v6] ∧ (∀ b o, H2 b = some o → H' b = some o) ∧ NL H2 D bs (grps (ns.take i) (h.take i) c) H')
      ⟨none, none, none, rfl, s3, h3⟩ (fun i σ H' _ ⟨_, _, _, _, s, _⟩ => ⟨.of (s _ _ (s02 _ _ eU)), .of (s _ _ ez)⟩) ?_ ?_
    · rintro i v σ H4 H5 hi ⟨v4, v5, v6, rfl, s4, h4⟩ ⟨t, y1, y2, rfl, nt, rfl, hy1, hy2⟩
      obtain ⟨u, hu, rfl⟩ := nats_get hy1
      obtain ⟨j, hj, rfl⟩ := nats_get hy2
      generalize hX : upd H4 t _ = H5; obtain ⟨sH5, et⟩ := nw nt hX; clear hX
      have h5 := h4.keep sH5
      refine ⟨t, _, rfl, .of et, rfl, _, _, rfl, _, _, rfl, rfl, ?_⟩
      have hjc := C.lt j (List.mem_of_getElem? hj)
      have hil := lt_of_get hu
      have hjb : j < bs.length := by rw [h4.len, grps_len]; exact hjc
      have hbb := List.getElem?_eq_getElem hjb
      have eb := h5.get j _ hbb
      have hrow : Gr.row (grps (ns.take i) (h.take i) c) j = grpOf (ns.take i) (h.take i) j := by
        unfold Gr.row
        rw [List.getD_eq_getElem?_getD, grps_get hjc]
        rfl
      rw [hrow] at eb
      have hgle : (grpOf (ns.take i) (h.take i) j).length ≤ 1000 := by
        unfold grpOf
        rw [List.length_map]
        refine Nat.le_trans (List.length_filter_le _ _) ?_
        rw [List.length_zip, List.length_take, List.length_take]
        omega
      refine ⟨_, rfl, _, rfl, D, _, _, .ref bs[j], rfl, rfl, .of h5.d, atN hbb, .inl ⟨rfl, _, .of eb⟩, _, rfl, bs[j], _, _, rfl, rfl, eb, by rw [List.length_map]; exact Nat.lt_of_le_of_lt hgle (by decide), ?_⟩
      rw [show (grpOf (ns.take i) (h.take i) j).map VN ++ [VN u] = (grpOf (ns.take i) (h.take i) j ++ [u]).map VN by rw [List.map_append]; rfl]
      have hfr := h4.fr bs[j] (List.mem_of_getElem? hbb)
      refine ⟨_, _, _, rfl, fun b o e => ?_, ?_⟩
      · rw [upd_ne (ne_of_none e hfr.1)]
        exact sH5 _ _ (s4 _ _ e)
      · rw [take_succ' hu, take_succ' hj, grps_snoc (by rw [List.length_take, List.length_take, hhl]) hjc]
        exact h5.put hbb
    · rintro σ H4 ⟨v4, v5, v6, rfl, s4, h4⟩
      rw [List.take_length, ← hhl, List.take_length] at h4
      exact ⟨_, rfl, q H4 D bs _ (s02.trans s4) ⟨h4.d, h4.len, h4.nd, fun b hb => ⟨s02.free (h4.fr b hb).1, (h4.fr b hb).2⟩, h4.get⟩ (s02.free nD) (grp_of hnd C) (fun G hG => grps_sub hhl.symm hG)⟩
namespace Pm
open Relation (TransGen)
structure G where
  n : Nat
  ow : Nat → Nat
  pr : Nat → Nat
  mv : Nat → List Nat
structure G.Ok (g : G) : Prop where
  ne : ∀ p, p < g.n → g.mv p ≠ []
  rg : ∀ p, p < g.n → ∀ q ∈ g.mv p, q < g.n
  o2 : ∀ p, p < g.n → g.ow p < 2
/-- no cycle whose greatest priority is bad for a -/
def NoBad (S : Nat → Prop) (E : Nat → Nat → Prop) (pr : Nat → Nat) (a : Nat) : Prop := ∀ k, pr k % 2 ≠ a → ¬ TransGen (fun x y => (S x ∧ S y ∧ E x y) ∧ pr x ≤ pr k ∧ pr y ≤ pr k) k k
/-- a move where a moves as is chosen -/
def Cm (g : G) (ch : Nat → Int) (a : Nat) (p q : Nat) : Prop := q ∈ g.mv p ∧ (g.ow p = a → ch p = (q : Int))
section
variable {α : Type} {R R' : α → α → Prop} {T : α → Prop}
theorem tg_inv (h : ∀ x y, T x → R x y → T y) {a b : α} (t : TransGen R a b) (ta : T a) : T b := by
  induction t with
  | single e => exact h _ _ ta e
  | tail _ e ih => exact h _ _ ih e
theorem tg_fwd (h : ∀ x y, T x → R x y → T y ∧ R' x y) {a b : α} (t : TransGen R a b) (ta : T a) : TransGen R' a b := by
  have : TransGen R' a b ∧ T b := by
    induction t with
    | single e => exact ⟨.single (h _ _ ta e).2, (h _ _ ta e).1⟩
    | tail _ e ih => exact ⟨.tail ih.1 (h _ _ ih.2 e).2, (h _ _ ih.2 e).1⟩
  exact this.1
theorem tg_back (h : ∀ x y, T y → R x y → T x ∧ R' x y) {a b : α} (t : TransGen R a b) (tb : T b) : TransGen R' a b := by
  induction t with
  | single e => exact .single (h _ _ tb e).2
  | tail _ e ih => exact .tail (ih (h _ _ tb e).1) (h _ _ tb e).2
theorem tg_mono (h : ∀ x y, R x y → R' x y) {a b : α} (t : TransGen R a b) : TransGen R' a b := by
  induction t with
  | single e => exact .single (h _ _ e)
  | tail _ e ih => exact .tail ih (h _ _ e)
theorem tg_last {a b : α} (t : TransGen R a b) : ∃ c, R c b := by
  cases t with
  | single e => exact ⟨_, e⟩
  | tail _ e => exact ⟨_, e⟩
theorem tg_first {a b : α} (t : TransGen R a b) : ∃ c, R a c := by
  induction t with
  | single e => exact ⟨_, e⟩
  | tail _ _ ih => exact ih
end
theorem nb_mono {S S' : Nat → Prop} {E E' : Nat → Nat → Prop} {pr : Nat → Nat} {a : Nat} (h : ∀ x y, S' x → S' y → E' x y → ∀ k, pr k % 2 ≠ a → pr x ≤ pr k → pr y ≤ pr k → S x ∧ S y ∧ E x y) (b : NoBad S E pr a) : NoBad S' E' pr a := fun k hk t =>
  b k hk (tg_mono (fun x y e => ⟨h x y e.1.1 e.1.2.1 e.1.2.2 k hk e.2.1 e.2.2, e.2⟩) t)
/-- one more place that no step enters -/
theorem nb_ext {S S' : Nat → Prop} {E E' : Nat → Nat → Prop} {pr : Nat → Nat} {a p : Nat} (b : NoBad S E pr a)
    (h1 : ∀ k, S' k → pr k % 2 ≠ a → ∀ x, S' x → S' p → E' x p → pr x ≤ pr k → pr p ≤ pr k → False)
    (h2 : ∀ x y, x ≠ p → y ≠ p → S' x → S' y → E' x y → S x ∧ S y ∧ E x y) : NoBad S' E' pr a := fun k hk t => by
  have sk : S' k := by obtain ⟨c, e⟩ := tg_last t; exact e.1.2.1
  have kp : k ≠ p := fun z => by
    obtain ⟨c, e⟩ := tg_last t
    rw [z] at e hk sk
    exact h1 p sk hk c e.1.1 e.1.2.1 e.1.2.2 e.2.1 e.2.2
  refine b k hk (tg_fwd (T := (· ≠ p)) (fun x y tx e => ?_) t kp)
  have yp : y ≠ p := fun z => by
    rw [z] at e
    exact h1 k sk hk x e.1.1 e.1.2.1 e.1.2.2 e.2.1 e.2.2
  exact ⟨yp, h2 x y tx yp e.1.1 e.1.2.1 e.1.2.2, e.2⟩
/-- two sets of which the first is not left to the second -/
theorem nb_two {S A B : Nat → Prop} {E : Nat → Nat → Prop} {pr : Nat → Nat} {a : Nat} (ha : NoBad A E pr a) (hb : NoBad B E pr a)
    (hs : ∀ x, S x → A x ∨ B x) (hn : ∀ k, pr k % 2 ≠ a → ∀ x y, S x → S y → A x → E x y → pr x ≤ pr k → pr y ≤ pr k → S k → A y) : NoBad S E pr a := fun k hk t => by
  have sk : S k := by obtain ⟨c, e⟩ := tg_last t; exact e.1.2.1
  by_cases kA : A k
  · refine ha k hk (tg_fwd (T := A) (fun x y ax e => ?_) t kA)
    have ay := hn k hk x y e.1.1 e.1.2.1 ax e.1.2.2 e.2.1 e.2.2 sk
    exact ⟨ay, ⟨ax, ay, e.1.2.2⟩, e.2⟩
  · refine hb k hk (tg_back (T := fun x => S x ∧ ¬ A x) (fun x y ty e => ?_) t ⟨sk, kA⟩)
    have ax : ¬ A x := fun ax => ty.2 (hn k hk x y e.1.1 e.1.2.1 ax e.1.2.2 e.2.1 e.2.2 sk)
    exact ⟨⟨e.1.1, ax⟩, ⟨(hs x e.1.1).resolve_left ax, (hs y ty.1).resolve_left ty.2, e.1.2.2⟩, e.2⟩
section
variable (g : G)
def MxAt (r : Nat → Nat) (l : Nat) : Prop := ∀ p, p < g.n → r p < l → (g.ow p = l % 2 → ∀ q ∈ g.mv p, r q ≠ l) ∧ (g.ow p ≠ l % 2 → (∃ q ∈ g.mv p, r q = l) → ∃ q ∈ g.mv p, r q < l)
def OpAt (r : Nat → Nat) (l : Nat) : Prop := (∃ p, p < g.n ∧ r p = l) → ∃ p, p < g.n ∧ r p = l ∧ ∃ q ∈ g.mv p, r q < l
/-- what the places of a level that is not their own know -/
def AAt (r : Nat → Nat) (ch : Nat → Int) (p : Nat) : Prop := (g.ow p = r p % 2 → ∃ q : Nat, ch p = (q : Int) ∧ q ∈ g.mv p ∧ r q = r p) ∧ (g.ow p ≠ r p % 2 → ∀ q ∈ g.mv p, r p ≤ r q)
def NBAt (r : Nat → Nat) (ch : Nat → Int) (l : Nat) : Prop := NoBad (fun p => p < g.n ∧ r p = l) (Cm g ch (l % 2)) g.pr (l % 2)
structure Inv (top : Nat) (r : Nat → Nat) (ch : Nat → Int) (L : Nat) : Prop where
  lv : ∀ p, p < g.n → g.pr p ≤ r p ∧ r p ≤ top
  low : ∀ p, p < g.n → r p < L → r p = g.pr p
  lowc : ∀ p, p < g.n → r p = g.pr p → ch p = -1
  cg : ∀ p, p < g.n → -1 ≤ ch p
  A : ∀ p, p < g.n → L ≤ r p → g.pr p < r p → AAt g r ch p
  NB : ∀ l, L ≤ l → NBAt g r ch l
  Mx : ∀ l, L < l → MxAt g r l
  Op : ∀ l, L < l → OpAt g r l
end
variable {g : G}
/-- natives alone have no bad cycle -/
theorem nb_nat {r : Nat → Nat} {ch : Nat → Int} {l : Nat} (h : ∀ p, p < g.n → r p = l → g.pr p = l) : NBAt g r ch l := fun k hk t => by
  obtain ⟨c, e⟩ := tg_last t
  exact hk (by rw [h k e.1.2.1.1 e.1.2.1.2])
theorem Inv.init (ok : g.Ok) {top : Nat} (h : ∀ p, p < g.n → g.pr p ≤ top) : Inv g top g.pr (fun _ => -1) top where
  lv := fun p hp => ⟨Nat.le_refl _, h p hp⟩
  low := fun _ _ _ => rfl
  lowc := fun _ _ _ => rfl
  cg := fun _ _ => by omega
  A := fun p _ _ h => absurd h (Nat.lt_irrefl _)
  NB := fun l _ => nb_nat fun _ _ h => h
  Mx := fun l hl p hp _ => ⟨fun _ q hq e => by have := h q (ok.rg p hp q hq); omega, fun _ ⟨q, hq, e⟩ => by have := h q (ok.rg p hp q hq); omega⟩
  Op := fun l hl ⟨p, hp, e⟩ => by have := h p hp; omega
def up (f : Nat → Nat) (p v : Nat) : Nat → Nat := fun q => if q = p then v else f q
def upC (f : Nat → Int) (p : Nat) (v : Int) : Nat → Int := fun q => if q = p then v else f q
theorem up_eq {f : Nat → Nat} {p v : Nat} : up f p v p = v := if_pos rfl
theorem up_ne {f : Nat → Nat} {p v q : Nat} (h : q ≠ p) : up f p v q = f q := if_neg h
theorem upC_eq {f : Nat → Int} {p : Nat} {v : Int} : upC f p v p = v := if_pos rfl
theorem upC_ne {f : Nat → Int} {p q : Nat} {v : Int} (h : q ≠ p) : upC f p v q = f q := if_neg h
/-- a lower place is added -/
theorem Inv.grow {top : Nat} {r : Nat → Nat} {ch ch' : Nat → Int} {L p : Nat} (I : Inv g top r ch L) (hp : p < g.n) (hL : L ≤ top) (hr : r p < L)
    (hc : ∀ x, x ≠ p → ch' x = ch x) (hg : -1 ≤ ch' p)
    (h : (g.ow p = L % 2 ∧ ∃ q : Nat, ch' p = (q : Int) ∧ q ∈ g.mv p ∧ r q = L) ∨ (g.ow p ≠ L % 2 ∧ ∀ q ∈ g.mv p, L ≤ r q)) : Inv g top (up r p L) ch' L := by
  have own := I.low p hp hr
  have r' : ∀ x, L < r x ∨ L < up r p L x → up r p L x = r x := fun x hx => by
    by_cases e : x = p
    · subst e; rw [up_eq] at hx; omega
    · exact up_ne e
  have ge : ∀ x, r x ≤ up r p L x := fun x => by
    by_cases e : x = p
    · rw [e, up_eq]; omega
    · rw [up_ne e]; exact Nat.le_refl _
  have lt : ∀ l, L < l → ∀ x, up r p L x < l ↔ r x < l := fun l hl x => by
    by_cases e : x = p
    · rw [e, up_eq]; omega
    · rw [up_ne e]
  have eq : ∀ l, L < l → ∀ x, up r p L x = l ↔ r x = l := fun l hl x => by
    by_cases e : x = p
    · rw [e, up_eq]; omega
    · rw [up_ne e]
  refine ⟨fun x hx => ?_, fun x hx hl => ?_, fun x hx he => ?_, fun x hx => ?_, fun x hx hl hn => ?_, fun l hl => ?_, fun l hl x hx hxl => ?_, fun l hl => ?_⟩
  · by_cases e : x = p
    · rw [e, up_eq]; omega
    · rw [up_ne e]; exact I.lv x hx
  · by_cases e : x = p
    · rw [e, up_eq] at hl; omega
    · rw [up_ne e] at hl ⊢; exact I.low x hx hl
  · by_cases e : x = p
    · rw [e, up_eq] at he; omega
    · rw [up_ne e] at he; rw [hc x e]; exact I.lowc x hx he
  · by_cases e : x = p
    · rw [e]; exact hg
    · rw [hc x e]; exact I.cg x hx
  · by_cases e : x = p
    · subst e
      unfold AAt
      rw [up_eq]
      rcases h with ⟨h1, q, h2, h3, h4⟩ | ⟨h1, h2⟩
      · refine ⟨fun _ => ⟨q, h2, h3, ?_⟩, fun z => absurd h1 z⟩
        by_cases e : q = x
        · rw [e, up_eq]
        · rw [up_ne e]; exact h4
      · exact ⟨fun z => absurd z h1, fun _ q hq => Nat.le_trans (h2 q hq) (ge q)⟩
    · rw [up_ne e] at hl hn
      obtain ⟨a1, a2⟩ := I.A x hx hl hn
      unfold AAt
      rw [up_ne e, hc x e]
      refine ⟨fun z => ?_, fun z q hq => Nat.le_trans (a2 z q hq) (ge q)⟩
      obtain ⟨q, q1, q2, q3⟩ := a1 z
      refine ⟨q, q1, q2, ?_⟩
      by_cases eq : q = p
      · rw [eq] at q3; omega
      · rw [up_ne eq]; exact q3
  · by_cases e : l = L
    · subst e
      refine nb_ext (p := p) (I.NB l (Nat.le_refl _)) (fun k sk hk x sx sp e lx lp => ?_) (fun x y xp yp sx sy e => ?_)
      · have sx2 := sx.2
        by_cases ex : x = p
        · subst ex
          rcases h with ⟨h1, q, h2, h3, h4⟩ | ⟨h1, h2⟩
          · have := e.2 h1
            rw [h2] at this
            have : q = x := by omega
            rw [this] at h4; omega
          · have := h2 x e.1; omega
        · rw [up_ne ex] at sx2
          by_cases hn : g.pr x < l
          · obtain ⟨a1, a2⟩ := I.A x sx.1 (by omega) (by omega)
            by_cases o : g.ow x = l % 2
            · obtain ⟨q, q1, q2, q3⟩ := a1 (by rw [sx2]; exact o)
              have := e.2 o
              rw [hc x ex, q1] at this
              have : q = p := by omega
              rw [this] at q3; omega
            · have := a2 (by rw [sx2]; exact o) p e.1
              omega
          · have := (I.lv x sx.1).1
            have kl : g.pr k ≤ l := by
              have h1 := (I.lv k sk.1).1
              have h2 := ge k
              rw [sk.2] at h2
              omega
            have : g.pr k = l := by omega
            exact hk (by rw [this])
      · have sx2 := sx.2
        have sy2 := sy.2
        rw [up_ne xp] at sx2
        rw [up_ne yp] at sy2
        exact ⟨⟨sx.1, sx2⟩, ⟨sy.1, sy2⟩, e.1, fun o => by have := e.2 o; rw [hc x xp] at this; exact this⟩
    · have hlt : L < l := by omega
      refine nb_mono (fun x y sx sy e k _ _ _ => ?_) (I.NB l hl)
      have sx2 := (eq l hlt x).mp sx.2
      have sy2 := (eq l hlt y).mp sy.2
      have xp : x ≠ p := fun z => by rw [z] at sx2; omega
      exact ⟨⟨sx.1, sx2⟩, ⟨sy.1, sy2⟩, e.1, fun o => by have := e.2 o; rw [hc x xp] at this; exact this⟩
  · rw [lt l hl] at hxl
    obtain ⟨m1, m2⟩ := I.Mx l hl x hx hxl
    exact ⟨fun z q hq y => m1 z q hq ((eq l hl q).mp y), fun z ⟨q, hq, y⟩ => by
      obtain ⟨q', h1, h2⟩ := m2 z ⟨q, hq, (eq l hl q).mp y⟩
      exact ⟨q', h1, (lt l hl q').mpr h2⟩⟩
  · rintro ⟨x, hx, y⟩
    obtain ⟨x', h1, h2, q, h3, h4⟩ := I.Op l hl ⟨x, hx, (eq l hl x).mp y⟩
    exact ⟨x', h1, (eq l hl x').mpr h2, q, h3, (lt l hl q).mpr h4⟩
/-- the least level among the moves -/
theorem least {f : Nat → Nat} : ∀ {l : List Nat}, l ≠ [] → ∃ q ∈ l, ∀ x ∈ l, f q ≤ f x
  | [a], _ => ⟨a, List.mem_singleton.mpr rfl, fun x hx => by rw [List.mem_singleton.mp hx]; exact Nat.le_refl _⟩
  | a :: b :: l, _ => by
    obtain ⟨q, h1, h2⟩ := least (f := f) (l := b :: l) (by simp)
    by_cases h : f a ≤ f q
    · exact ⟨a, List.mem_cons_self, fun x hx => by
        rcases List.mem_cons.mp hx with rfl | hx
        · exact Nat.le_refl _
        · have := h2 x hx; omega⟩
    · exact ⟨q, List.mem_cons_of_mem _ h1, fun x hx => by
        rcases List.mem_cons.mp hx with rfl | hx
        · omega
        · exact h2 x hx⟩
theorem exists_le (ok : g.Ok) {r : Nat → Nat} {L p : Nat} (M : ∀ l, L < l → MxAt g r l) (hp : p < g.n) (hr : r p ≤ L) : ∃ q ∈ g.mv p, r q ≤ L := by
  obtain ⟨q, h1, h2⟩ := least (f := r) (ok.ne p hp)
  refine ⟨q, h1, ?_⟩
  by_cases h : r q ≤ L
  · exact h
  · exfalso
    obtain ⟨m1, m2⟩ := M (r q) (by omega) p hp (by omega)
    by_cases o : g.ow p = r q % 2
    · exact m1 o q h1 rfl
    · obtain ⟨q', h3, h4⟩ := m2 o ⟨q, h1, rfl⟩
      have := h2 q' h3
      omega
/-- what the test says when a region is open -/
def Opn (g : G) (r : Nat → Nat) (L : Nat) : Prop := ∃ p, p < g.n ∧ r p = L ∧ ((g.ow p = L % 2 ∧ ∀ q ∈ g.mv p, r q ≠ L) ∨ (g.ow p ≠ L % 2 ∧ ∃ q ∈ g.mv p, r q < L))
theorem opn_at (ok : g.Ok) {r : Nat → Nat} {L : Nat} (M : ∀ l, L < l → MxAt g r l) (h : Opn g r L) : ∃ p, p < g.n ∧ r p = L ∧ ∃ q ∈ g.mv p, r q < L := by
  obtain ⟨p, hp, e, h | h⟩ := h
  · obtain ⟨q, h1, h2⟩ := exists_le ok M hp (Nat.le_of_eq e)
    have := h.2 q h1
    exact ⟨p, hp, e, q, h1, by omega⟩
  · exact ⟨p, hp, e, h.2⟩
theorem Inv.down (ok : g.Ok) {top : Nat} {r : Nat → Nat} {ch : Nat → Int} {L : Nat} (I : Inv g top r ch (L + 1)) (M : MxAt g r (L + 1)) (h : (∀ p, p < g.n → r p ≠ L + 1) ∨ Opn g r (L + 1)) : Inv g top r ch L := by
  have o : OpAt g r (L + 1) := fun ⟨p, hp, e⟩ => by
    rcases h with h | h
    · exact absurd e (h p hp)
    · exact opn_at ok I.Mx h
  refine ⟨I.lv, fun p hp hl => I.low p hp (by omega), I.lowc, I.cg, fun p hp hl hn => ?_, fun l hl => ?_, fun l hl => ?_, fun l hl => ?_⟩
  · by_cases e : r p = L
    · have := I.low p hp (by omega); omega
    · exact I.A p hp (by omega) hn
  · by_cases e : l = L
    · subst e
      exact nb_nat fun p hp hr => by rw [← I.low p hp (by omega)]; exact hr
    · exact I.NB l (by omega)
  · by_cases e : l = L + 1
    · rw [e]; exact M
    · exact I.Mx l (by omega)
  · by_cases e : l = L + 1
    · rw [e]; exact o
    · exact I.Op l (by omega)
/-- at level 0 there is a region, and it is not open -/
theorem Inv.zero (ok : g.Ok) {top : Nat} {r : Nat → Nat} {ch : Nat → Int} (I : Inv g top r ch 0) (hn : 0 < g.n) : (∃ p, p < g.n ∧ r p = 0) ∧ ¬ Opn g r 0 := by
  constructor
  · obtain ⟨p, hp, hm⟩ := least (f := r) (l := List.range g.n) (by intro z; have := congrArg List.length z; simp at this; omega)
    rw [List.mem_range] at hp
    refine ⟨p, hp, ?_⟩
    by_cases h : r p = 0
    · exact h
    · exfalso
      obtain ⟨p', h1, h2, q, h3, h4⟩ := I.Op (r p) (by omega) ⟨p, hp, rfl⟩
      have := hm q (List.mem_range.mpr (ok.rg p' h1 q h3))
      omega
  · intro h
    obtain ⟨p, _, _, q, _, h4⟩ := opn_at ok I.Mx h
    omega
/-- the choices are made where there was none -/
def Chosen (g : G) (r : Nat → Nat) (ch ch' : Nat → Int) (L : Nat) : Prop := (∀ p, p < g.n → (r p ≠ L ∨ g.pr p < r p) → ch' p = ch p) ∧ (∀ p, p < g.n → -1 ≤ ch' p) ∧ ∀ p, p < g.n → r p = L → g.ow p = L % 2 → ∃ q : Nat, ch' p = (q : Int) ∧ q ∈ g.mv p ∧ r q = L
theorem nb_chosen {top : Nat} {r : Nat → Nat} {ch ch' : Nat → Int} {L : Nat} (I : Inv g top r ch L) (c : Chosen g r ch ch' L) {l : Nat} (hl : L ≤ l) : NBAt g r ch' l := by
  by_cases e : l = L
  · subst e
    intro k hk t
    have sk : k < g.n ∧ r k = l := by obtain ⟨c, e⟩ := tg_last t; exact e.1.2.1
    have pk : g.pr k < l := by
      have := (I.lv k sk.1).1
      have : g.pr k ≠ l := fun z => hk (by rw [z])
      omega
    refine I.NB l (Nat.le_refl _) k hk (tg_mono (fun x y e => ⟨⟨e.1.1, e.1.2.1, e.1.2.2.1, fun o => ?_⟩, e.2⟩) t)
    have := e.1.2.2.2 o
    have lx := e.2.1
    have sx := e.1.1
    rw [c.1 x sx.1 (.inr (by have := sx.2; omega))] at this
    exact this
  · refine nb_mono (fun x y sx sy e k _ _ _ => ⟨sx, sy, e.1, fun o => ?_⟩) (I.NB l hl)
    have := e.2 o
    rw [c.1 x sx.1 (.inl (by have := sx.2; omega))] at this
    exact this
/-- a region goes up to a higher one; between, all is as at the beginning -/
theorem Inv.promote (ok : g.Ok) {top : Nat} {r r' : Nat → Nat} {ch ch' ch2 : Nat → Int} {L G : Nat} (I : Inv g top r ch L) (no : ¬ Opn g r L) (c : Chosen g r ch ch' L)
    (hG : L < G) (he : ∃ p, p < g.n ∧ r p = L ∧ g.ow p ≠ L % 2 ∧ ∃ q ∈ g.mv p, r q = G) (hm : ∀ p, p < g.n → r p = L → g.ow p ≠ L % 2 → ∀ q ∈ g.mv p, L < r q → G ≤ r q)
    (hr1 : ∀ p, p < g.n → r p = L → r' p = G) (hr2 : ∀ p, p < g.n → L < r p → r p < G → r' p = g.pr p) (hr3 : ∀ p, p < g.n → (r p < L ∨ G ≤ r p) → r' p = r p)
    (hc2 : ∀ p, p < g.n → L < r p → r p < G → ch2 p = -1) (hc3 : ∀ p, p < g.n → (r p ≤ L ∨ G ≤ r p) → ch2 p = ch' p) : Inv g top r' ch2 G := by
  have par : G % 2 = L % 2 := by
    obtain ⟨p, hp, e, o, q, hq, eq⟩ := he
    have o1 := ok.o2 p hp
    by_cases z : g.ow p = G % 2
    · exact absurd eq ((I.Mx G hG p hp (by omega)).1 z q hq)
    · omega
  have Gt : G ≤ top := by
    obtain ⟨p, hp, e, o, q, hq, eq⟩ := he
    have := (I.lv q (ok.rg p hp q hq)).2
    omega
  have lt : ∀ l, G < l → ∀ x, x < g.n → (r' x < l ↔ r x < l) := fun l hl x hx => by
    rcases Nat.lt_trichotomy (r x) L with h | h | h
    · rw [hr3 x hx (.inl h)]
    · rw [hr1 x hx h]; omega
    · by_cases h2 : r x < G
      · rw [hr2 x hx h h2]; have := (I.lv x hx).1; omega
      · rw [hr3 x hx (.inr (by omega))]
  have eqq : ∀ l, G < l → ∀ x, x < g.n → (r' x = l ↔ r x = l) := fun l hl x hx => by
    rcases Nat.lt_trichotomy (r x) L with h | h | h
    · rw [hr3 x hx (.inl h)]
    · rw [hr1 x hx h]; omega
    · by_cases h2 : r x < G
      · rw [hr2 x hx h h2]; have := (I.lv x hx).1; omega
      · rw [hr3 x hx (.inr (by omega))]
  have geG : ∀ x, x < g.n → G ≤ r x → r' x = r x := fun x hx h => hr3 x hx (.inr h)
  have inG : ∀ x, x < g.n → r' x = G → r x = L ∨ r x = G := fun x hx h => by
    rcases Nat.lt_trichotomy (r x) L with h1 | h1 | h1
    · rw [hr3 x hx (.inl h1)] at h; omega
    · exact .inl h1
    · by_cases h2 : r x < G
      · rw [hr2 x hx h1 h2] at h; have := (I.lv x hx).1; omega
      · rw [hr3 x hx (.inr (by omega))] at h; exact .inr h
  -- what the places of the region know that goes up
  have upA : ∀ x, x < g.n → r x = L → (g.ow x = L % 2 → ∃ q : Nat, ch' x = (q : Int) ∧ q ∈ g.mv x ∧ r q = L) ∧ (g.ow x ≠ L % 2 → ∀ q ∈ g.mv x, r q = L ∨ G ≤ r q) := fun x hx h => by
    refine ⟨fun o => c.2.2 x hx h o, fun o q hq => ?_⟩
    rcases Nat.lt_trichotomy (r q) L with h1 | h1 | h1
    · exact absurd ⟨x, hx, h, .inr ⟨o, q, hq, h1⟩⟩ no
    · exact .inl h1
    · exact .inr (hm x hx h o q hq h1)
  refine ⟨fun x hx => ?_, fun x hx hl => ?_, fun x hx he => ?_, fun x hx => ?_, fun x hx hl hn => ?_, fun l hl => ?_, fun l hl x hx hxl => ?_, fun l hl => ?_⟩
  · have := I.lv x hx
    rcases Nat.lt_trichotomy (r x) L with h | h | h
    · rw [hr3 x hx (.inl h)]; exact this
    · rw [hr1 x hx h]; omega
    · by_cases h2 : r x < G
      · rw [hr2 x hx h h2]; omega
      · rw [hr3 x hx (.inr (by omega))]; exact this
  · rcases Nat.lt_trichotomy (r x) L with h | h | h
    · rw [hr3 x hx (.inl h)]; exact I.low x hx h
    · rw [hr1 x hx h] at hl; omega
    · by_cases h2 : r x < G
      · exact hr2 x hx h h2
      · rw [hr3 x hx (.inr (by omega))] at hl; omega
  · have l1 := I.lv x hx
    rcases Nat.lt_trichotomy (r x) L with h | h | h
    · rw [hr3 x hx (.inl h)] at he; rw [hc3 x hx (.inl (by omega)), c.1 x hx (.inl (by omega))]; exact I.lowc x hx he
    · rw [hr1 x hx h] at he; omega
    · by_cases h2 : r x < G
      · exact hc2 x hx h h2
      · rw [hr3 x hx (.inr (by omega))] at he; rw [hc3 x hx (.inr (by omega)), c.1 x hx (.inl (by omega))]; exact I.lowc x hx he
  · rcases Nat.lt_trichotomy (r x) L with h | h | h
    · rw [hc3 x hx (.inl (by omega))]; exact c.2.1 x hx
    · rw [hc3 x hx (.inl (by omega))]; exact c.2.1 x hx
    · by_cases h2 : r x < G
      · rw [hc2 x hx h h2]; omega
      · rw [hc3 x hx (.inr (by omega))]; exact c.2.1 x hx
  · rcases Nat.lt_trichotomy (r x) L with h | h | h
    · rw [hr3 x hx (.inl h)] at hl; omega
    · obtain ⟨u1, u2⟩ := upA x hx h
      unfold AAt
      rw [hr1 x hx h, hc3 x hx (.inl (by omega)), par]
      refine ⟨fun o => ?_, fun o q hq => ?_⟩
      · obtain ⟨q, q1, q2, q3⟩ := u1 o
        exact ⟨q, q1, q2, hr1 q (ok.rg x hx q q2) q3⟩
      · have hqn := ok.rg x hx q hq
        rcases u2 o q hq with e | e
        · rw [hr1 q hqn e]; exact Nat.le_refl _
        · rw [geG q hqn e]; exact e
    · by_cases h2 : r x < G
      · rw [hr2 x hx h h2] at hl; have := (I.lv x hx).1; omega
      · have e := geG x hx (by omega)
        rw [e] at hn hl
        obtain ⟨a1, a2⟩ := I.A x hx (by omega) hn
        unfold AAt
        rw [e, hc3 x hx (.inr (by omega)), c.1 x hx (.inl (by omega))]
        refine ⟨fun o => ?_, fun o q hq => ?_⟩
        · obtain ⟨q, q1, q2, q3⟩ := a1 o
          exact ⟨q, q1, q2, by rw [geG q (ok.rg x hx q q2) (by omega)]; exact q3⟩
        · have := a2 o q hq
          rw [geG q (ok.rg x hx q hq) (by omega)]
          exact this
  · by_cases e : l = G
    · subst e
      have cmE : ∀ x, x < g.n → (r x = L ∨ r x = l) → ∀ y, Cm g ch2 (l % 2) x y → Cm g ch' (l % 2) x y := fun x hx h y e => ⟨e.1, fun o => by
        have := e.2 o
        rw [hc3 x hx (by rcases h with h | h <;> omega)] at this
        exact this⟩
      refine nb_two (A := fun p => p < g.n ∧ r p = l) (B := fun p => p < g.n ∧ r p = L) ?_ ?_ (fun x sx => ?_) (fun k hk x y sx sy ax e lx ly sk => ?_)
      · refine nb_mono (fun x y sx sy e k _ _ _ => ⟨sx, sy, e.1, fun o => ?_⟩) (nb_chosen I c (l := l) (by omega))
        exact (cmE x sx.1 (.inr sx.2) y e).2 o
      · have := nb_chosen I c (Nat.le_refl L)
        unfold NBAt at this
        rw [par]
        rw [par] at cmE
        refine nb_mono (fun x y sx sy e k _ _ _ => ⟨sx, sy, e.1, fun o => ?_⟩) this
        exact (cmE x sx.1 (.inl sx.2) y e).2 o
      · exact (inG x sx.1 sx.2).symm.imp (fun h => ⟨sx.1, h⟩) fun h => ⟨sx.1, h⟩
      · rcases inG y sy.1 sy.2 with h | h
        · exfalso
          have pk : g.pr k ≤ l := by
            have h1 := (I.lv k sk.1).1
            rcases inG k sk.1 sk.2 with h | h <;> omega
          have pn : g.pr k ≠ l := fun z => hk (by rw [z])
          have ax2 := ax.2
          obtain ⟨a1, a2⟩ := I.A x ax.1 (by omega) (by omega)
          have e' := cmE x ax.1 (.inr ax.2) y e
          by_cases o : g.ow x = l % 2
          · obtain ⟨q, q1, q2, q3⟩ := a1 (by rw [ax2]; exact o)
            have := e'.2 o
            rw [c.1 x ax.1 (.inl (by omega)), q1] at this
            have : q = y := by omega
            rw [this] at q3
            omega
          · have := a2 (by rw [ax2]; exact o) y e.1
            omega
        · exact ⟨sy.1, h⟩
    · have hGl : G < l := by omega
      refine nb_mono (fun x y sx sy e k _ _ _ => ?_) (I.NB l (by omega))
      have sx2 := (eqq l hGl x sx.1).mp sx.2
      have sy2 := (eqq l hGl y sy.1).mp sy.2
      exact ⟨⟨sx.1, sx2⟩, ⟨sy.1, sy2⟩, e.1, fun o => by
        have := e.2 o
        rw [hc3 x sx.1 (.inr (by omega)), c.1 x sx.1 (.inl (by omega))] at this
        exact this⟩
  · rw [lt l hl x hx] at hxl
    obtain ⟨m1, m2⟩ := I.Mx l (by omega) x hx hxl
    exact ⟨fun z q hq y => m1 z q hq ((eqq l hl q (ok.rg x hx q hq)).mp y), fun z ⟨q, hq, y⟩ => by
      obtain ⟨q', h1, h2⟩ := m2 z ⟨q, hq, (eqq l hl q (ok.rg x hx q hq)).mp y⟩
      exact ⟨q', h1, (lt l hl q' (ok.rg x hx q' h1)).mpr h2⟩⟩
  · rintro ⟨x, hx, y⟩
    obtain ⟨x', h1, h2, q, h3, h4⟩ := I.Op l (by omega) ⟨x, hx, (eqq l hl x hx).mp y⟩
    exact ⟨x', h1, (eqq l hl x' h1).mpr h2, q, h3, (lt l hl q (ok.rg x' h1 q h3)).mpr h4⟩
/-- what won_part gives: a player wins the set S without leaving it -/
structure Won (g : G) (S : Nat → Prop) (ch : Nat → Int) (a : Nat) : Prop where
  ne : ∃ p, p < g.n ∧ S p
  ow : ∀ p, p < g.n → S p → g.ow p = a → ∃ q : Nat, ch p = (q : Int) ∧ q ∈ g.mv p ∧ S q
  op : ∀ p, p < g.n → S p → g.ow p ≠ a → ∀ q ∈ g.mv p, S q
  nb : NoBad (fun p => p < g.n ∧ S p) (Cm g ch a) g.pr a
theorem Inv.won {top : Nat} {r : Nat → Nat} {ch ch' : Nat → Int} {L : Nat} (I : Inv g top r ch L) (no : ¬ Opn g r L) (ne : ∃ p, p < g.n ∧ r p = L) (c : Chosen g r ch ch' L)
    (hx : ∀ p, p < g.n → r p = L → g.ow p ≠ L % 2 → ∀ q ∈ g.mv p, r q ≤ L) : Won g (fun p => r p = L) ch' (L % 2) := by
  refine ⟨ne, fun p hp h o => c.2.2 p hp h o, fun p hp h o q hq => ?_, nb_chosen I c (Nat.le_refl L)⟩
  rcases Nat.lt_or_ge (r q) L with h1 | h1
  · exact absurd ⟨p, hp, h, .inr ⟨o, q, hq, h1⟩⟩ no
  · exact Nat.le_antisymm (hx p hp h o q hq) h1
/-! how far the search is from its end -/
def ms (n : Nat) (c : Nat → Nat) : Nat → Nat
  | 0 => 0
  | k + 1 => (n - c k) * (n + 1) ^ k + ms n c k
theorem ms_bd (n : Nat) (c : Nat → Nat) : ∀ k, ms n c k < (n + 1) ^ k
  | 0 => by simp [ms]
  | k + 1 => by
    have h := ms_bd n c k
    have h2 : (n - c k) * (n + 1) ^ k ≤ n * (n + 1) ^ k := Nat.mul_le_mul_right _ (Nat.sub_le _ _)
    show (n - c k) * (n + 1) ^ k + ms n c k < (n + 1) ^ (k + 1)
    rw [Nat.pow_succ, Nat.mul_add, Nat.mul_one, Nat.mul_comm ((n + 1) ^ k) n]
    omega
theorem ms_le (n : Nat) {c c' : Nat → Nat} : ∀ k, (∀ j, j < k → c j ≤ c' j) → ms n c' k ≤ ms n c k
  | 0, _ => Nat.le_refl _
  | k + 1, h => by
    have h1 := ms_le n k fun j hj => h j (by omega)
    have h2 : (n - c' k) * (n + 1) ^ k ≤ (n - c k) * (n + 1) ^ k := Nat.mul_le_mul_right _ (by have := h k (by omega); omega)
    show (n - c' k) * (n + 1) ^ k + ms n c' k ≤ (n - c k) * (n + 1) ^ k + ms n c k
    omega
theorem ms_lt (n : Nat) {c c' : Nat → Nat} {G : Nat} : ∀ k, G < k → (∀ j, G < j → j < k → c j = c' j) → c G < c' G → c' G ≤ n → ms n c' k < ms n c k
  | 0, h, _, _, _ => absurd h (Nat.not_lt_zero _)
  | k + 1, h, h1, h2, h3 => by
    show (n - c' k) * (n + 1) ^ k + ms n c' k < (n - c k) * (n + 1) ^ k + ms n c k
    by_cases e : G = k
    · subst e
      have hb := ms_bd n c' G
      have h4 : (n - c' G + 1) * (n + 1) ^ G ≤ (n - c G) * (n + 1) ^ G := Nat.mul_le_mul_right _ (by omega)
      rw [Nat.add_mul, Nat.one_mul] at h4
      omega
    · have := ms_lt n k (by omega) (fun j a b => h1 j a (by omega)) h2 h3
      rw [h1 k (by omega) (by omega)]
      omega
def cnt (n : Nat) (r : Nat → Nat) (k : Nat) : Nat := ((List.range n).filter fun p => decide (k ≤ r p)).length
theorem cnt_n (n : Nat) (r : Nat → Nat) (k : Nat) : cnt n r k ≤ n := by
  unfold cnt
  exact Nat.le_trans (List.length_filter_le _ _) (by rw [List.length_range]; exact Nat.le_refl _)
theorem flt_le {P Q : Nat → Bool} : ∀ {l : List Nat}, (∀ p ∈ l, P p = true → Q p = true) → (l.filter P).length ≤ (l.filter Q).length
  | [], _ => Nat.le_refl _
  | a :: l, h => by
    have ih := flt_le (l := l) fun p hp => h p (List.mem_cons_of_mem _ hp)
    have ha := h a List.mem_cons_self
    rw [List.filter_cons, List.filter_cons]
    cases e : P a with
    | false => cases e2 : Q a <;> simp <;> omega
    | true => rw [ha e]; simp; omega
theorem flt_lt {P Q : Nat → Bool} : ∀ {l : List Nat}, (∀ p ∈ l, P p = true → Q p = true) → (∃ p ∈ l, Q p = true ∧ P p = false) → (l.filter P).length < (l.filter Q).length
  | [], _, ⟨_, h, _⟩ => by cases h
  | a :: l, h, ⟨p, hp, h1, h2⟩ => by
    have hl := fun p hp => h p (List.mem_cons_of_mem a hp)
    rw [List.filter_cons, List.filter_cons]
    rcases List.mem_cons.mp hp with e | hp
    · subst e
      have := flt_le (l := l) hl
      rw [h1, h2]; simp; omega
    · have ih := flt_lt (l := l) hl ⟨p, hp, h1, h2⟩
      have ha := h a List.mem_cons_self
      cases e : P a with
      | false => cases e2 : Q a <;> simp <;> omega
      | true => rw [ha e]; simp; omega
theorem cnt_le {n : Nat} {r r' : Nat → Nat} (h : ∀ p, p < n → r p ≤ r' p) (k : Nat) : cnt n r k ≤ cnt n r' k := flt_le fun p hp e => by
  rw [List.mem_range] at hp
  have := h p hp
  have := of_decide_eq_true e
  exact decide_eq_true (by omega)
def mea (n top : Nat) (r : Nat → Nat) (L : Nat) : Nat := ms n (cnt n r) (top + 1) * (top + 2) + L
theorem mea_le {n top : Nat} {r r' : Nat → Nat} {L : Nat} (h : ∀ p, p < n → r p ≤ r' p) : mea n top r' L ≤ mea n top r L := by
  have := ms_le n (c := cnt n r) (c' := cnt n r') (top + 1) fun j _ => cnt_le h j
  have := Nat.mul_le_mul_right (top + 2) this
  unfold mea
  omega
theorem mea_down {n top : Nat} {r : Nat → Nat} {L : Nat} : mea n top r L < mea n top r (L + 1) := by unfold mea; omega
theorem mea_up {n top : Nat} {r r' : Nat → Nat} {L G : Nat} (hG : G ≤ top) (hL : L < G) (hp : ∃ p, p < n ∧ r p = L) (h1 : ∀ p, p < n → r p = L → r' p = G) (h2 : ∀ p, p < n → L < r p → r p < G → r' p < G) (h3 : ∀ p, p < n → (r p < L ∨ G ≤ r p) → r' p = r p) : mea n top r' G < mea n top r L := by
  have key : ms n (cnt n r') (top + 1) < ms n (cnt n r) (top + 1) := by
    refine ms_lt n (G := G) _ (by omega) (fun j hj _ => ?_) ?_ (cnt_n _ _ _)
    · unfold cnt
      congr 1
      refine List.filter_congr fun p hp => ?_
      rw [List.mem_range] at hp
      rcases Nat.lt_trichotomy (r p) L with h | h | h
      · rw [h3 p hp (.inl h)]
      · rw [h1 p hp h]; exact decide_eq_decide.mpr (by omega)
      · by_cases c : r p < G
        · have := h2 p hp h c; exact decide_eq_decide.mpr (by omega)
        · rw [h3 p hp (.inr (by omega))]
    · refine flt_lt (fun p hp e => ?_) ?_
      · rw [List.mem_range] at hp
        have e := of_decide_eq_true e
        rw [h3 p hp (.inr e)]
        exact decide_eq_true e
      · obtain ⟨p, hp, e⟩ := hp
        exact ⟨p, List.mem_range.mpr hp, by rw [h1 p hp e]; exact decide_eq_true (Nat.le_refl _), decide_eq_false (by omega)⟩
  unfold mea
  have := Nat.mul_le_mul_right (top + 2) (show ms n (cnt n r') (top + 1) + 1 ≤ _ from key)
  rw [Nat.add_mul, Nat.one_mul] at this
  omega
end Pm
/-- a field, within a comprehension's block -/
theorem pe_fldK {X : Cx} {K : PySem.W.Frag} {e : Expr} {f : Str} {pos : Pos} {ta : TE} (h : X.K = K) (he : PE X e ta) (hb : attributeBase e f X.env (eval e X.env) = eval e X.env) : PE X (.Attribute e f pos) (tFld K ta f) := by
  subst h
  exact pe_fld he hb
/-! set(xs), xs a list or a tuple of ints: its size is that of no list that holds them all -/
theorem setR_le {w : World} {h : Heap} {a : Addr} {S : Int → Bool} {n : Nat} (R : SetR w h a S n) {U : List Int} (hU : ∀ k, S k = true → k ∈ U) : n ≤ U.length := by
  obtain ⟨o, es, ep, t, _, _, _, _, nd, hS, _, _, hn, _⟩ := R
  have : (es.toList.map keyOf).length ≤ U.length := by
    have key : ∀ {l U : List Int}, l.Nodup → (∀ x ∈ l, x ∈ U) → l.length ≤ U.length := by
      intro l
      induction l with
      | nil => intro U _ _; exact Nat.zero_le _
      | cons x l ih =>
        intro U nd h
        rw [List.nodup_cons] at nd
        have hx := h x List.mem_cons_self
        have := ih (U := U.erase x) nd.2 fun y hy => (List.mem_erase_of_ne (fun z => nd.1 (by rw [← z]; exact hy))).mpr (h y (List.mem_cons_of_mem _ hy))
        rw [List.length_erase_of_mem hx] at this
        have := List.length_pos_of_mem hx
        rw [List.length_cons]
        omega
    exact key nd fun x hx => hU x ((hS x).mpr hx)
  rw [List.length_map, Array.length_toList, hn] at this
  exact this
def rSetA (K : PySem.W.Frag) (w : World) : List V → Hp → VK → Prop := fun xs H Q => ∃ (l : Addr) (ns : List Int), xs = [V.ref l] ∧ (SqL K H l (ns.map V.int) ∨ SqT K H l (ns.map V.int)) ∧ ns.length + 1 < scanBound ∧
  ∀ p c, H p = none → (∀ U : List Int, (∀ j ∈ ns, j ∈ U) → c ≤ U.length) → Q (.ref p) (upd H p (SetO w p (fun j => decide (j ∈ ns)) c))
theorem cr_setA {X : Cx} {K : PySem.W.Frag} {w : World} (h : X.K = K) (hw : X.w = w) (hc : X.calm = true) : CallR X (.type "set") (rSetA K w) := by
  subst h
  subst hw
  intro pins s σ H xs us Q I r h
  obtain ⟨l, ns, rfl, hl, hb, q⟩ := h
  rw [Vals.ref1 r]
  rcases hl with hl | hl
  · obtain ⟨its, rv, pl, hz⟩ := I.list hl
    refine Tz.set_of_list (P := X.prog) (w := X.w) ns (I.ok.hd hc) pl.isList rv.ints hb fun s2 hf => ?_
    obtain ⟨h', tk, c, rfl, R, hcl, hk⟩ := hf
    exact ⟨.ref _, upd H s.heap.objs.size (SetO X.w s.heap.objs.size (fun j => decide (j ∈ ns)) c), I.laid (t' := tk) hk (Nat.le_refl _) (setO_new R), rfl, q _ c (I.hok.fresh (Nat.le_refl _)) fun U hU => setR_le R fun k hk => hU k (of_decide_eq_true hk)⟩
  · obtain ⟨its, rv, pl, hz⟩ := I.tuple hl
    refine call_set_tupI (P := X.prog) (w := X.w) ns (I.ok.hd hc) pl rv.ints hb fun h' tk c R hcl hk => ?_
    exact ⟨.ref _, upd H s.heap.objs.size (SetO X.w s.heap.objs.size (fun j => decide (j ∈ ns)) c), I.laid (t' := tk) hk (Nat.le_refl _) (setO_new R), rfl, q _ c (I.hok.fresh (Nat.le_refl _)) fun U hU => setR_le R fun k hk => hU k (of_decide_eq_true hk)⟩
def dG (d : Gd) (own : List Nat) : Pm.G := ⟨d.mv.length, fun p => d.ow.getD p 0, fun p => own.getD p 0, fun p => Gr.row d.mv p⟩
theorem dG_ok {d : Gd} {own : List Nat} (h : d.Ok) : (dG d own).Ok := ⟨h.ne, fun p _ q hq => h.rg p q hq, fun p hp => by
  show d.ow.getD p 0 < 2
  have hp : p < d.mv.length := hp
  rw [List.getD_eq_getElem?_getD, List.getElem?_eq_getElem (by rw [h.lo]; exact hp)]
  exact h.o2 _ (List.getElem_mem _)⟩
def RSt.f (s : RSt) : Nat → Nat := fun p => s.r.getD p 0
def RSt.c (s : RSt) : Nat → Int := fun p => s.ch.getD p (-1)
structure WF (d : Gd) (own : List Nat) (T : Nat) (s : RSt) : Prop where
  ok : d.Ok
  lo : own.length = d.mv.length
  lr : s.r.length = d.mv.length
  lc : s.ch.length = d.mv.length
  lj : s.jo.length = T
  t1 : 1 ≤ T
  t2 : T ≤ 1001
  ot : ∀ p, p < d.mv.length → own.getD p 0 < T
  jd : ∀ l, l < T → (s.jo.getD l []).Nodup
  jm : ∀ l, l < T → ∀ p, p ∈ s.jo.getD l [] ↔ p < d.mv.length ∧ s.f p = l ∧ own.getD p 0 < l
def memS (own : List Nat) (T : Nat) (s : RSt) (l : Nat) : List Nat := (Gr.row (natL own T) l ++ s.jo.getD l []).filter fun p => decide (s.f p = l)
section
variable {d : Gd} {own : List Nat} {T : Nat} {s : RSt}
theorem getD_n {l : List Nat} {p : Nat} (h : p < l.length) : l[p]? = some (l.getD p 0) := by rw [List.getD_eq_getElem?_getD, List.getElem?_eq_getElem h]; rfl
theorem getD_i {l : List Int} {p : Nat} (h : p < l.length) : l[p]? = some (l.getD p (-1)) := by rw [List.getD_eq_getElem?_getD, List.getElem?_eq_getElem h]; rfl
theorem WF.at (h : WF d own T s) {p : Nat} (hp : p < d.mv.length) : s.r[p]? = some (s.f p) := getD_n (by rw [h.lr]; exact hp)
theorem WF.ca (h : WF d own T s) {p : Nat} (hp : p < d.mv.length) : s.ch[p]? = some (s.c p) := getD_i (by rw [h.lc]; exact hp)
theorem WF.nat_mem (h : WF d own T s) {l : Nat} (hl : l < T) {p : Nat} : p ∈ Gr.row (natL own T) l ↔ p < d.mv.length ∧ own.getD p 0 = l := by
  rw [natL_row hl, List.mem_filter, List.mem_range, h.lo, decide_eq_true_iff]
theorem WF.mem (h : WF d own T s) (hl : ∀ p, p < d.mv.length → own.getD p 0 ≤ s.f p) {l : Nat} (hlT : l < T) {p : Nat} : p ∈ memS own T s l ↔ p < d.mv.length ∧ s.f p = l := by
  unfold memS
  rw [List.mem_filter, decide_eq_true_iff, List.mem_append, h.nat_mem hlT, h.jm l hlT]
  constructor
  · rintro ⟨a | a, b⟩
    · exact ⟨a.1, b⟩
    · exact ⟨a.1, b⟩
  · rintro ⟨a, b⟩
    refine ⟨?_, b⟩
    have := hl p a
    by_cases e : own.getD p 0 = l
    · exact .inl ⟨a, e⟩
    · exact .inr ⟨a, b, by omega⟩
theorem WF.mem_nd (h : WF d own T s) {l : Nat} (hlT : l < T) : (memS own T s l).Nodup := by
  refine List.Nodup.sublist List.filter_sublist (List.nodup_append.mpr ⟨?_, h.jd l hlT, fun a ha b hb e => ?_⟩)
  · rw [natL_row hlT]
    exact List.nodup_range.sublist List.filter_sublist
  · subst e
    have h1 := ((h.nat_mem hlT).mp ha).2
    have h2 := ((h.jm l hlT a).mp hb).2.2
    omega
theorem WF.mem_len (h : WF d own T s) {l : Nat} (hlT : l < T) : (memS own T s l).length ≤ d.mv.length := nd_len (h.mem_nd hlT) fun p hp => by
  unfold memS at hp
  rcases List.mem_append.mp (List.mem_filter.mp hp).1 with a | a
  · exact ((h.nat_mem hlT).mp a).1
  · exact ((h.jm l hlT p).mp a).1
theorem WF.row_len (h : WF d own T s) (p : Nat) : (Gr.row d.mv p).length ≤ d.mv.length := nd_len (h.ok.nd p) (h.ok.rg p)
end
/-- what a method is told of the regions -/
def RgS (CR CG : Addr) (H : Hp) (x : Addr) (A : RA) (d : Gd) (own : List Nat) (T : Nat) (jas : List Addr) (s : RSt) : Prop := RgAt CR CG H x A d own T jas s ∧ WF d own T s
def spMem (CR CG : Addr) : Sp := fun vs H Q _ => ∃ (x : Addr) (A : RA) (d : Gd) (own : List Nat) (T : Nat) (jas : List Addr) (s : RSt) (l : Nat), vs = [.ref x, VN l] ∧ RgAt CR CG H x A d own T jas s ∧ WF d own T s ∧ l < T ∧
  ∀ (H' : Hp) (p : Addr), Same H H' → H p = none → H' p = some (.lst ((memS own T s l).map VN)) → Q (.ref p) H'
theorem ok_mem {CR CG f : Addr} {fd : FuncData} (T0 : Txt K mg) (PR : RegC K CR) (F : L2.Fun K "members" "Regions.members" s_Regions_members f fd) : FnOk P w K mg base CX0 1 f fd ["self", "level"] (spMem CR CG) := by
  refine F.ok sc_Regions_members (fun vs H Q E h => ?_) (fun cdv A' outer s' H vs Q E hr h => ?_)
  · obtain ⟨_, _, _, _, _, _, _, _, rfl, _⟩ := h
    rfl
  · obtain ⟨x, A, d, own, T, jas, s, l, rfl, R, W, hl, q⟩ := h
    refine ⟨_, (pss_one
      (ps_ret (pe_lc (own := [("position", 2)]) (g := gName 2) rfl sc_Regions_members.nd (pi_list (pe_op op_cat (pe_ix (ix_listK (K := K) rfl) (pe_fld (pv 0) rfl) (pv 1) (fun _ _ => rfl)) (pe_ix (ix_listK (K := K) rfl) (pe_fld (pv 0) rfl) (pv 1) (fun _ _ => rfl)))) (blkOk_by (N := N_Regions_members) (sc := defScope s_Regions_members) (by decide +kernel)) (fun _ _ _ _ _ => (pg_name (i := 2) sc_Regions_members.nd rfl (Or.inl rfl))) (fun _ _ _ _ _ => (pts_one (pt_cmpR op_eq (pe_ix (ix_listK (K := K) rfl) (pe_fldK (K := K) rfl (pv 0) rfl) (pv 2) (fun _ _ => rfl)) (pv 1) (nomark _)))) (fun _ _ _ _ _ => (pv 2))))), ?_⟩
    have I := R.i
    obtain ⟨nas, en, enl, enr⟩ := I.nt
    rw [natL_len] at enl
    obtain ⟨na, hna⟩ : ∃ a, nas[l]? = some a := ⟨_, List.getElem?_eq_getElem (by omega)⟩
    have hjl := R.jl
    rw [W.lj] at hjl
    obtain ⟨ja, hja⟩ : ∃ a, jas[l]? = some a := ⟨_, List.getElem?_eq_getElem (by omega)⟩
    have e1 := enr l na hna
    have e2 := R.jr l ja hja
    have hn2 := W.ok.n2
    have hml := W.mem_len hl
    have hnl : (Gr.row (natL own T) l).length ≤ d.mv.length := by
      rw [natL_row hl]
      exact Nat.le_trans (List.length_filter_le _ _) (by rw [List.length_range, W.lo]; exact Nat.le_refl _)
    have hjl2 : (s.jo.getD l []).length ≤ d.mv.length := nd_len (W.jd l hl) fun p hp => ((W.jm l hl p).mp hp).1
    have hlt : ∀ p ∈ Gr.row (natL own T) l ++ s.jo.getD l [], p < d.mv.length := fun p hp => by
      rcases List.mem_append.mp hp with a | a
      · exact ((W.nat_mem hl).mp a).1
      · exact ((W.jm l hl p).mp a).1
    refine ⟨_, rfl, x, CR, A.dx, _, _, rfl, I.ins, PR.cl, PR.nn, rgf_n _ _ _ _ _ _ _, _, rfl, A.nA, _, _, .ref na, rfl, rfl, .of en, atN hna, _, rfl, x, CR, A.dx, _, _, rfl, I.ins, PR.cl, PR.nj, rgf_j _ _ _ _ _ _ _, _, rfl, A.jA, _, _, .ref ja, rfl, rfl, .of R.jn, atN hja, na, ja, _, _, rfl, rfl, e1, e2, by rw [List.length_map, List.length_map]; exact Nat.le_trans (show _ ≤ 2000 by omega) (by decide), fun p np => ?_⟩
    rw [← List.map_append]
    generalize hX : upd H p _ = H1; obtain ⟨sH1, ep⟩ := nw np hX; clear hX
    unfold memS at q hml
    generalize Gr.row (natL own T) l ++ s.jo.getD l [] = us at ep hlt hml q ⊢
    refine ⟨p, rfl, ⟨_, .of ep⟩, fun D nD => lc_list (K := K) (a := p) (xs := us.map VN) (fun i H' => Same H1 H' ∧ H' D = some (.lst (((us.take i).filter fun p => decide (s.f p = l)).map VN))) ⟨same_new nD, upd_same⟩ (fun i H' _ z => .of (z.1 _ _ ep)) ?_ ?_⟩
    · rintro i v H2 hi ⟨s2, e2'⟩
      obtain ⟨u, hu, rfl⟩ := nats_get hi
      have hun := hlt u (List.mem_of_getElem? hu)
      have s02 := sH1.trans s2
      refine ⟨rfl, _, rfl, x, CR, A.dx, _, _, rfl, s02 _ _ I.ins, PR.cl, PR.nl, rgf_l _ _ _ _ _ _ _, _, rfl, A.lA, _, _, VN (s.f u), rfl, rfl, .of (s02 _ _ R.lev), atN (W.at hun), _, rfl, rfl, _, rfl, ?_⟩
      rw [take_succ' hu, List.filter_append]
      by_cases c : s.f u = l
      · refine iteB_t (by rw [c]; exact decide_eq_true rfl) ⟨_, rfl, _, e2', ?_, fun b o hb => by rw [upd_ne (ne_of_none hb nD)]; exact s2 _ _ hb, ?_⟩
        · rw [List.length_map]
          have h1 := List.length_filter_le (fun p => decide (s.f p = l)) (us.take i)
          have h2 : ((us.take i).filter fun p => decide (s.f p = l)).length ≤ (us.filter fun p => decide (s.f p = l)).length := (List.Sublist.filter _ (List.take_sublist i us)).length_le
          exact Nat.lt_of_le_of_lt (show _ ≤ 1000 by omega) (by decide)
        · rw [upd_same, List.filter_cons_of_pos (by simpa using c), List.filter_nil, List.map_append]
          rfl
      · refine iteB_f (decide_eq_false fun z => c (by have := V.int.inj z; omega)) ⟨s2, ?_⟩
        rw [List.filter_cons_of_neg (by simpa using c), List.filter_nil, List.append_nil]
        exact e2'
    rintro H2 ⟨s2, e2'⟩
    rw [List.length_map, List.take_length] at e2'
    exact q H2 D (sH1.trans s2) (sH1.free nD) e2'
/-- the number of moves that do not lead higher -/
def lowC (d : Gd) (s : RSt) (p l : Nat) : Nat := ((Gr.row d.mv p).filter fun q => decide (s.f q ≤ l)).length
def spLow (CR CG : Addr) : Sp := fun vs H Q _ => ∃ (x : Addr) (A : RA) (d : Gd) (own : List Nat) (T : Nat) (jas : List Addr) (s : RSt) (p l : Nat), vs = [.ref x, VN p, VN l] ∧ RgAt CR CG H x A d own T jas s ∧ WF d own T s ∧ p < d.mv.length ∧ ∀ H', Same H H' → Q (VN (lowC d s p l)) H'
theorem ok_low {CR CG f : Addr} {fd : FuncData} (T : Txt K mg) (PR : RegC K CR) (PC : GmeC K CG) (F : L2.Fun K "lower_moves" "Regions.lower_moves" s_Regions_lower_moves f fd) : FnOk P w K mg base CX0 1 f fd ["self", "position", "level"] (spLow CR CG) := by
  refine F.ok sc_Regions_lower_moves (fun vs H Q E h => ?_) (fun cdv A' outer s' H vs Q E hr h => ?_)
  · obtain ⟨_, _, _, _, _, _, _, _, _, rfl, _⟩ := h
    rfl
  · obtain ⟨x, A, d, own, TN, jas, s, p, l, rfl, R, W, hp, q⟩ := h
    refine ⟨_, (pss_one
      (ps_ret (pe_callB (call_lenK (K := K) rfl) (by rfl) T.z_len PySem.boot_len (pa_cons (pe_lc (own := [("target", 3)]) (g := gName 3) rfl sc_Regions_lower_moves.nd (pi_tup (pe_ix (ix_tupK (K := K) rfl) (pe_fld (pe_fld (pv 0) rfl) rfl) (pv 1) (fun _ _ => rfl))) (blkOk_by (N := N_Regions_lower_moves) (sc := defScope s_Regions_lower_moves) (by decide +kernel)) (fun _ _ _ _ _ => (pg_name (i := 3) sc_Regions_lower_moves.nd rfl (Or.inl rfl))) (fun _ _ _ _ _ => (pts_one (pt_cmpR op_le (pe_ix (ix_listK (K := K) rfl) (pe_fldK (K := K) rfl (pv 0) rfl) (pv 3) (fun _ _ => rfl)) (pv 2) (nomark _)))) (fun _ _ _ _ _ => (pv 3))) pa_nil)))), ?_⟩
    have I := R.i
    obtain ⟨gx, ot, pt, rt, g1, g2, g3, as, g4, g5, g6⟩ := I.gm
    obtain ⟨a, ha⟩ : ∃ a, as[p]? = some a := ⟨_, List.getElem?_eq_getElem (by omega)⟩
    have ea := g6 p a ha
    have hn2 := W.ok.n2
    have hrl := W.row_len p
    refine ⟨_, rfl, x, CR, A.dx, _, _, rfl, I.ins, PR.cl, PR.ng, rgf_g _ _ _ _ _ _ _, A.gA, CG, gx, _, _, rfl, g1, PC.cl, PC.nm, gf_m _ _ _, _, rfl, rt, _, _, .ref a, rfl, rfl, .of g4, atN ha, a, rfl, ⟨_, .of ea⟩, fun D nD => lc_tup (K := K) (a := a) (xs := (Gr.row d.mv p).map VN) (fun i H' => Same H H' ∧ H' D = some (.lst ((((Gr.row d.mv p).take i).filter fun q => decide (s.f q ≤ l)).map VN))) ⟨same_new nD, upd_same⟩ (fun i H' _ z => .of (z.1 _ _ ea)) ?_ ?_⟩
    · rintro i v H2 hi ⟨s2, e2⟩
      obtain ⟨u, hu, rfl⟩ := nats_get hi
      have hun := W.ok.rg p u (List.mem_of_getElem? hu)
      refine ⟨rfl, _, rfl, x, CR, A.dx, _, _, rfl, s2 _ _ I.ins, PR.cl, PR.nl, rgf_l _ _ _ _ _ _ _, _, rfl, A.lA, _, _, VN (s.f u), rfl, rfl, .of (s2 _ _ R.lev), atN (W.at hun), _, rfl, _, _, rfl, rfl, _, rfl, ?_⟩
      rw [take_succ' hu, List.filter_append]
      by_cases c : s.f u ≤ l
      · refine iteB_t (decide_eq_true (Int.ofNat_le.mpr c)) ⟨_, rfl, _, e2, ?_, fun b o hb => by rw [upd_ne (ne_of_none hb nD)]; exact s2 _ _ hb, ?_⟩
        · rw [List.length_map]
          have h1 := List.length_filter_le (fun q => decide (s.f q ≤ l)) ((Gr.row d.mv p).take i)
          rw [List.length_take] at h1
          exact Nat.lt_of_le_of_lt (show _ ≤ 1000 by omega) (by decide)
        · rw [upd_same, List.filter_cons_of_pos (by simpa using c), List.filter_nil, List.map_append]
          rfl
      · refine iteB_f (decide_eq_false fun z => c (Int.ofNat_le.mp z)) ⟨s2, ?_⟩
        rw [List.filter_cons_of_neg (by simpa using c), List.filter_nil, List.append_nil]
        exact e2
    rintro H2 ⟨s2, e2⟩
    rw [List.length_map, List.take_length] at e2
    refine ⟨D, _, rfl, .inl (.of e2), ?_⟩
    rw [List.length_map]
    exact q H2 s2
section
variable {d : Gd} {own : List Nat} {TN : Nat} {s s' : RSt} {l : Nat}
theorem getD_set {l : List Nat} {i v j : Nat} (h : i < l.length) : (l.set i v).getD j 0 = if j = i then v else l.getD j 0 := by
  simp only [List.getD_eq_getElem?_getD, List.getElem?_set]
  by_cases e : i = j
  · subst e; simp [h]
  · rw [if_neg e, if_neg (Ne.symm e)]
theorem getD_setI {l : List Int} {i j : Nat} {v : Int} (h : i < l.length) : (l.set i v).getD j (-1) = if j = i then v else l.getD j (-1) := by
  simp only [List.getD_eq_getElem?_getD, List.getElem?_set]
  by_cases e : i = j
  · subst e; simp [h]
  · rw [if_neg e, if_neg (Ne.symm e)]
theorem getD_setL {l : List (List Nat)} {i j : Nat} {v : List Nat} (h : i < l.length) : (l.set i v).getD j [] = if j = i then v else l.getD j [] := by
  simp only [List.getD_eq_getElem?_getD, List.getElem?_set]
  by_cases e : i = j
  · subst e; simp [h]
  · rw [if_neg e, if_neg (Ne.symm e)]
theorem f_set {r : List Nat} {ch : List Int} {jo : List (List Nat)} {z v : Nat} (h : z < r.length) : (RSt.mk (r.set z v) ch jo).f = Pm.up (RSt.mk r ch jo).f z v := by
  funext p
  show (r.set z v).getD p 0 = _
  rw [getD_set h]
  rfl
/-- a place joins the region -/
def joinS (s : RSt) (ch : List Int) (z l : Nat) : RSt := ⟨s.r.set z l, ch, s.jo.set l (s.jo.getD l [] ++ [z])⟩
theorem join_f (h : z < s.r.length) (ch : List Int) : (joinS s ch z l).f = Pm.up s.f z l := f_set (ch := ch) (jo := s.jo) h
theorem join_ok {ch : List Int} {z : Nat} (W : WF d own TN s) (I : Pm.Inv (dG d own) (TN - 1) s.f s.c l) (hl : l < TN) (hz : z < d.mv.length) (hr : s.f z < l) (hc1 : ch.length = d.mv.length) (hc2 : ∀ x, x ≠ z → ch.getD x (-1) = s.c x) (hc3 : -1 ≤ ch.getD z (-1))
    (h : (d.ow.getD z 0 = l % 2 ∧ ∃ q : Nat, ch.getD z (-1) = (q : Int) ∧ q ∈ Gr.row d.mv z ∧ s.f q = l) ∨ (d.ow.getD z 0 ≠ l % 2 ∧ ∀ q ∈ Gr.row d.mv z, l ≤ s.f q)) :
    WF d own TN (joinS s ch z l) ∧ Pm.Inv (dG d own) (TN - 1) (joinS s ch z l).f (joinS s ch z l).c l := by
  have hzr : z < s.r.length := by rw [W.lr]; exact hz
  have ef : (joinS s ch z l).f = Pm.up s.f z l := join_f hzr ch
  have hlo := I.low z hz hr
  have hlo : s.f z = own.getD z 0 := hlo
  have hjl : l < s.jo.length := by rw [W.lj]; exact hl
  refine ⟨⟨W.ok, W.lo, by show (s.r.set z l).length = _; rw [List.length_set]; exact W.lr, hc1, by show (s.jo.set l _).length = _; rw [List.length_set]; exact W.lj, W.t1, W.t2, W.ot, fun l' hl' => ?_, fun l' hl' p => ?_⟩, ?_⟩
  · show ((s.jo.set l _).getD l' []).Nodup
    rw [getD_setL hjl]
    split
    · refine List.nodup_append.mpr ⟨W.jd l hl, by simp, fun a ha b hb e => ?_⟩
      rw [List.mem_singleton.mp hb] at e
      subst e
      have := ((W.jm l hl a).mp ha).2.1
      omega
    · exact W.jd l' hl'
  · show p ∈ (s.jo.set l _).getD l' [] ↔ _
    rw [getD_setL hjl, ef]
    by_cases e : l' = l
    · subst e
      rw [if_pos rfl, List.mem_append, List.mem_singleton, W.jm l' hl]
      by_cases c : p = z
      · subst c
        rw [Pm.up_eq]
        exact ⟨fun _ => ⟨hz, rfl, by omega⟩, fun _ => .inr rfl⟩
      · rw [Pm.up_ne c]
        exact ⟨fun h => h.resolve_right c, .inl⟩
    · rw [if_neg e, W.jm l' hl']
      by_cases c : p = z
      · subst c
        rw [Pm.up_eq]
        exact ⟨fun h => by omega, fun h => absurd h.2.1.symm e⟩
      · rw [Pm.up_ne c]
  · rw [ef]
    refine I.grow hz (by show l ≤ TN - 1; omega) hr (ch' := (joinS s ch z l).c) (fun x hx => hc2 x hx) hc3 ?_
    exact h
def c2 (d : Gd) (D : List Nat) (z : Nat) : Nat := ((Gr.row d.mv z).filter fun q => decide (q ∈ D)).length
theorem c2_skip {D : List Nat} {t z : Nat} (h : t ∉ Gr.row d.mv z) : c2 d (D ++ [t]) z = c2 d D z := by
  unfold c2
  congr 1
  refine List.filter_congr fun q hq => ?_
  have : q ≠ t := fun e => h (e ▸ hq)
  simp [this]
theorem flt_one {l : List Nat} {D : List Nat} {t : Nat} (nd : l.Nodup) (ht : t ∈ l) (hD : t ∉ D) : (l.filter fun q => decide (q ∈ D ++ [t])).length = (l.filter fun q => decide (q ∈ D)).length + 1 := by
  induction l with
  | nil => cases ht
  | cons a l ih =>
    rw [List.nodup_cons] at nd
    rw [List.filter_cons, List.filter_cons]
    by_cases e : a = t
    · subst e
      have e2 : (l.filter fun q => decide (q ∈ D ++ [a])) = l.filter fun q => decide (q ∈ D) := by
        refine List.filter_congr fun q hq => ?_
        have : q ≠ a := fun z => nd.1 (z ▸ hq)
        simp [this]
      rw [if_pos (by simp), if_neg (by simpa using hD), e2]
      rfl
    · have ih := ih nd.2 ((List.mem_cons.mp ht).resolve_left (Ne.symm e))
      by_cases c : a ∈ D
      · rw [if_pos (by simp [c]), if_pos (by simpa using c), List.length_cons, List.length_cons, ih]
      · rw [if_neg (by simp [c, e]), if_neg (by simpa using c), ih]
theorem c2_one {D : List Nat} {t z : Nat} (ok : d.Ok) (h : t ∈ Gr.row d.mv z) (hD : t ∉ D) : c2 d (D ++ [t]) z = c2 d D z + 1 := flt_one (ok.nd z) h hD
/-- what is noted of a lower place when the moves into D have been looked at -/
def RelS (d : Gd) (s : RSt) (l : Nat) (kvs : List (L2.Key × V)) (z : Nat) (D : List Nat) : Prop :=
  (d.ow.getD z 0 = l % 2 → ∀ q ∈ Gr.row d.mv z, q ∉ D) ∧ (d.ow.getD z 0 ≠ l % 2 → valV kvs (Sum.inl (z : Int) : L2.Key) = (if c2 d D z = 0 then none else some (VN (lowC d s z l - c2 d D z))) ∧ (c2 d D z ≠ 0 → c2 d D z < lowC d s z l))
theorem relS_skip {kvs : List (L2.Key × V)} {z t : Nat} {D : List Nat} (h : t ∉ Gr.row d.mv z) (r : RelS d s l kvs z D) : RelS d s l kvs z (D ++ [t]) := by
  unfold RelS
  rw [c2_skip h]
  refine ⟨fun o q hq hm => ?_, r.2⟩
  rcases List.mem_append.mp hm with m | m
  · exact r.1 o q hq m
  · rw [List.mem_singleton.mp m] at hq; exact h hq
theorem lowC_cong {z : Nat} (h : ∀ q ∈ Gr.row d.mv z, s'.f q ≤ l ↔ s.f q ≤ l) : lowC d s' z l = lowC d s z l := by
  unfold lowC
  congr 1
  exact List.filter_congr fun q hq => decide_eq_decide.mpr (h q hq)
theorem relS_cong {kvs kvs' : List (L2.Key × V)} {z : Nat} {D : List Nat} (h : ∀ q, s'.f q ≤ l ↔ s.f q ≤ l) (hk : valV kvs' (Sum.inl (z : Int) : L2.Key) = valV kvs (Sum.inl (z : Int) : L2.Key)) (r : RelS d s l kvs z D) : RelS d s' l kvs' z D := by
  unfold RelS at r ⊢
  rw [hk, lowC_cong fun q _ => h q]
  exact r
def kc (n : Nat) (kvs : List (L2.Key × V)) : Nat := ((List.range n).filter fun z : Nat => (valV kvs (Sum.inl (z : Int) : L2.Key)).isSome).length
theorem kc_n (n : Nat) (kvs : List (L2.Key × V)) : kc n kvs ≤ n := by
  unfold kc
  exact Nat.le_trans (List.length_filter_le _ _) (by rw [List.length_range]; exact Nat.le_refl _)
theorem kl_put {n z : Nat} {kvs : List (L2.Key × V)} {v : V} (hz : z < n) (h : kvs.length ≤ kc n kvs) : (putK kvs (Sum.inl (z : Int) : L2.Key) v).length ≤ kc n (putK kvs (Sum.inl (z : Int) : L2.Key) v) := by
  have up : ∀ p ∈ List.range n, (valV kvs (Sum.inl (p : Int) : L2.Key)).isSome = true → (valV (putK kvs (Sum.inl (z : Int) : L2.Key) v) (Sum.inl (p : Int) : L2.Key)).isSome = true := fun p _ e => by
    rw [valV_put]
    split
    · rfl
    · exact e
  cases e : valV kvs (Sum.inl (z : Int) : L2.Key) with
  | none =>
    have h1 := length_putK kvs (Sum.inl (z : Int) : L2.Key) v
    have h2 : kc n kvs < kc n (putK kvs (Sum.inl (z : Int) : L2.Key) v) := Pm.flt_lt up ⟨z, List.mem_range.mpr hz, by rw [valV_put, if_pos rfl]; rfl, by rw [e]; rfl⟩
    omega
  | some w =>
    have h1 : (putK kvs (Sum.inl (z : Int) : L2.Key) v).length = kvs.length := by
      unfold putK
      rw [if_pos (by rw [valV_any, e]; rfl), List.length_map]
    have h2 : kc n kvs ≤ kc n (putK kvs (Sum.inl (z : Int) : L2.Key) v) := Pm.flt_le up
    omega
/-- while the sources of t are looked at; rest is still to be seen -/
structure GJ (d : Gd) (own : List Nat) (TN l : Nat) (s0 s : RSt) (kvs : List (L2.Key × V)) (ws dn : List Nat) (t : Nat) (rest : List Nat) : Prop where
  W : WF d own TN s
  I : Pm.Inv (dG d own) (TN - 1) s.f s.c l
  nd : (dn ++ t :: ws).Nodup
  mem : ∀ p, p ∈ dn ++ t :: ws ↔ p < d.mv.length ∧ s.f p = l
  rel : ∀ z, z < d.mv.length → s.f z < l → RelS d s l kvs z (if z ∈ rest then dn else dn ++ [t])
  kl : kvs.length ≤ kc d.mv.length kvs
  up : ∀ p, p < d.mv.length → s0.f p ≤ s.f p
structure GI (d : Gd) (own : List Nat) (TN l : Nat) (s0 s : RSt) (kvs : List (L2.Key × V)) (ws dn : List Nat) : Prop where
  W : WF d own TN s
  I : Pm.Inv (dG d own) (TN - 1) s.f s.c l
  nd : (dn ++ ws).Nodup
  mem : ∀ p, p ∈ dn ++ ws ↔ p < d.mv.length ∧ s.f p = l
  rel : ∀ z, z < d.mv.length → s.f z < l → RelS d s l kvs z dn
  kl : kvs.length ≤ kc d.mv.length kvs
  up : ∀ p, p < d.mv.length → s0.f p ≤ s.f p
variable {s0 : RSt} {kvs : List (L2.Key × V)} {ws dn rest : List Nat} {t z : Nat}
/-- one is taken from the end of the list -/
theorem GI.pop (G : GI d own TN l s0 s kvs (ws ++ [t]) dn) : GJ d own TN l s0 s kvs ws dn t (Gr.row (rvG d.mv) t) := by
  have ht : t < d.mv.length := ((G.mem t).mp (by simp)).1
  have nd := G.nd
  refine ⟨G.W, G.I, ?_, fun p => ?_, fun z hz hl => ?_, G.kl, G.up⟩
  · rw [List.nodup_append] at nd ⊢
    obtain ⟨n1, n2, n3⟩ := nd
    rw [List.nodup_append] at n2
    refine ⟨n1, List.nodup_cons.mpr ⟨fun h => n2.2.2 t h t (by simp) rfl, n2.1⟩, fun a ha b hb => n3 a ha b ?_⟩
    rcases List.mem_cons.mp hb with e | e
    · rw [e]; simp
    · exact List.mem_append_left _ e
  · rw [← G.mem p]
    simp only [List.mem_append, List.mem_cons, List.mem_singleton, List.not_mem_nil, or_false]
    constructor
    · rintro (a | a | a)
      · exact .inl a
      · exact .inr (.inr a)
      · exact .inr (.inl a)
    · rintro (a | a | a)
      · exact .inl a
      · exact .inr (.inr a)
      · exact .inr (.inl a)
  · split
    · exact G.rel z hz hl
    · rename_i h
      exact relS_skip (fun m => h ((rv_mem ht).mpr ⟨hz, m⟩)) (G.rel z hz hl)
theorem GJ.done (G : GJ d own TN l s0 s kvs ws dn t []) : GI d own TN l s0 s kvs ws (dn ++ [t]) := by
  refine ⟨G.W, G.I, by rw [List.append_assoc]; exact G.nd, fun p => by rw [List.append_assoc]; exact G.mem p, fun z hz hl => ?_, G.kl, G.up⟩
  have := G.rel z hz hl
  rw [if_neg (by simp)] at this
  exact this
/-- a place that is not lower -/
theorem GJ.skip (G : GJ d own TN l s0 s kvs ws dn t (z :: rest)) (h : l ≤ s.f z) : GJ d own TN l s0 s kvs ws dn t rest := by
  refine ⟨G.W, G.I, G.nd, G.mem, fun x hx hl => ?_, G.kl, G.up⟩
  have := G.rel x hx hl
  have ne : x ≠ z := fun e => by rw [e] at hl; omega
  by_cases c : x ∈ rest
  · rw [if_pos c]; rw [if_pos (List.mem_cons_of_mem _ c)] at this; exact this
  · rw [if_neg c]; rw [if_neg (by simp [ne, c])] at this; exact this
/-- the number of moves that are left, one less -/
theorem GJ.put {kvs' : List (L2.Key × V)} (G : GJ d own TN l s0 s kvs ws dn t (z :: rest)) (nd : z ∉ rest) (ho : d.ow.getD z 0 ≠ l % 2) (ht : t ∈ Gr.row d.mv z) (hD : t ∉ dn) (hlt : c2 d dn z + 1 < lowC d s z l)
    (hv : valV kvs' (Sum.inl (z : Int) : L2.Key) = some (VN (lowC d s z l - (c2 d dn z + 1)))) (hk : ∀ x : Nat, x ≠ z → valV kvs' (Sum.inl (x : Int) : L2.Key) = valV kvs (Sum.inl (x : Int) : L2.Key)) (hkl : kvs'.length ≤ kc d.mv.length kvs') :
    GJ d own TN l s0 s kvs' ws dn t rest := by
  refine ⟨G.W, G.I, G.nd, G.mem, fun x hx hlx => ?_, hkl, G.up⟩
  by_cases e : x = z
  · subst e
    rw [if_neg nd]
    refine ⟨fun o => absurd o ho, fun _ => ?_⟩
    rw [c2_one G.W.ok ht hD, hv, if_neg (by omega)]
    exact ⟨rfl, fun _ => hlt⟩
  · have := G.rel x hx hlx
    refine relS_cong (s := s) (fun _ => Iff.rfl) (hk x e) ?_
    by_cases c : x ∈ rest
    · rw [if_pos c]; rw [if_pos (List.mem_cons_of_mem _ c)] at this; exact this
    · rw [if_neg c]; rw [if_neg (by simp [e, c])] at this; exact this
/-- a place joins -/
theorem GJ.join {ch : List Int} {kvs' : List (L2.Key × V)} (G : GJ d own TN l s0 s kvs ws dn t (z :: rest)) (hlT : l < TN) (hz : z < d.mv.length) (hl : s.f z < l) (hc1 : ch.length = d.mv.length) (hc2 : ∀ x, x ≠ z → ch.getD x (-1) = s.c x) (hc3 : -1 ≤ ch.getD z (-1))
    (h : (d.ow.getD z 0 = l % 2 ∧ ∃ q : Nat, ch.getD z (-1) = (q : Int) ∧ q ∈ Gr.row d.mv z ∧ s.f q = l) ∨ (d.ow.getD z 0 ≠ l % 2 ∧ ∀ q ∈ Gr.row d.mv z, l ≤ s.f q))
    (hk : ∀ x, x ≠ z → valV kvs' (Sum.inl (x : Int) : L2.Key) = valV kvs (Sum.inl (x : Int) : L2.Key)) (hkl : kvs'.length ≤ kc d.mv.length kvs') :
    GJ d own TN l s0 (joinS s ch z l) kvs' (ws ++ [z]) dn t rest := by
  obtain ⟨W', I'⟩ := join_ok G.W G.I hlT hz hl hc1 hc2 hc3 h
  have hzr : z < s.r.length := by rw [G.W.lr]; exact hz
  have ef : (joinS s ch z l).f = Pm.up s.f z l := join_f hzr ch
  have hzn : z ∉ dn ++ t :: ws := fun m => by have := ((G.mem z).mp m).2; omega
  refine ⟨W', I', ?_, fun p => ?_, fun x hx hlx => ?_, hkl, fun p hp => ?_⟩
  · rw [show dn ++ t :: (ws ++ [z]) = (dn ++ t :: ws) ++ [z] by simp]
    exact List.nodup_append.mpr ⟨G.nd, by simp, fun a ha b hb e => hzn (by rw [List.mem_singleton.mp hb] at e; rw [← e]; exact ha)⟩
  · rw [show dn ++ t :: (ws ++ [z]) = (dn ++ t :: ws) ++ [z] by simp, List.mem_append, G.mem p, ef, List.mem_singleton]
    by_cases e : p = z
    · subst e; rw [Pm.up_eq]; exact ⟨fun _ => ⟨hz, rfl⟩, fun _ => .inr rfl⟩
    · rw [Pm.up_ne e]; exact ⟨fun a => a.resolve_right e, .inl⟩
  · rw [ef] at hlx
    have e : x ≠ z := fun e => by subst e; rw [Pm.up_eq] at hlx; omega
    rw [Pm.up_ne e] at hlx
    have := G.rel x hx hlx
    refine relS_cong (s := s) (fun q => ?_) (hk x e) ?_
    · rw [ef]
      by_cases c : q = z
      · subst c; rw [Pm.up_eq]; exact ⟨fun _ => by omega, fun _ => Nat.le_refl _⟩
      · rw [Pm.up_ne c]
    · by_cases c : x ∈ rest
      · rw [if_pos c]; rw [if_pos (List.mem_cons_of_mem _ c)] at this; exact this
      · rw [if_neg c]; rw [if_neg (by simp [e, c])] at this; exact this
  · have := G.up p hp
    rw [ef]
    by_cases e : p = z
    · subst e; rw [Pm.up_eq]; omega
    · rw [Pm.up_ne e]; exact this
/-- all moves that do not lead higher lead into the region -/
theorem GJ.all (G : GJ d own TN l s0 s kvs ws dn t (z :: rest)) (ht : t ∈ Gr.row d.mv z) (hD : t ∉ dn) (h : lowC d s z l ≤ c2 d dn z + 1) : ∀ q ∈ Gr.row d.mv z, l ≤ s.f q := by
  have hsub : ∀ q ∈ Gr.row d.mv z, q ∈ dn ++ [t] → s.f q = l := fun q _ hm => ((G.mem q).mp (by
    rcases List.mem_append.mp hm with m | m
    · exact List.mem_append_left _ m
    · rw [List.mem_singleton.mp m]; simp)).2
  intro q hq
  rcases Nat.lt_or_ge (s.f q) l with c | c
  · exfalso
    have hqn : q ∉ dn ++ [t] := fun m => by have := hsub q hq m; omega
    have : ((Gr.row d.mv z).filter fun q => decide (q ∈ dn ++ [t])).length < ((Gr.row d.mv z).filter fun q => decide (s.f q ≤ l)).length := Pm.flt_lt (fun p hp e => by
      have := hsub p hp (of_decide_eq_true e)
      exact decide_eq_true (by omega)) ⟨q, hq, decide_eq_true (by omega), decide_eq_false hqn⟩
    have h1 := c2_one G.W.ok ht hD
    unfold c2 at h1 h
    unfold lowC at h
    omega
  · exact c
theorem GI.fin (G : GI d own TN l s0 s kvs [] dn) : Pm.MxAt (dG d own) s.f l := by
  have hm : ∀ p, p ∈ dn ↔ p < d.mv.length ∧ s.f p = l := fun p => by rw [← G.mem p, List.append_nil]
  intro p hp hl
  obtain ⟨r1, r2⟩ := G.rel p hp hl
  refine ⟨fun o q hq e => r1 o q hq ((hm q).mpr ⟨G.W.ok.rg p q hq, e⟩), fun o ⟨q, hq, e⟩ => ?_⟩
  have hqd := (hm q).mpr ⟨G.W.ok.rg p q hq, e⟩
  obtain ⟨_, r4⟩ := r2 o
  have hc : c2 d dn p ≠ 0 := fun z => by
    unfold c2 at z
    have := List.length_eq_zero_iff.mp z
    have m : q ∈ (Gr.row d.mv p).filter fun q => decide (q ∈ dn) := List.mem_filter.mpr ⟨hq, decide_eq_true hqd⟩
    rw [this] at m
    cases m
  have r4 := r4 hc
  unfold c2 lowC at r4
  -- one of those that do not lead higher is not in the region
  by_cases c : ∃ q ∈ Gr.row d.mv p, s.f q < l
  · exact c
  · exfalso
    have : ((Gr.row d.mv p).filter fun q => decide (s.f q ≤ l)).length ≤ ((Gr.row d.mv p).filter fun q => decide (q ∈ dn)).length := Pm.flt_le fun x hx e => by
      have e := of_decide_eq_true e
      have : ¬ s.f x < l := fun z => c ⟨x, hx, z⟩
      exact decide_eq_true ((hm x).mpr ⟨G.W.ok.rg p x hx, by omega⟩)
    omega
end
structure RgV (H : Hp) (A : RA) (jas : List Addr) (s : RSt) : Prop where
  lev : H A.lA = some (.lst (s.r.map VN))
  cho : H A.cA = some (.lst (s.ch.map V.int))
  jn : H A.jA = some (.lst (jas.map V.ref))
  jl : jas.length = s.jo.length
  jr : ∀ (i : Nat) (a : Addr), jas[i]? = some a → H a = some (.lst ((s.jo.getD i []).map VN))
  nd : (A.mu jas).Nodup
section
variable {CR CG x : Addr} {A : RA} {d : Gd} {own : List Nat} {TN : Nat} {jas : List Addr} {s s0 : RSt} {H H' : Hp}
theorem RgAt.v (R : RgAt CR CG H x A d own TN jas s) : RgV H A jas s := ⟨R.lev, R.cho, R.jn, R.jl, R.jr, R.nd⟩
theorem RgV.to (R : RgAt CR CG H x A d own TN jas s0) (f : Fz (A.mu jas) H H') (v : RgV H' A jas s) : RgAt CR CG H' x A d own TN jas s :=
  ⟨fun H2 k => R.im H2 (f.trans k fun b hb => .inl hb), v.lev, v.cho, v.jn, v.jl, v.jr, v.nd⟩
theorem RgV.upd {a : Addr} {o : HO} (v : RgV H A jas s) (h : a ∉ A.mu jas) : RgV (L2.upd H a o) A jas s :=
  ⟨by rw [upd_ne (fun z => h (by rw [← z]; exact mu_l))]; exact v.lev, by rw [upd_ne (fun z => h (by rw [← z]; exact mu_c))]; exact v.cho, by rw [upd_ne (fun z => h (by rw [← z]; exact mu_j))]; exact v.jn, v.jl, fun i b e => by rw [upd_ne (fun z => h (by rw [← z]; exact mu_r (List.mem_of_getElem? e)))]; exact v.jr i b e, v.nd⟩
theorem RgV.same (sm : Same H H') (v : RgV H A jas s) : RgV H' A jas s := ⟨sm _ _ v.lev, sm _ _ v.cho, sm _ _ v.jn, v.jl, fun i b e => sm _ _ (v.jr i b e), v.nd⟩
/-- what is new is not among what changes -/
theorem RgV.new {a : Addr} (v : RgV H A jas s) (h : H a = none) : a ∉ A.mu jas := fun z => by
  unfold RA.mu at z
  simp only [List.mem_cons] at z
  rcases z with e | e | e | e
  · rw [e, v.lev] at h; cases h
  · rw [e, v.cho] at h; cases h
  · rw [e, v.jn] at h; cases h
  · obtain ⟨i, hi⟩ := List.mem_iff_getElem?.mp e
    rw [v.jr i a hi] at h
    cases h
end
def atR : List Str := ["joined", "natives", "choices", "levels", "own_levels", "sources", "game"]
theorem rgf_no {m : Str} (a b c d e f g : Addr) (h : ∀ k ∈ atR, k ≠ m) : (rgf a b c d e f g).lookup m = none := by
  unfold rgf
  have h1 : ∀ k ∈ atR, ¬ m = k := fun k hk z => h k hk z.symm
  rw [lookup_putF, if_neg (by first | exact h1 _ (by decide +kernel) | exact h _ (by decide +kernel)), lookup_putF, if_neg (by first | exact h1 _ (by decide +kernel) | exact h _ (by decide +kernel)), lookup_putF, if_neg (by first | exact h1 _ (by decide +kernel) | exact h _ (by decide +kernel)), lookup_putF, if_neg (by first | exact h1 _ (by decide +kernel) | exact h _ (by decide +kernel)), lookup_putF, if_neg (by first | exact h1 _ (by decide +kernel) | exact h _ (by decide +kernel)), lookup_putF, if_neg (by first | exact h1 _ (by decide +kernel) | exact h _ (by decide +kernel)), lookup_putF, if_neg (by first | exact h1 _ (by decide +kernel) | exact h _ (by decide +kernel))]
  rfl
theorem noM (a b c d e f g : Addr) : ∀ m ∈ (["members", "grow", "lower_moves", "is_open", "choose", "exits", "settle", "promote"] : List Str), (rgf a b c d e f g).lookup m = none := fun m hm => rgf_no a b c d e f g (by
  have k : ∀ m ∈ (["members", "grow", "lower_moves", "is_open", "choose", "exits", "settle", "promote"] : List Str), ∀ k ∈ atR, k ≠ m := by decide +kernel
  exact k m hm)
def lcN (n : Nat) (s : RSt) (l : Nat) : Nat := ((List.range n).filter fun p => decide (s.f p < l)).length
theorem lc_join {d : Gd} {s : RSt} {ch : List Int} {z l : Nat} (hzr : z < s.r.length) (hz : z < d.mv.length) (hl : s.f z < l) : lcN d.mv.length (joinS s ch z l) l < lcN d.mv.length s l := by
  unfold lcN
  rw [join_f hzr]
  refine Pm.flt_lt (fun p _ e => ?_) ⟨z, List.mem_range.mpr hz, decide_eq_true hl, by rw [Pm.up_eq]; exact decide_eq_false (Nat.lt_irrefl _)⟩
  have e := of_decide_eq_true e
  by_cases c : p = z
  · subst c; rw [Pm.up_eq] at e; omega
  · rw [Pm.up_ne c] at e; exact decide_eq_true e
theorem RgAt.src {CR CG x : Addr} {A : RA} {d : Gd} {own : List Nat} {TN : Nat} {jas : List Addr} {s : RSt} {H : Hp} (R : RgAt CR CG H x A d own TN jas s) {t : Nat} (ht : t < d.mv.length) :
    ∃ (sas : List Addr) (sa : Addr), H A.sA = some (.lst (sas.map V.ref)) ∧ sas[t]? = some sa ∧ A.sA ∉ A.mu jas ∧ sa ∉ A.mu jas ∧ H sa = some (.lst ((Gr.row (rvG d.mv) t).map VN)) := by
  obtain ⟨sas, es, esl, esr⟩ := R.i.so
  rw [rv_len] at esl
  have n1 : A.sA ∉ A.mu jas := fun z => by
    obtain ⟨as', e, _⟩ := (R.im (upd H A.sA (.tup [])) (Fz.upd z)).so
    rw [upd_same] at e
    cases e
  obtain ⟨sa, hsa⟩ : ∃ a, sas[t]? = some a := ⟨_, List.getElem?_eq_getElem (by omega)⟩
  refine ⟨sas, sa, es, hsa, n1, fun z => ?_, esr t sa hsa⟩
  obtain ⟨as', e, _, er⟩ := (R.im (upd H sa (.tup [])) (Fz.upd z)).so
  rw [upd_ne (fun q => n1 (by rw [q]; exact z)), es] at e
  have e2 : as' = sas := by
    have := HO.lst.inj (Option.some.inj e)
    exact ((List.map_inj_right fun a b h => V.ref.inj h).mp this).symm
  subst e2
  have := er t sa hsa
  rw [upd_same] at this
  cases this
theorem Fz.updN {S : List Addr} {H H' : Hp} {a : Addr} {o : HO} (f : Fz S H H') (h : H a = none) : Fz S H (L2.upd H' a o) := fun b u nb e => by rw [upd_ne (ne_of_none e h)]; exact f b u nb e
theorem Fz.nx {S : List Addr} {H H1 H2 : Hp} (f : Fz S H H1) (s : Same H1 H2) : Fz S H H2 := fun b u nb e => s _ _ (f b u nb e)
theorem GI.start {d : Gd} {own : List Nat} {TN l : Nat} {s : RSt} (W : WF d own TN s) (I : Pm.Inv (dG d own) (TN - 1) s.f s.c l) (hl : l < TN) : GI d own TN l s s [] (memS own TN s l) [] :=
  ⟨W, I, by rw [List.nil_append]; exact W.mem_nd hl, fun p => by rw [List.nil_append]; exact W.mem (fun q hq => (I.lv q hq).1) hl, fun z _ _ => ⟨fun _ q _ h => (by cases h), fun _ => by
    have : c2 d [] z = 0 := by unfold c2; simp
    rw [this, if_pos rfl]
    exact ⟨rfl, fun h => absurd rfl h⟩⟩, Nat.zero_le _, fun p _ => Nat.le_refl _⟩
def spGrow (CR CG : Addr) : Sp := fun vs H Q _ => ∃ (x : Addr) (A : RA) (d : Gd) (own : List Nat) (TN : Nat) (jas : List Addr) (s : RSt) (l : Nat), vs = [.ref x, VN l] ∧ RgAt CR CG H x A d own TN jas s ∧ WF d own TN s ∧ l < TN ∧ Pm.Inv (dG d own) (TN - 1) s.f s.c l ∧
  ∀ (H' : Hp) (s' : RSt), Fz (A.mu jas) H H' → RgAt CR CG H' x A d own TN jas s' → WF d own TN s' → Pm.Inv (dG d own) (TN - 1) s'.f s'.c l → Pm.MxAt (dG d own) s'.f l → (∀ p, p < d.mv.length → s.f p ≤ s'.f p) → Q .non H'
theorem ok_grow {CR CG f fM fL : Addr} {fd fdM fdL : FuncData} (T : Txt K mg) (PR : RegC K CR) (PC : GmeC K CG) (F : L2.Fun K "grow" "Regions.grow" s_Regions_grow f fd)
    (ME_members : Meth K CR "members" fM) (F1 : L2.Fun K "members" "Regions.members" s_Regions_members fM fdM) (BI_members : Binds K fdM ["self", "level"] [])
    (ME_lower_moves : Meth K CR "lower_moves" fL) (F2 : L2.Fun K "lower_moves" "Regions.lower_moves" s_Regions_lower_moves fL fdL) (BI_lower_moves : Binds K fdL ["self", "position", "level"] []) :
    FnOk P w K mg base CX0 2 f fd ["self", "level"] (spGrow CR CG) := by
  have FN_members := ok_mem (P := P) (w := w) (base := base) (CG := CG) T PR F1
  have FN_lower_moves := ok_low (P := P) (w := w) (base := base) (CG := CG) T PR PC F2
  refine F.ok sc_Regions_grow (fun vs H Q E h => ?_) (fun cdv A' outer s' H vs Q E hr h => ?_)
  · obtain ⟨_, _, _, _, _, _, _, _, rfl, _⟩ := h
    rfl
  · obtain ⟨x, A, d, own, TN, jas, s, l, rfl, R, W, hl, I, q⟩ := h
    refine ⟨_, (pss_cons
      (ps_set (i := 2) sc_Regions_grow.nd rfl (Or.inl rfl) (pe_op op_mod (pv 1) pe_int))
      (pss_cons
      (ps_set (i := 3) sc_Regions_grow.nd rfl (Or.inl rfl) pe_dnewK)
      (pss_cons
      (ps_set (i := 4) sc_Regions_grow.nd rfl (Or.inl rfl) (pe_meth (pv 0) PR.cl ME_members FN_members (hr.mono (by decide)) BI_members .nil pass0 (pa_cons (pv 1) pa_nil)))
      (pss_one
      (ps_while PassesOwn.never (pt_cmpR op_gt (pe_callB (call_lenK (K := K) rfl) (by rfl) T.z_len PySem.boot_len (pa_cons (pv 4) pa_nil)) pe_int (nomark _)) (pss_cons
      (ps_set (i := 5) sc_Regions_grow.nd rfl (Or.inl rfl) (pe_bm0 PySem.F.plainAttrs_list PySem.F.slot_list_pop PySem.F.type_list_pop mt_pop (pv 4)))
      (pss_one
      (ps_for PassesOwn.never rfl (pi_list (pe_ix (ix_listK (K := K) rfl) (pe_fld (pv 0) rfl) (pv 5) (fun _ _ => rfl))) (pg_name (i := 6) sc_Regions_grow.nd rfl (.inl rfl)) (pss_cons
      (ps_if (pt_cmpR op_ge (pe_ix (ix_listK (K := K) rfl) (pe_fld (pv 0) rfl) (pv 6) (fun _ _ => rfl)) (pv 1) (nomark _)) (pss_one
      ps_continue) pss_nil)
      (C8.pss_cut
      (ps_if (pt_cmpR op_eq (pe_ix (ix_tupK (K := K) rfl) (pe_fld (pe_fld (pv 0) rfl) rfl) (pv 6) (fun _ _ => rfl)) (pv 2) (nomark _)) (pss_one
      (ps_asg (pv 5) (pg_sub (pe_fld (pv 0) rfl) (pv 6) set_list))) (C8.pss_cut
      (ps_if (pt_cmp (pc_dnotin (hu_of hr) (pv 6) (pv 3))) (pss_one
      (ps_dput (hu_of hr) (pv 3) (pv 6) (pe_meth (pv 0) PR.cl ME_lower_moves FN_lower_moves (hr.mono (by decide)) BI_lower_moves .nil pass0 (pa_cons (pv 6) (pa_cons (pv 1) pa_nil))) rfl)) pss_nil)
      (pss_cons
      (ps_daug (hu_of hr) (pv 3) (pv 6) pe_int ip_sub (fun _ _ _ => rfl))
      (pss_one
      (ps_if (pt_cmpR op_gt (pe_dget (hu_of hr) (pv 3) (pv 6) (fun _ _ => rfl)) pe_int (nomark _)) (pss_one
      ps_continue) pss_nil)))))
      (pss_cons
      (ps_asg (pv 1) (pg_sub (pe_fld (pv 0) rfl) (pv 6) set_list))
      (pss_cons
      (ps_expr (pe_bm PySem.F.plainAttrs_list PySem.F.slot_list_append PySem.F.type_list_append mt_append (pe_ix (ix_listK (K := K) rfl) (pe_fld (pv 0) rfl) (pv 1) (fun _ _ => rfl)) (pa_cons (pv 6) pa_nil)))
      (pss_one
      (ps_expr (pe_bm PySem.F.plainAttrs_list PySem.F.slot_list_append PySem.F.type_list_append mt_append (pv 4) (pa_cons (pv 6) pa_nil)))))))))))))))), ?_⟩
    have hn2 := W.ok.n2
    refine ⟨_, rfl, _, _, rfl, rfl, (by omega), ?_⟩
    show gName 2 (V.int ((l : Int) % 2)) _ _ _
    rw [show ((l : Int) % 2) = ((l % 2 : Nat) : Int) by omega]
    refine fun D nD => ?_
    generalize hX : upd H D _ = H1; obtain ⟨sH1, eD⟩ := nw nD hX; clear hX
    have R1 := R.same sH1
    refine ⟨_, rfl, x, A.dx, _, rfl, R1.i.ins, noM _ _ _ _ _ _ _ _ (by decide +kernel), _, rfl, x, A, d, own, TN, jas, s, l, rfl, R1, W, hl, fun H2 Wd s2 nW eW => ?_⟩
    have s02 := sH1.trans s2
    have eD2 := s2 _ _ eD
    have nW0 := sH1.free nW
    have nDW : D ≠ Wd := fun z => by rw [← z, eD] at nW; cases nW
    -- the search
    refine ⟨fun m σ H' => ∃ (s' : RSt) (kvs : List (L2.Key × V)) (ws dn : List Nat) (v5 v6 : Option V), m = lcN d.mv.length s' l + ws.length ∧ σ = [some (.ref x), some (VN l), some (VN (l % 2)), some (.ref D), some (.ref Wd), v5, v6] ∧ Fz (A.mu jas) H H' ∧ RgV H' A jas s' ∧ H' D = some (.dK kvs) ∧ H' Wd = some (.lst (ws.map VN)) ∧ GI d own TN l s s' kvs ws dn, ⟨_, s, [], _, [], none, none, rfl, rfl, .of s02, R.v.same s02, eD2, eW, GI.start W I hl⟩, ?_⟩
    rintro m σ H3 ⟨s3, kvs, ws, dn, v5, v6, rfl, rfl, f3, v3, eD3, eW3, G3⟩
    refine ⟨_, rfl, Wd, _, rfl, .inl (.of eW3), _, _, rfl, rfl, _, rfl, ite2 (fun cc => ?_) (fun cc => ?_)⟩
    case refine_2 =>
      have cw : ws = [] := by
        cases ws with
        | nil => rfl
        | cons a b => exact absurd (decide_eq_true (by rw [List.length_map, List.length_cons]; omega)) cc
      subst cw
      exact q H3 s3 f3 (v3.to R f3) G3.W G3.I G3.fin G3.up
    obtain ⟨ws, t, rfl⟩ : ∃ ws' x, ws = ws' ++ [x] := by
      rcases List.eq_nil_or_concat ws with rfl | ⟨a, b, rfl⟩
      · exact absurd cc (by decide)
      · exact ⟨a, b, List.concat_eq_append⟩
    have ht : t < d.mv.length ∧ s3.f t = l := (G3.mem t).mp (by simp)
    rw [List.length_append, List.length_singleton]
    refine ⟨fun σ H' => ∃ (s' : RSt) (kvs : List (L2.Key × V)) (ws' dn : List Nat) (v5 v6 : Option V), lcN d.mv.length s' l + ws'.length ≤ lcN d.mv.length s3 l + ws.length ∧ σ = [some (.ref x), some (VN l), some (VN (l % 2)), some (.ref D), some (.ref Wd), v5, v6] ∧ Fz (A.mu jas) H H' ∧ RgV H' A jas s' ∧ H' D = some (.dK kvs) ∧ H' Wd = some (.lst (ws'.map VN)) ∧ GI d own TN l s s' kvs ws' dn, fun σ' H' ⟨s', kvs, ws', dn, v5, v6, h, z⟩ => ⟨_, by omega, s', kvs, ws', dn, v5, v6, rfl, z⟩, ?_⟩
    refine ⟨_, rfl, .inl ⟨rfl, _, .of eW3⟩, Wd, _, VN t, rfl, rfl, eW3, by simp, ?_⟩
    rw [show ((ws ++ [t]).map VN).dropLast = ws.map VN by simp]
    have f4 := f3.updN (a := Wd) (o := .lst (ws.map VN)) nW0
    have v4 := v3.upd (a := Wd) (o := .lst (ws.map VN)) (R.v.new nW0)
    have eD4 : (upd H3 Wd (.lst (ws.map VN))) D = some (.dK kvs) := by rw [upd_ne nDW]; exact eD3
    have eW4 := upd_same (H := H3) (a := Wd) (o := .lst (ws.map VN))
    generalize upd H3 Wd (.lst (ws.map VN)) = H4 at f4 v4 eD4 eW4 ⊢
    have im4 := R.im H4 f4
    obtain ⟨sas, sa, es0, hsa, nS, nsa, esa0⟩ := R.src ht.1
    refine ⟨_, rfl, x, CR, A.dx, _, _, rfl, im4.ins, PR.cl, PR.ns, rgf_s _ _ _ _ _ _ _, _, rfl, A.sA, _, _, .ref sa, rfl, rfl, .of (f4 _ _ nS es0), atN hsa, sa, rfl, ⟨_, .of (f4 _ _ nsa esa0)⟩, ?_⟩
    have tdn : t ∉ dn := fun z => by
      have := List.nodup_append.mp G3.nd
      exact this.2.2 t z t (by simp) rfl
    have und := rv_nd (mv := d.mv) ht.1
    have umem : ∀ z ∈ Gr.row (rvG d.mv) t, z < d.mv.length ∧ t ∈ Gr.row d.mv z := fun z hz => (rv_mem ht.1).mp hz
    have GP := G3.pop
    generalize Gr.row (rvG d.mv) t = us at esa0 und umem GP ⊢
    clear R1 im4
    refine for_list (K := K) (a := sa) (xs := us.map VN) (fun i σ H' => ∃ (s' : RSt) (kvs : List (L2.Key × V)) (ws' : List Nat) (v6 : Option V), lcN d.mv.length s' l + ws'.length ≤ lcN d.mv.length s3 l + ws.length ∧ σ = [some (.ref x), some (VN l), some (VN (l % 2)), some (.ref D), some (.ref Wd), some (VN t), v6] ∧ Fz (A.mu jas) H H' ∧ RgV H' A jas s' ∧ H' D = some (.dK kvs) ∧ H' Wd = some (.lst (ws'.map VN)) ∧ GJ d own TN l s s' kvs ws' dn t (us.drop i)) ⟨s3, kvs, ws, v6, Nat.le_refl _, rfl, f4, v4, eD4, eW4, GP⟩ (fun i σ H' _ ⟨_, _, _, _, _, _, f, _⟩ => .of (f _ _ nsa esa0)) ?_ ?_
    case refine_2 =>
      rintro σ H5 ⟨s5, kvs5, ws5, v6', h5, rfl, f5, v5', eD5, eW5, G5⟩
      rw [List.length_map, List.drop_length] at G5
      exact ⟨s5, kvs5, ws5, _, _, _, h5, rfl, f5, v5', eD5, eW5, G5.done⟩
    clear G3 v3 eD3 eW3 f3 GP f4 v4 eD4 eW4
    rintro i y σ H5 hi ⟨s5, kvs5, ws5, v6', h5, rfl, f5, v5', eD5, eW5, G5⟩
    obtain ⟨z, hz, rfl⟩ := nats_get hi
    have hil := lt_of_get hz
    obtain ⟨hzn, htz⟩ := umem z (List.mem_of_getElem? hz)
    have edr : us.drop i = z :: us.drop (i + 1) := by
      rw [List.drop_eq_getElem_cons hil]
      rw [List.getElem?_eq_getElem hil] at hz
      rw [Option.some.inj hz]
    have hzd : z ∉ us.drop (i + 1) := fun m => by
      have nd := und.sublist (List.drop_sublist i us)
      rw [edr, List.nodup_cons] at nd
      exact nd.1 m
    rw [edr] at G5
    have im5 := R.im H5 f5
    have W5 := G5.W
    have him : A.lA ∈ A.mu jas := mu_l
    refine ⟨_, rfl, x, CR, A.dx, _, _, rfl, im5.ins, PR.cl, PR.nl, rgf_l _ _ _ _ _ _ _, _, rfl, A.lA, _, _, VN (s5.f z), rfl, rfl, .of v5'.lev, atN (W5.at hzn), _, rfl, _, _, rfl, rfl, _, rfl, ite2 (fun k => ?_) (fun k => ?_)⟩
    · have k := Int.ofNat_le.mp (of_decide_eq_true k)
      exact ⟨s5, kvs5, ws5, _, h5, rfl, f5, v5', eD5, eW5, G5.skip k⟩
    have k : s5.f z < l := Nat.lt_of_not_le fun q => k (decide_eq_true (Int.ofNat_le.mpr q))
    have hwsn : ws5.length ≤ d.mv.length := by
      have h1 := nd_len G5.nd fun p hp => ((G5.mem p).mp hp).1
      rw [List.length_append, List.length_cons] at h1
      omega
    have hkl : kvs5.length ≤ 1000 := Nat.le_trans G5.kl (Nat.le_trans (kc_n _ _) hn2)
    obtain ⟨gx, ot, pt, rt, g1, g2, g3, g4⟩ := im5.gm
    have how := W5.ok.lo
    have hrel := G5.rel z hzn k
    rw [if_pos List.mem_cons_self] at hrel
    -- the choice, or the number of moves that are left
    refine ⟨fun σ' H' => ∃ (ch : List Int) (kvs' : List (L2.Key × V)), σ' = [some (.ref x), some (VN l), some (VN (l % 2)), some (.ref D), some (.ref Wd), some (VN t), some (VN z)] ∧ Fz (A.mu jas) H H' ∧ RgV H' A jas ⟨s5.r, ch, s5.jo⟩ ∧ H' D = some (.dK kvs') ∧ H' Wd = some (.lst (ws5.map VN)) ∧ ch.length = d.mv.length ∧ (∀ x, x ≠ z → ch.getD x (-1) = s5.c x) ∧ -1 ≤ ch.getD z (-1) ∧
      ((d.ow.getD z 0 = l % 2 ∧ ∃ q : Nat, ch.getD z (-1) = (q : Int) ∧ q ∈ Gr.row d.mv z ∧ s5.f q = l) ∨ (d.ow.getD z 0 ≠ l % 2 ∧ ∀ q ∈ Gr.row d.mv z, l ≤ s5.f q)) ∧ (∀ x : Nat, x ≠ z → valV kvs' (Sum.inl (x : Int) : L2.Key) = valV kvs5 (Sum.inl (x : Int) : L2.Key)) ∧ kvs'.length ≤ kc d.mv.length kvs', ?_, ?_⟩
    · refine ⟨_, rfl, x, CR, A.dx, _, _, rfl, im5.ins, PR.cl, PR.ng, rgf_g _ _ _ _ _ _ _, A.gA, CG, gx, _, _, rfl, g1, PC.cl, PC.no, gf_o _ _ _, _, rfl, ot, _, _, VN (d.ow.getD z 0), rfl, rfl, .of g2, atN (getD_n (by omega)), _, rfl, rfl, _, rfl, ite_eq (fun o => ?_) (fun o => ?_)⟩
      · have o : d.ow.getD z 0 = l % 2 := Int.ofNat.inj o
        refine ⟨_, rfl, _, rfl, x, CR, A.dx, _, _, rfl, im5.ins, PR.cl, PR.nc, rgf_c _ _ _ _ _ _ _, _, rfl, A.cA, _, _, z, rfl, rfl, v5'.cho, ixN_at (by rw [List.length_map, W5.lc]; exact hzn), ?_⟩
        rw [show (s5.ch.map V.int).set z (VN t) = (s5.ch.set z (t : Int)).map V.int by rw [List.map_set]]
        have f6 : Fz (A.mu jas) H (upd H5 A.cA (.lst ((s5.ch.set z (t : Int)).map V.int))) := f5.trans (Fz.upd mu_c) fun b hb => .inl hb
        have v6 : RgV (upd H5 A.cA (.lst ((s5.ch.set z (t : Int)).map V.int))) A jas ⟨s5.r, s5.ch.set z (t : Int), s5.jo⟩ := ((v5'.to R f5).setC _).v
        have nD : A.cA ≠ D := fun e => by have := v5'.cho; rw [e, eD5] at this; cases this
        have nW' : A.cA ≠ Wd := fun e => R.v.new nW0 (by rw [← e]; exact mu_c)
        have hzc : z < s5.ch.length := by rw [W5.lc]; exact hzn
        refine ⟨_, kvs5, rfl, f6, v6, by rw [upd_ne nD.symm]; exact eD5, by rw [upd_ne nW'.symm]; exact eW5, by rw [List.length_set]; exact W5.lc, fun y hy => by rw [getD_setI hzc, if_neg hy]; rfl, by rw [getD_setI hzc, if_pos rfl]; omega, .inl ⟨o, t, by rw [getD_setI hzc, if_pos rfl], htz, ((G5.mem t).mp (by simp)).2⟩, fun _ _ => rfl, G5.kl⟩
      · have o : d.ow.getD z 0 ≠ l % 2 := fun e => o (by rw [e])
        obtain ⟨r1, r2⟩ := hrel.2 o
        have tl : t ∈ (Gr.row d.mv z).filter fun q => decide (s5.f q ≤ l) := List.mem_filter.mpr ⟨htz, decide_eq_true (Nat.le_of_eq ((G5.mem t).mp (by simp)).2)⟩
        have low1 : c2 d dn z < lowC d s5 z l := by
          by_cases e : c2 d dn z = 0
          · rw [e]
            unfold lowC
            exact List.length_pos_iff.mpr (List.ne_nil_of_mem tl)
          · exact r2 e
        refine ⟨fun σ' H' => ∃ (kvs' : List (L2.Key × V)), σ' = [some (.ref x), some (VN l), some (VN (l % 2)), some (.ref D), some (.ref Wd), some (VN t), some (VN z)] ∧ Fz (A.mu jas) H H' ∧ RgV H' A jas s5 ∧ H' D = some (.dK kvs') ∧ H' Wd = some (.lst (ws5.map VN)) ∧ valV kvs' (Sum.inl (z : Int) : L2.Key) = some (VN (lowC d s5 z l - c2 d dn z)) ∧ (∀ x : Nat, x ≠ z → valV kvs' (Sum.inl (x : Int) : L2.Key) = valV kvs5 (Sum.inl (x : Int) : L2.Key)) ∧ kvs'.length ≤ kc d.mv.length kvs', ?_, ?_⟩
        · refine ⟨_, rfl, _, rfl, D, _, rfl, DGet.k (k := Sum.inl (z : Int)) eD5, _, rfl, ?_⟩
          by_cases e : c2 d dn z = 0
          · rw [if_pos e] at r1
            rw [r1]
            refine iteB_t rfl ⟨_, rfl, x, A.dx, _, rfl, im5.ins, noM _ _ _ _ _ _ _ _ (by decide +kernel), _, rfl, _, rfl, x, A, d, own, TN, jas, s5, z, l, rfl, v5'.to R f5, W5, hzn, fun H6 s6 => ⟨_, rfl, _, rfl, D, _, rfl, DPut.k (k := Sum.inl (z : Int)) (s6 _ _ eD5) (Nat.lt_of_le_of_lt hkl (by decide)), ?_⟩⟩
            have f6 := f5.nx s6
            have nDm : D ∉ A.mu jas := R.v.new nD
            refine ⟨_, rfl, f6.updN nD, (v5'.same s6).upd nDm, upd_same, by rw [upd_ne nDW.symm]; exact s6 _ _ eW5, by rw [valV_put, if_pos rfl, e, Nat.sub_zero], fun y hy => by rw [valV_put, if_neg (fun q => hy (by have := Sum.inl.inj q; omega))], kl_put hzn G5.kl⟩
          · rw [if_neg e] at r1
            rw [r1]
            exact iteB_f rfl ⟨kvs5, rfl, f5, v5', eD5, eW5, r1, fun _ _ => rfl, G5.kl⟩
        · rintro σ H6 ⟨kvs6, rfl, f6, v6, eD6, eW6, ez6, ek6, kl6⟩
          have hkl6 : kvs6.length ≤ 1000 := Nat.le_trans kl6 (Nat.le_trans (kc_n _ _) hn2)
          have g6 := DGet.k (k := Sum.inl (z : Int)) eD6
          rw [ez6] at g6
          refine ⟨_, rfl, _, rfl, D, _, rfl, g6, _, _, rfl, rfl, _, DPut.k (k := Sum.inl (z : Int)) eD6 (Nat.lt_of_le_of_lt hkl6 (by decide)), ?_⟩
          have ev : V.int ((lowC d s5 z l - c2 d dn z : Nat) - 1 : Int) = VN (lowC d s5 z l - (c2 d dn z + 1)) := by
            show V.int _ = V.int _
            congr 1
            omega
          rw [ev]
          have nDm : D ∉ A.mu jas := R.v.new nD
          have f7 := f6.updN (a := D) (o := .dK (putK kvs6 (Sum.inl (z : Int) : L2.Key) (VN (lowC d s5 z l - (c2 d dn z + 1))))) nD
          have v7 := v6.upd (a := D) (o := .dK (putK kvs6 (Sum.inl (z : Int) : L2.Key) (VN (lowC d s5 z l - (c2 d dn z + 1))))) nDm
          have eD7 := upd_same (H := H6) (a := D) (o := .dK (putK kvs6 (Sum.inl (z : Int) : L2.Key) (VN (lowC d s5 z l - (c2 d dn z + 1)))))
          have eW7 : (upd H6 D (.dK (putK kvs6 (Sum.inl (z : Int) : L2.Key) (VN (lowC d s5 z l - (c2 d dn z + 1)))))) Wd = some (.lst (ws5.map VN)) := by rw [upd_ne nDW.symm]; exact eW6
          generalize upd H6 D (.dK (putK kvs6 (Sum.inl (z : Int) : L2.Key) (VN (lowC d s5 z l - (c2 d dn z + 1))))) = H7 at f7 v7 eD7 eW7 ⊢
          have hv7 : valV (putK kvs6 (Sum.inl (z : Int) : L2.Key) (VN (lowC d s5 z l - (c2 d dn z + 1)))) (Sum.inl (z : Int) : L2.Key) = some (VN (lowC d s5 z l - (c2 d dn z + 1))) := by rw [valV_put, if_pos rfl]
          have hk7 : ∀ y : Nat, y ≠ z → valV (putK kvs6 (Sum.inl (z : Int) : L2.Key) (VN (lowC d s5 z l - (c2 d dn z + 1)))) (Sum.inl (y : Int) : L2.Key) = valV kvs5 (Sum.inl (y : Int) : L2.Key) := fun y hy => by rw [valV_put, if_neg (fun q => hy (by have := Sum.inl.inj q; omega))]; exact ek6 y hy
          have kl7 := kl_put (v := VN (lowC d s5 z l - (c2 d dn z + 1))) hzn kl6
          generalize putK kvs6 (Sum.inl (z : Int) : L2.Key) (VN (lowC d s5 z l - (c2 d dn z + 1))) = kvs7 at eD7 hv7 hk7 kl7
          have g7 := DGet.k (k := Sum.inl (z : Int)) eD7
          rw [hv7] at g7
          refine ⟨_, rfl, _, rfl, D, _, rfl, g7, _, _, rfl, rfl, _, rfl, ite2 (fun c => ?_) (fun c => ?_)⟩
          · have c := of_decide_eq_true c
            exact ⟨s5, kvs7, ws5, _, h5, rfl, f7, v7, eD7, eW7, G5.put hzd o htz tdn (by omega) hv7 hk7 kl7⟩
          · have c : ¬ (0 : Int) < ((lowC d s5 z l - (c2 d dn z + 1) : Nat) : Int) := fun q => c (decide_eq_true q)
            exact ⟨s5.ch, kvs7, rfl, f7, v7, eD7, eW7, W5.lc, fun _ _ => rfl, G5.I.cg z hzn, .inr ⟨o, G5.all htz tdn (by omega)⟩, hk7, kl7⟩
    · rintro σ H6 ⟨ch, kvs', rfl, f6, v6, eD6, eW6, c1, c2', c3, hh, hk, hkl'⟩
      have im6 := R.im H6 f6
      refine ⟨_, rfl, _, rfl, x, CR, A.dx, _, _, rfl, im6.ins, PR.cl, PR.nl, rgf_l _ _ _ _ _ _ _, _, rfl, A.lA, _, _, z, rfl, rfl, v6.lev, ixN_at (by rw [List.length_map, W5.lr]; exact hzn), ?_⟩
      rw [show (s5.r.map VN).set z (VN l) = (s5.r.set z l).map VN by rw [List.map_set]]
      have f7 : Fz (A.mu jas) H (upd H6 A.lA (.lst ((s5.r.set z l).map VN))) := f6.trans (Fz.upd mu_l) fun b hb => .inl hb
      have v7 : RgV (upd H6 A.lA (.lst ((s5.r.set z l).map VN))) A jas ⟨s5.r.set z l, ch, s5.jo⟩ := ((v6.to R f6).setL _).v
      have nD7 : A.lA ≠ D := fun e => R.v.new nD (by rw [← e]; exact mu_l)
      have nW7 : A.lA ≠ Wd := fun e => R.v.new nW0 (by rw [← e]; exact mu_l)
      have eD7 : (upd H6 A.lA (.lst ((s5.r.set z l).map VN))) D = some (.dK kvs') := by rw [upd_ne nD7.symm]; exact eD6
      have eW7 : (upd H6 A.lA (.lst ((s5.r.set z l).map VN))) Wd = some (.lst (ws5.map VN)) := by rw [upd_ne nW7.symm]; exact eW6
      generalize upd H6 A.lA (.lst ((s5.r.set z l).map VN)) = H7 at f7 v7 eD7 eW7 ⊢
      have im7 := R.im H7 f7
      have hjl := v7.jl
      have hjo : s5.jo.length = TN := W5.lj
      obtain ⟨ja, hja⟩ : ∃ a, jas[l]? = some a := ⟨_, List.getElem?_eq_getElem (by rw [hjl]; show l < s5.jo.length; omega)⟩
      have ej := v7.jr l ja hja
      have hjle : (s5.jo.getD l []).length ≤ d.mv.length := nd_len (W5.jd l hl) fun p hp => ((W5.jm l hl p).mp hp).1
      refine ⟨_, rfl, x, CR, A.dx, _, _, rfl, im7.ins, PR.cl, PR.nj, rgf_j _ _ _ _ _ _ _, _, rfl, A.jA, _, _, .ref ja, rfl, rfl, .of v7.jn, atN hja, .inl ⟨rfl, _, .of ej⟩, _, rfl, ja, _, _, rfl, rfl, ej, by rw [List.length_map]; exact Nat.lt_of_le_of_lt (show _ ≤ 1000 from Nat.le_trans hjle hn2) (by decide), ?_⟩
      rw [show (s5.jo.getD l []).map VN ++ [VN z] = (s5.jo.getD l [] ++ [z]).map VN by rw [List.map_append]; rfl]
      have f8 : Fz (A.mu jas) H (upd H7 ja (.lst ((s5.jo.getD l [] ++ [z]).map VN))) := f7.trans (Fz.upd (mu_r (List.mem_of_getElem? hja))) fun b hb => .inl hb
      have v8 : RgV (upd H7 ja (.lst ((s5.jo.getD l [] ++ [z]).map VN))) A jas (joinS s5 ch z l) := ((v7.to R f7).setJ hja _).v
      have nD8 : ja ≠ D := fun e => R.v.new nD (by rw [← e]; exact mu_r (List.mem_of_getElem? hja))
      have nW8 : ja ≠ Wd := fun e => R.v.new nW0 (by rw [← e]; exact mu_r (List.mem_of_getElem? hja))
      have eD8 : (upd H7 ja (.lst ((s5.jo.getD l [] ++ [z]).map VN))) D = some (.dK kvs') := by rw [upd_ne nD8.symm]; exact eD7
      have eW8 : (upd H7 ja (.lst ((s5.jo.getD l [] ++ [z]).map VN))) Wd = some (.lst (ws5.map VN)) := by rw [upd_ne nW8.symm]; exact eW7
      generalize upd H7 ja (.lst ((s5.jo.getD l [] ++ [z]).map VN)) = H8 at f8 v8 eD8 eW8 ⊢
      refine ⟨_, rfl, .inl ⟨rfl, _, .of eW8⟩, _, rfl, Wd, _, _, rfl, rfl, eW8, by rw [List.length_map]; exact Nat.lt_of_le_of_lt (show ws5.length ≤ 1000 by omega) (by decide), ?_⟩
      have hlc := lc_join (d := d) (ch := ch) (by rw [W5.lr]; exact hzn) hzn k
      refine ⟨joinS s5 ch z l, kvs', ws5 ++ [z], _, by rw [List.length_append, List.length_singleton]; omega, rfl, f8.updN nW0, v8.upd (R.v.new nW0), by rw [upd_ne nDW]; exact eD8, by rw [upd_same, List.map_append]; rfl, G5.join hl hzn k c1 c2' c3 hh hk hkl'⟩
theorem inV_nt (x : Nat) (ts : List Nat) : inV (VN x) (ts.map VN) = decide (x ∈ ts) := by
  rw [Bool.eq_iff_iff, decide_eq_true_iff]
  unfold inV
  rw [List.any_eq_true]
  constructor
  · rintro ⟨y, hy, h⟩
    obtain ⟨z, hz, rfl⟩ := List.mem_map.mp hy
    have : z = x := by
      have h' : ((z : Int) == (x : Int)) = true := by simpa [eqV, VN] using h
      have := of_decide_eq_true h'
      omega
    rw [← this]; exact hz
  · intro h
    exact ⟨VN x, List.mem_map.mpr ⟨x, h, rfl⟩, by simp [eqV, VN]⟩
theorem flat_nt : ∀ {ts : List Nat}, (ts.map VN).all flatV = true
  | [] => rfl
  | t :: ts => by rw [List.map_cons, List.all_cons, flat_nt]; rfl
theorem nt_int (us : List Nat) : us.map VN = (us.map fun q : Nat => (q : Int)).map V.int := by rw [List.map_map]; rfl
/-- a place from which the play may leave downwards -/
def OpA (d : Gd) (s : RSt) (l p : Nat) : Prop := (d.ow.getD p 0 = l % 2 ∧ ∀ q ∈ Gr.row d.mv p, s.f q ≠ l) ∨ (d.ow.getD p 0 ≠ l % 2 ∧ ∃ q ∈ Gr.row d.mv p, s.f q < l)
theorem opn_iff {d : Gd} {own : List Nat} {TN l : Nat} {s : RSt} (W : WF d own TN s) (lo : ∀ p, p < d.mv.length → own.getD p 0 ≤ s.f p) (hl : l < TN) : Pm.Opn (dG d own) s.f l ↔ ∃ p ∈ memS own TN s l, OpA d s l p := by
  constructor
  · rintro ⟨p, hp, e, h⟩
    exact ⟨p, (W.mem lo hl).mpr ⟨hp, e⟩, h⟩
  · rintro ⟨p, hm, h⟩
    obtain ⟨hp, e⟩ := (W.mem lo hl).mp hm
    exact ⟨p, hp, e, h⟩
def spOpen (CR CG : Addr) : Sp := fun vs H Q _ => ∃ (x : Addr) (A : RA) (d : Gd) (own : List Nat) (TN : Nat) (jas : List Addr) (s : RSt) (l : Nat), vs = [.ref x, VN l] ∧ RgAt CR CG H x A d own TN jas s ∧ WF d own TN s ∧ l < TN ∧
  ((∃ p ∈ memS own TN s l, OpA d s l p) → ∀ H', Same H H' → Q (.bl true) H') ∧ ((¬ ∃ p ∈ memS own TN s l, OpA d s l p) → ∀ H', Same H H' → Q (.bl false) H')
theorem ok_open {CR CG f fM : Addr} {fd fdM : FuncData} (T : Txt K mg) (PR : RegC K CR) (PC : GmeC K CG) (F : L2.Fun K "is_open" "Regions.is_open" s_Regions_is_open f fd)
    (ME_members : Meth K CR "members" fM) (F1 : L2.Fun K "members" "Regions.members" s_Regions_members fM fdM) (BI_members : Binds K fdM ["self", "level"] []) : FnOk P w K mg base CX0 2 f fd ["self", "level"] (spOpen CR CG) := by
  have FN_members := ok_mem (P := P) (w := w) (base := base) (CG := CG) T PR F1
  refine F.ok sc_Regions_is_open (fun vs H Q E h => ?_) (fun cdv A' outer s' H vs Q E hr h => ?_)
  · obtain ⟨_, _, _, _, _, _, _, _, rfl, _⟩ := h
    rfl
  · obtain ⟨x, A, d, own, TN, jas, s, l, rfl, R, W, hl, qt, qf⟩ := h
    refine ⟨_, (pss_cons
      (ps_for PassesOwn.never rfl (pi_list (pe_meth (pv 0) PR.cl ME_members FN_members (hr.mono (by decide)) BI_members .nil pass0 (pa_cons (pv 1) pa_nil))) (pg_name (i := 2) sc_Regions_is_open.nd rfl (.inl rfl)) (pss_cons
      (ps_setLc (i := 3) (own := [("target", 4)]) (g := gName 4) (tt := tYes) rfl sc_Regions_is_open.nd rfl rfl (sw_true rfl rfl rfl (by decide +kernel)) (pi_tup (pe_ix (ix_tupK (K := K) rfl) (pe_fld (pe_fld (pv 0) rfl) rfl) (pv 2) (fun _ _ => rfl))) (blkOk_by (N := N_Regions_is_open) (sc := defScope s_Regions_is_open) (by decide +kernel)) (fun _ _ _ _ _ => (pg_name (i := 4) sc_Regions_is_open.nd rfl (Or.inl rfl))) (fun _ _ _ _ _ => pts_nil) (fun _ _ _ _ _ => (pe_ix (ix_listK (K := K) rfl) (pe_fldK (K := K) rfl (pv 0) rfl) (pv 4) (fun _ _ => rfl))))
      (pss_one
      (ps_if (pt_cmpR op_eq (pe_ix (ix_tupK (K := K) rfl) (pe_fld (pe_fld (pv 0) rfl) rfl) (pv 2) (fun _ _ => rfl)) (pe_op op_mod (pv 1) pe_int) (nomark _)) (pss_one
      (ps_if (pt_cmpR (op_notInK (K := K) rfl) (pv 1) (pv 3) (by rfl)) (pss_one
      (ps_ret pe_bl)) pss_nil)) (pss_one
      (ps_if (pt_cmpR op_lt (pe_callB (call_minK (K := K) rfl rfl) (by rfl) T.z_min (by decide +kernel) (pa_cons (pv 3) pa_nil)) (pv 1) (nomark _)) (pss_one
      (ps_ret pe_bl)) pss_nil))))))
      (pss_one
      (ps_ret pe_bl))), ?_⟩
    have hn2 := W.ok.n2
    have hms : ∀ p ∈ memS own TN s l, p < d.mv.length := fun p hp => by
      unfold memS at hp
      rcases List.mem_append.mp (List.mem_filter.mp hp).1 with a | a
      · exact ((W.nat_mem hl).mp a).1
      · exact ((W.jm l hl p).mp a).1
    refine ⟨_, rfl, x, A.dx, _, rfl, R.i.ins, noM _ _ _ _ _ _ _ _ (by decide +kernel), _, rfl, x, A, d, own, TN, jas, s, l, rfl, R, W, hl, fun H1 p s1 np ep => ?_⟩
    generalize memS own TN s l = ms at ep hms qt qf ⊢
    refine ⟨p, rfl, ⟨_, .of ep⟩, for_list (K := K) (a := p) (xs := ms.map VN) (fun i σ H' => ∃ v2 v3 v4 : Option V, σ = [some (.ref x), some (VN l), v2, v3, v4] ∧ Same H1 H' ∧ ∀ m ∈ ms.take i, ¬ OpA d s l m) ⟨none, none, none, rfl, Same.refl _, by simp⟩ (fun i σ H' _ ⟨_, _, _, _, z, _⟩ => .of (z _ _ ep)) ?_ ?_⟩
    · rintro i v σ H2 hi ⟨v2, v3, v4, rfl, s2, hno⟩
      obtain ⟨m, hm, rfl⟩ := nats_get hi
      have hmm := List.mem_of_getElem? hm
      have hmn := hms m hmm
      have s02 := s1.trans s2
      have R2 := R.same s02
      have I2 := R2.i
      obtain ⟨gx, ot, pt, rt, g1, g2, g3, as, g4, g5, g6⟩ := I2.gm
      obtain ⟨a, ha⟩ : ∃ a, as[m]? = some a := ⟨_, List.getElem?_eq_getElem (by omega)⟩
      have ea := g6 m a ha
      have hrl := W.row_len m
      refine ⟨_, rfl, x, CR, A.dx, _, _, rfl, I2.ins, PR.cl, PR.ng, rgf_g _ _ _ _ _ _ _, A.gA, CG, gx, _, _, rfl, g1, PC.cl, PC.nm, gf_m _ _ _, _, rfl, rt, _, _, .ref a, rfl, rfl, .of g4, atN ha, a, rfl, ⟨_, .of ea⟩, fun D nD => lc_tup (K := K) (a := a) (xs := (Gr.row d.mv m).map VN) (fun i H' => Same H2 H' ∧ H' D = some (.lst ((((Gr.row d.mv m).take i).map s.f).map VN))) ⟨same_new nD, upd_same⟩ (fun i H' _ z => .of (z.1 _ _ ea)) ?_ ?_⟩
      · rintro j v H3 hj ⟨s3, e3⟩
        obtain ⟨u, hu, rfl⟩ := nats_get hj
        have hun := W.ok.rg m u (List.mem_of_getElem? hu)
        have hjl := lt_of_get hu
        refine ⟨rfl, _, rfl, x, CR, A.dx, _, _, rfl, s3 _ _ I2.ins, PR.cl, PR.nl, rgf_l _ _ _ _ _ _ _, _, rfl, A.lA, _, _, VN (s.f u), rfl, rfl, .of (s3 _ _ R2.lev), atN (W.at hun), _, e3, ?_, fun b o hb => by rw [upd_ne (ne_of_none hb nD)]; exact s3 _ _ hb, by rw [upd_same, take_succ' hu, List.map_append, List.map_append]; rfl⟩
        rw [List.length_map, List.length_map, List.length_take]
        exact Nat.lt_of_le_of_lt (show _ ≤ 1000 by omega) (by decide)
      rintro H3 ⟨s3, e3⟩
      rw [List.length_map, List.take_length] at e3
      have s03 := s02.trans s3
      have how := W.ok.lo
      refine ⟨_, rfl, x, CR, A.dx, _, _, rfl, s3 _ _ I2.ins, PR.cl, PR.ng, rgf_g _ _ _ _ _ _ _, A.gA, CG, gx, _, _, rfl, s3 _ _ g1, PC.cl, PC.no, gf_o _ _ _, _, rfl, ot, _, _, VN (d.ow.getD m 0), rfl, rfl, .of (s3 _ _ g2), atN (getD_n (by omega)), _, rfl, _, _, rfl, rfl, (by omega), rfl, _, rfl, ite_eq (fun o => ?_) (fun o => ?_)⟩
      · have o : d.ow.getD m 0 = l % 2 := by omega
        refine ⟨_, rfl, _, rfl, D, _, rfl, .inl (.of e3), rfl, flat_nt, ?_⟩
        rw [if_pos rfl, inV_nt]
        refine ⟨_, rfl, ?_⟩
        by_cases c : l ∈ (Gr.row d.mv m).map s.f
        · rw [decide_eq_true c]
          refine iteF ⟨_, _, _, rfl, s2.trans s3, fun m' hm' => ?_⟩
          rw [take_succ' hm] at hm'
          rcases List.mem_append.mp hm' with y | y
          · exact hno m' y
          · rw [List.mem_singleton.mp y]
            rintro (⟨_, h⟩ | ⟨h, _⟩)
            · obtain ⟨q, hq, e⟩ := List.mem_map.mp c
              exact h q hq e
            · exact h o
        · rw [decide_eq_false c]
          exact iteT (qt ⟨m, hmm, .inl ⟨o, fun q hq e => c (List.mem_map.mpr ⟨q, hq, e⟩)⟩⟩ H3 s03)
      · have o : d.ow.getD m 0 ≠ l % 2 := fun e => o (by omega)
        have e3' : H3 D = some (.lst ((((Gr.row d.mv m).map s.f).map fun q : Nat => (q : Int)).map V.int)) := by rw [e3, nt_int]
        have hne : 0 < (Gr.row d.mv m).length := List.length_pos_iff.mpr (W.ok.ne m hmn)
        refine ⟨_, rfl, D, _, rfl, .of e3', by simp only [List.length_map]; omega, fun mn hmn' hmin => ⟨_, rfl, _, _, rfl, rfl, _, rfl, ite2 (fun c => ?_) (fun c => ?_)⟩⟩
        · have c := of_decide_eq_true c
          refine qt ⟨m, hmm, .inr ⟨o, ?_⟩⟩ H3 s03
          obtain ⟨k, hk, ek⟩ := List.mem_map.mp hmn'
          obtain ⟨q, hq, eq⟩ := List.mem_map.mp hk
          exact ⟨q, hq, by omega⟩
        · have c : ¬ mn < (l : Int) := fun z => c (decide_eq_true z)
          refine ⟨_, _, _, rfl, s2.trans s3, fun m' hm' => ?_⟩
          rw [take_succ' hm] at hm'
          rcases List.mem_append.mp hm' with y | y
          · exact hno m' y
          · rw [List.mem_singleton.mp y]
            rintro (⟨h, _⟩ | ⟨_, q, hq, h⟩)
            · exact o h
            · have := hmin (s.f q : Int) (List.mem_map.mpr ⟨s.f q, List.mem_map.mpr ⟨q, hq, rfl⟩, rfl⟩)
              omega
    rintro σ H2 ⟨v2, v3, v4, rfl, s2, hno⟩
    rw [List.length_map, List.take_length] at hno
    exact qf (fun ⟨m, hm, h⟩ => hno m hm h) H2 (s1.trans s2)

def spExits (CR CG : Addr) : Sp := fun vs H Q _ => ∃ (x : Addr) (A : RA) (d : Gd) (own : List Nat) (TN : Nat) (jas : List Addr) (s : RSt) (l : Nat), vs = [.ref x, VN l] ∧ RgAt CR CG H x A d own TN jas s ∧ WF d own TN s ∧ l < TN ∧
  ∀ (H' : Hp) (p : Addr) (es : List Nat), Same H H' → H' p = some (.lst (es.map VN)) → (∀ z, z ∈ es ↔ ∃ m ∈ memS own TN s l, d.ow.getD m 0 ≠ l % 2 ∧ ∃ q ∈ Gr.row d.mv m, s.f q = z ∧ l < z) → Q (.ref p) H'
theorem ok_exits {CR CG f fM : Addr} {fd fdM : FuncData} (T : Txt K mg) (PR : RegC K CR) (PC : GmeC K CG) (F : L2.Fun K "exits" "Regions.exits" s_Regions_exits f fd)
    (ME_members : Meth K CR "members" fM) (F1 : L2.Fun K "members" "Regions.members" s_Regions_members fM fdM) (BI_members : Binds K fdM ["self", "level"] []) : FnOk P w K mg base CX0 2 f fd ["self", "level"] (spExits CR CG) := by
  have FN_members := ok_mem (P := P) (w := w) (base := base) (CG := CG) T PR F1
  refine F.ok sc_Regions_exits (fun vs H Q E h => ?_) (fun cdv A' outer s' H vs Q E hr h => ?_)
  · obtain ⟨_, _, _, _, _, _, _, _, rfl, _⟩ := h
    rfl
  · obtain ⟨x, A, d, own, TN, jas, s, l, rfl, R, W, hl, q⟩ := h
    refine ⟨_, (pss_cons
      (ps_set (i := 2) sc_Regions_exits.nd rfl (Or.inl rfl) (pe_lst pa_nil))
      (pss_cons
      (ps_for PassesOwn.never rfl (pi_list (pe_meth (pv 0) PR.cl ME_members FN_members (hr.mono (by decide)) BI_members .nil pass0 (pa_cons (pv 1) pa_nil))) (pg_name (i := 3) sc_Regions_exits.nd rfl (.inl rfl)) (pss_one
      (ps_if (pt_cmpR op_ne (pe_ix (ix_tupK (K := K) rfl) (pe_fld (pe_fld (pv 0) rfl) rfl) (pv 3) (fun _ _ => rfl)) (pe_op op_mod (pv 1) pe_int) (nomark _)) (pss_one
      (ps_expr (pe_bm PySem.F.plainAttrs_list PySem.F.slot_list_extend PySem.F.type_list_extend mt_extend (pv 2) (pa_cons (pe_lc (own := [("target", 4)]) (g := gName 4) rfl sc_Regions_exits.nd (pi_tup (pe_ix (ix_tupK (K := K) rfl) (pe_fld (pe_fld (pv 0) rfl) rfl) (pv 3) (fun _ _ => rfl))) (blkOk_by (N := N_Regions_exits) (sc := defScope s_Regions_exits) (by decide +kernel)) (fun _ _ _ _ _ => (pg_name (i := 4) sc_Regions_exits.nd rfl (Or.inl rfl))) (fun _ _ _ _ _ => (pts_one (pt_cmpR op_gt (pe_ix (ix_listK (K := K) rfl) (pe_fldK (K := K) rfl (pv 0) rfl) (pv 4) (fun _ _ => rfl)) (pv 1) (nomark _)))) (fun _ _ _ _ _ => (pe_ix (ix_listK (K := K) rfl) (pe_fldK (K := K) rfl (pv 0) rfl) (pv 4) (fun _ _ => rfl)))) pa_nil)))) pss_nil)))
      (pss_one
      (ps_ret (pv 2))))), ?_⟩
    have hn2 := W.ok.n2
    have hml := W.mem_len hl
    have hms : ∀ p ∈ memS own TN s l, p < d.mv.length := fun p hp => by
      unfold memS at hp
      rcases List.mem_append.mp (List.mem_filter.mp hp).1 with a | a
      · exact ((W.nat_mem hl).mp a).1
      · exact ((W.jm l hl p).mp a).1
    refine ⟨Nat.zero_le _, fun L nL => ?_⟩
    generalize hX : upd H L _ = H0; obtain ⟨sH0, eL⟩ := nw nL hX; clear hX
    have R0 := R.same sH0
    refine ⟨_, rfl, x, A.dx, _, rfl, R0.i.ins, noM _ _ _ _ _ _ _ _ (by decide +kernel), _, rfl, x, A, d, own, TN, jas, s, l, rfl, R0, W, hl, fun H1 p s1 np ep => ?_⟩
    have eL1 := s1 _ _ eL
    have npL : p ≠ L := fun z => by rw [z, eL] at np; cases np
    have s01 := sH0.trans s1
    generalize memS own TN s l = ms at ep hms hml q ⊢
    refine ⟨p, rfl, ⟨_, .of ep⟩, for_list (K := K) (a := p) (xs := ms.map VN) (fun i σ H' => ∃ (v3 v4 : Option V) (es : List Nat), σ = [some (.ref x), some (VN l), some (.ref L), v3, v4] ∧ (∀ b o, b ≠ L → H1 b = some o → H' b = some o) ∧ H' L = some (.lst (es.map VN)) ∧ es.length ≤ 1000 * i ∧ ∀ z, z ∈ es ↔ ∃ m ∈ ms.take i, d.ow.getD m 0 ≠ l % 2 ∧ ∃ q ∈ Gr.row d.mv m, s.f q = z ∧ l < z) ⟨none, none, [], rfl, fun _ _ _ h => h, eL1, Nat.zero_le _, fun z => ⟨fun h => (by cases h), fun ⟨m, hm, _⟩ => (by rw [List.take_zero] at hm; cases hm)⟩⟩ (fun i σ H' _ ⟨_, _, _, _, z, _⟩ => .of (z _ _ npL ep)) ?_ ?_⟩
    · rintro i v σ H2 hi ⟨v3, v4, es, rfl, k2, e2, l2, hes⟩
      obtain ⟨m, hm, rfl⟩ := nats_get hi
      have hmm := List.mem_of_getElem? hm
      have hmn := hms m hmm
      have hil := lt_of_get hm
      have s02 : Same H H2 := fun b o hb => k2 _ _ (ne_of_none hb nL) (s01 _ _ hb)
      have R2 := R.same s02
      have I2 := R2.i
      obtain ⟨gx, ot, pt, rt, g1, g2, g3, as, g4, g5, g6⟩ := I2.gm
      obtain ⟨a, ha⟩ : ∃ a, as[m]? = some a := ⟨_, List.getElem?_eq_getElem (by omega)⟩
      have ea := g6 m a ha
      have hrl := W.row_len m
      have how := W.ok.lo
      refine ⟨_, rfl, x, CR, A.dx, _, _, rfl, I2.ins, PR.cl, PR.ng, rgf_g _ _ _ _ _ _ _, A.gA, CG, gx, _, _, rfl, g1, PC.cl, PC.no, gf_o _ _ _, _, rfl, ot, _, _, VN (d.ow.getD m 0), rfl, rfl, .of g2, atN (getD_n (by omega)), _, rfl, _, _, rfl, rfl, (by omega), rfl, _, rfl, ite_ne (fun o => ?_) (fun o => ?_)⟩
      case refine_2 =>
        refine ⟨_, _, es, rfl, k2, e2, by rw [Nat.mul_add]; omega, fun z => ?_⟩
        rw [hes z, take_succ' hm]
        constructor
        · rintro ⟨m', h1, h2⟩
          exact ⟨m', List.mem_append_left _ h1, h2⟩
        · rintro ⟨m', h1, h2⟩
          rcases List.mem_append.mp h1 with y | y
          · exact ⟨m', y, h2⟩
          · rw [List.mem_singleton.mp y] at h2
            exact absurd (by omega : d.ow.getD m 0 = l % 2) h2.1
      have o : d.ow.getD m 0 ≠ l % 2 := fun e => o (by omega)
      refine ⟨_, rfl, .inl ⟨rfl, _, .of e2⟩, _, rfl, x, CR, A.dx, _, _, rfl, I2.ins, PR.cl, PR.ng, rgf_g _ _ _ _ _ _ _, A.gA, CG, gx, _, _, rfl, g1, PC.cl, PC.nm, gf_m _ _ _, _, rfl, rt, _, _, .ref a, rfl, rfl, .of g4, atN ha, a, rfl, ⟨_, .of ea⟩, fun D nD => ?_⟩
      have nDL : D ≠ L := fun z => by rw [z, e2] at nD; cases nD
      refine lc_tup (K := K) (a := a) (xs := (Gr.row d.mv m).map VN) (fun i H' => Same H2 H' ∧ H' D = some (.lst (((((Gr.row d.mv m).take i).filter fun q => decide (l < s.f q)).map s.f).map VN))) ⟨same_new nD, upd_same⟩ (fun i H' _ z => .of (z.1 _ _ ea)) ?_ ?_
      · rintro j v H3 hj ⟨s3, e3⟩
        obtain ⟨u, hu, rfl⟩ := nats_get hj
        have hun := W.ok.rg m u (List.mem_of_getElem? hu)
        have hjl := lt_of_get hu
        refine ⟨rfl, _, rfl, x, CR, A.dx, _, _, rfl, s3 _ _ I2.ins, PR.cl, PR.nl, rgf_l _ _ _ _ _ _ _, _, rfl, A.lA, _, _, VN (s.f u), rfl, rfl, .of (s3 _ _ R2.lev), atN (W.at hun), _, rfl, _, _, rfl, rfl, _, rfl, ?_⟩
        rw [take_succ' hu, List.filter_append]
        by_cases c : l < s.f u
        · refine iteB_t (decide_eq_true (Int.ofNat_lt.mpr c)) ⟨_, rfl, x, CR, A.dx, _, _, rfl, s3 _ _ I2.ins, PR.cl, PR.nl, rgf_l _ _ _ _ _ _ _, _, rfl, A.lA, _, _, VN (s.f u), rfl, rfl, .of (s3 _ _ R2.lev), atN (W.at hun), _, e3, ?_, fun b o hb => by rw [upd_ne (ne_of_none hb nD)]; exact s3 _ _ hb, ?_⟩
          · rw [List.length_map, List.length_map]
            have h1 := List.length_filter_le (fun q => decide (l < s.f q)) ((Gr.row d.mv m).take j)
            rw [List.length_take] at h1
            exact Nat.lt_of_le_of_lt (show _ ≤ 1000 by omega) (by decide)
          · rw [upd_same, List.filter_cons_of_pos (by simpa using c), List.filter_nil, List.map_append, List.map_append]
            rfl
        · refine iteB_f (decide_eq_false fun z => c (Int.ofNat_lt.mp z)) ⟨s3, ?_⟩
          rw [List.filter_cons_of_neg (by simpa using c), List.filter_nil, List.append_nil]
          exact e3
      rintro H3 ⟨s3, e3⟩
      rw [List.length_map, List.take_length] at e3
      have hf := List.length_filter_le (fun q => decide (l < s.f q)) (Gr.row d.mv m)
      have eL3 := s3 _ _ e2
      refine ⟨L, D, _, _, rfl, rfl, eL3, e3, by rw [List.length_map, List.length_map, List.length_map]; exact Nat.le_trans (show _ ≤ 1001000 by omega) (by decide), ?_⟩
      rw [← List.map_append]
      refine ⟨_, _, _, rfl, fun b u nb hb => by rw [upd_ne nb]; exact s3 _ _ (k2 _ _ nb hb), upd_same, by rw [List.length_append, List.length_map]; omega, fun z => ?_⟩
      rw [List.mem_append, hes z, take_succ' hm]
      constructor
      · rintro (⟨m', h1, h2⟩ | h)
        · exact ⟨m', List.mem_append_left _ h1, h2⟩
        · obtain ⟨q', hq, e⟩ := List.mem_map.mp h
          obtain ⟨h1, h2⟩ := List.mem_filter.mp hq
          have h2 := of_decide_eq_true h2
          exact ⟨m, List.mem_append_right _ (List.mem_singleton.mpr rfl), o, q', h1, e, by omega⟩
      · rintro ⟨m', h1, h2⟩
        rcases List.mem_append.mp h1 with y | y
        · exact .inl ⟨m', y, h2⟩
        · rw [List.mem_singleton.mp y] at h2
          obtain ⟨_, q', hq, e, h3⟩ := h2
          exact .inr (List.mem_map.mpr ⟨q', List.mem_filter.mpr ⟨hq, decide_eq_true (by omega)⟩, e⟩)
    rintro σ H2 ⟨v3, v4, es, rfl, k2, e2, l2, hes⟩
    rw [List.length_map, List.take_length] at hes
    have s02 : Same H H2 := fun b o hb => k2 _ _ (ne_of_none hb nL) (s01 _ _ hb)
    exact ⟨_, rfl, q H2 L es s02 e2 hes⟩
/-- the choices are made where there was none -/
def spChoose (CR CG : Addr) : Sp := fun vs H Q _ => ∃ (x : Addr) (A : RA) (d : Gd) (own : List Nat) (TN : Nat) (jas : List Addr) (s : RSt) (l : Nat), vs = [.ref x, VN l] ∧ RgAt CR CG H x A d own TN jas s ∧ WF d own TN s ∧ l < TN ∧ Pm.Inv (dG d own) (TN - 1) s.f s.c l ∧ (¬ ∃ p ∈ memS own TN s l, OpA d s l p) ∧
  ∀ (H' : Hp) (ch : List Int), Fz (A.mu jas) H H' → RgAt CR CG H' x A d own TN jas ⟨s.r, ch, s.jo⟩ → WF d own TN ⟨s.r, ch, s.jo⟩ → Pm.Chosen (dG d own) s.f s.c (RSt.c ⟨s.r, ch, s.jo⟩) l → Q .non H'
theorem ok_choose {CR CG f fM : Addr} {fd fdM : FuncData} (T : Txt K mg) (PR : RegC K CR) (PC : GmeC K CG) (F : L2.Fun K "choose" "Regions.choose" s_Regions_choose f fd)
    (ME_members : Meth K CR "members" fM) (F1 : L2.Fun K "members" "Regions.members" s_Regions_members fM fdM) (BI_members : Binds K fdM ["self", "level"] []) : FnOk P w K mg base CX0 2 f fd ["self", "level"] (spChoose CR CG) := by
  have FN_members := ok_mem (P := P) (w := w) (base := base) (CG := CG) T PR F1
  refine F.ok sc_Regions_choose (fun vs H Q E h => ?_) (fun cdv A' outer s' H vs Q E hr h => ?_)
  · obtain ⟨_, _, _, _, _, _, _, _, rfl, _⟩ := h
    rfl
  · obtain ⟨x, A, d, own, TN, jas, s, l, rfl, R, W, hl, I, no, q⟩ := h
    refine ⟨_, (pss_one
      (ps_for PassesOwn.never rfl (pi_list (pe_meth (pv 0) PR.cl ME_members FN_members (hr.mono (by decide)) BI_members .nil pass0 (pa_cons (pv 1) pa_nil))) (pg_name (i := 2) sc_Regions_choose.nd rfl (.inl rfl)) (pss_one
      (ps_if (PW.pt (pw_and (pt_cmpR op_eq (pe_ix (ix_tupK (K := K) rfl) (pe_fld (pe_fld (pv 0) rfl) rfl) (pv 2) (fun _ _ => rfl)) (pe_op op_mod (pv 1) pe_int) (nomark _)) (pw_and1 (pt_cmpR op_lt (pe_ix (ix_listK (K := K) rfl) (pe_fld (pv 0) rfl) (pv 2) (fun _ _ => rfl)) pe_int (nomark _))))) (pss_cons
      (ps_setLc (i := 3) (own := [("target", 4)]) (g := gName 4) rfl sc_Regions_choose.nd rfl rfl (sw_true rfl rfl rfl (by decide +kernel)) (pi_tup (pe_ix (ix_tupK (K := K) rfl) (pe_fld (pe_fld (pv 0) rfl) rfl) (pv 2) (fun _ _ => rfl))) (blkOk_by (N := N_Regions_choose) (sc := defScope s_Regions_choose) (by decide +kernel)) (fun _ _ _ _ _ => (pg_name (i := 4) sc_Regions_choose.nd rfl (Or.inl rfl))) (fun _ _ _ _ _ => (pts_one (pt_cmpR op_eq (pe_ix (ix_listK (K := K) rfl) (pe_fldK (K := K) rfl (pv 0) rfl) (pv 4) (fun _ _ => rfl)) (pv 1) (nomark _)))) (fun _ _ _ _ _ => (pv 4)))
      (pss_one
      (ps_asg (pe_ix (ix_listK (K := K) rfl) (pv 3) pe_int (fun _ _ => rfl)) (pg_sub (pe_fld (pv 0) rfl) (pv 2) set_list)))) pss_nil)))), ?_⟩
    have hn2 := W.ok.n2
    have hmem := fun p => W.mem (fun q hq => (I.lv q hq).1) hl (p := p)
    have hnd := W.mem_nd hl
    refine ⟨_, rfl, x, A.dx, _, rfl, R.i.ins, noM _ _ _ _ _ _ _ _ (by decide +kernel), _, rfl, x, A, d, own, TN, jas, s, l, rfl, R, W, hl, fun H1 p s1 np ep => ?_⟩
    generalize memS own TN s l = ms at ep hmem hnd no q ⊢
    have npm := R.v.new np
    refine ⟨p, rfl, ⟨_, .of ep⟩, for_list (K := K) (a := p) (xs := ms.map VN) (fun i σ H' => ∃ (v2 v3 v4 : Option V) (ch : List Int), σ = [some (.ref x), some (VN l), v2, v3, v4] ∧ Fz (A.mu jas) H H' ∧ Fz (A.mu jas) H1 H' ∧ RgV H' A jas ⟨s.r, ch, s.jo⟩ ∧ ch.length = d.mv.length ∧ (∀ p, p < d.mv.length → (p ∉ ms.take i ∨ own.getD p 0 < s.f p) → ch.getD p (-1) = s.c p) ∧ (∀ p, p < d.mv.length → -1 ≤ ch.getD p (-1)) ∧ ∀ m ∈ ms.take i, d.ow.getD m 0 = l % 2 → ∃ q : Nat, ch.getD m (-1) = (q : Int) ∧ q ∈ Gr.row d.mv m ∧ s.f q = l) ⟨none, none, none, s.ch, rfl, .of s1, Fz.refl, R.v.same s1, W.lc, fun _ _ _ => rfl, I.cg, by simp⟩ (fun i σ H' _ ⟨_, _, _, _, _, _, z, _⟩ => .of (z _ _ npm ep)) ?_ ?_⟩
    · rintro i v σ H2 hi ⟨v2, v3, v4, ch, rfl, f2, g2', v2', lc, hch, hch1, hdo⟩
      obtain ⟨m, hm, rfl⟩ := nats_get hi
      have hil := lt_of_get hm
      have hmm := List.mem_of_getElem? hm
      obtain ⟨hmn, hml⟩ := (hmem m).mp hmm
      have hmt : m ∉ ms.take i := fun z => by
        obtain ⟨j, hj⟩ := List.mem_iff_getElem?.mp z
        rw [List.getElem?_take] at hj
        split at hj
        · rename_i hji
          have := nd_inj hnd hj hm
          omega
        · cases hj
      have ecm := hch m hmn (.inl hmt)
      have im := R.im H2 f2
      obtain ⟨gx, ot, pt, rt, g1, g2, g3, as, g4, g5, g6⟩ := im.gm
      obtain ⟨a, ha⟩ : ∃ a, as[m]? = some a := ⟨_, List.getElem?_eq_getElem (by omega)⟩
      have ea := g6 m a ha
      have hrl := W.row_len m
      have how := W.ok.lo
      have keep : (d.ow.getD m 0 = l % 2 → ∃ q : Nat, ch.getD m (-1) = (q : Int) ∧ q ∈ Gr.row d.mv m ∧ s.f q = l) → ∃ (v2' v3' v4' : Option V) (ch' : List Int), ([some (.ref x), some (VN l), some (VN m), v3, v4] : L2.St) = [some (.ref x), some (VN l), v2', v3', v4'] ∧ Fz (A.mu jas) H H2 ∧ Fz (A.mu jas) H1 H2 ∧ RgV H2 A jas ⟨s.r, ch', s.jo⟩ ∧ ch'.length = d.mv.length ∧ (∀ p, p < d.mv.length → (p ∉ ms.take (i + 1) ∨ own.getD p 0 < s.f p) → ch'.getD p (-1) = s.c p) ∧ (∀ p, p < d.mv.length → -1 ≤ ch'.getD p (-1)) ∧ ∀ m ∈ ms.take (i + 1), d.ow.getD m 0 = l % 2 → ∃ q : Nat, ch'.getD m (-1) = (q : Int) ∧ q ∈ Gr.row d.mv m ∧ s.f q = l := fun hq => by
        refine ⟨_, _, _, ch, rfl, f2, g2', v2', lc, fun p hp h => hch p hp (h.imp_left fun z y => z (by rw [take_succ' hm]; exact List.mem_append_left _ y)), hch1, fun m' hm' o => ?_⟩
        rw [take_succ' hm] at hm'
        rcases List.mem_append.mp hm' with y | y
        · exact hdo m' y o
        · rw [List.mem_singleton.mp y] at o ⊢; exact hq o
      refine ⟨_, rfl, x, CR, A.dx, _, _, rfl, im.ins, PR.cl, PR.ng, rgf_g _ _ _ _ _ _ _, A.gA, CG, gx, _, _, rfl, g1, PC.cl, PC.no, gf_o _ _ _, _, rfl, ot, _, _, VN (d.ow.getD m 0), rfl, rfl, .of g2, atN (getD_n (by omega)), _, rfl, _, _, rfl, rfl, (by omega), rfl, _, rfl, ite_eq (fun o => ?_) (fun o => ?_)⟩
      case refine_2 =>
        have := keep fun e => absurd (by omega) o
        exact iteB_f rfl this
      have o : d.ow.getD m 0 = l % 2 := by omega
      have ec : ch[m]? = some (ch.getD m (-1)) := getD_i (by omega)
      refine ⟨_, rfl, x, CR, A.dx, _, _, rfl, im.ins, PR.cl, PR.nc, rgf_c _ _ _ _ _ _ _, _, rfl, A.cA, _, _, .int (ch.getD m (-1)), rfl, rfl, .of v2'.cho, atN ec, _, _, rfl, rfl, _, rfl, ite2 (fun c => ?_) (fun c => ?_)⟩
      case refine_2 =>
        refine keep fun _ => ?_
        have c : ¬ ch.getD m (-1) < 0 := fun z => c (decide_eq_true z)
        have hlv := (I.lv m hmn).1
        have hnn : own.getD m 0 < s.f m := by
          rcases Nat.lt_or_eq_of_le hlv with h | h
          · exact h
          · exfalso
            have := I.lowc m hmn h.symm
            rw [ecm, this] at c
            exact c (by decide)
        obtain ⟨q', q1, q2, q3⟩ := (I.A m hmn (by omega) hnn).1 (by rw [hml]; exact o)
        exact ⟨q', by rw [ecm]; exact q1, q2, by rw [q3, hml]⟩
      have c := of_decide_eq_true c
      -- there is none yet
      refine ⟨_, rfl, x, CR, A.dx, _, _, rfl, im.ins, PR.cl, PR.ng, rgf_g _ _ _ _ _ _ _, A.gA, CG, gx, _, _, rfl, g1, PC.cl, PC.nm, gf_m _ _ _, _, rfl, rt, _, _, .ref a, rfl, rfl, .of g4, atN ha, a, rfl, ⟨_, .of ea⟩, fun D nD => lc_tup (K := K) (a := a) (xs := (Gr.row d.mv m).map VN) (fun i H' => Same H2 H' ∧ H' D = some (.lst ((((Gr.row d.mv m).take i).filter fun q => decide (s.f q = l)).map VN))) ⟨same_new nD, upd_same⟩ (fun i H' _ z => .of (z.1 _ _ ea)) ?_ ?_⟩
      · rintro j v H3 hj ⟨s3, e3⟩
        obtain ⟨u, hu, rfl⟩ := nats_get hj
        have hun := W.ok.rg m u (List.mem_of_getElem? hu)
        have hjl := lt_of_get hu
        refine ⟨rfl, _, rfl, x, CR, A.dx, _, _, rfl, s3 _ _ im.ins, PR.cl, PR.nl, rgf_l _ _ _ _ _ _ _, _, rfl, A.lA, _, _, VN (s.f u), rfl, rfl, .of (s3 _ _ v2'.lev), atN (W.at hun), _, rfl, rfl, _, rfl, ?_⟩
        rw [take_succ' hu, List.filter_append]
        by_cases c : s.f u = l
        · refine iteB_t (by rw [c]; exact decide_eq_true rfl) ⟨_, rfl, _, e3, ?_, fun b o hb => by rw [upd_ne (ne_of_none hb nD)]; exact s3 _ _ hb, ?_⟩
          · rw [List.length_map]
            have h1 := List.length_filter_le (fun q => decide (s.f q = l)) ((Gr.row d.mv m).take j)
            rw [List.length_take] at h1
            exact Nat.lt_of_le_of_lt (show _ ≤ 1000 by omega) (by decide)
          · rw [upd_same, List.filter_cons_of_pos (by simpa using c), List.filter_nil, List.map_append]
            rfl
        · refine iteB_f (decide_eq_false fun z => c (by have := V.int.inj z; omega)) ⟨s3, ?_⟩
          rw [List.filter_cons_of_neg (by simpa using c), List.filter_nil, List.append_nil]
          exact e3
      rintro H3 ⟨s3, e3⟩
      rw [List.length_map, List.take_length] at e3
      obtain ⟨q0, r0, ei⟩ : ∃ q0 r0, ((Gr.row d.mv m).filter fun q => decide (s.f q = l)) = q0 :: r0 := by
        cases e : (Gr.row d.mv m).filter fun q => decide (s.f q = l) with
        | cons a b => exact ⟨a, b, rfl⟩
        | nil =>
          exfalso
          refine no ⟨m, hmm, .inl ⟨o, fun q hq e2 => ?_⟩⟩
          have : q ∈ (Gr.row d.mv m).filter fun q => decide (s.f q = l) := List.mem_filter.mpr ⟨hq, decide_eq_true e2⟩
          rw [e] at this
          cases this
      have hq0 : q0 ∈ (Gr.row d.mv m).filter fun q => decide (s.f q = l) := by rw [ei]; simp
      obtain ⟨hq1, hq2⟩ := List.mem_filter.mp hq0
      have hq2 := of_decide_eq_true hq2
      rw [ei] at e3
      have v3' := v2'.same s3
      have f3 := f2.nx s3
      refine ⟨_, rfl, D, _, _, VN q0, rfl, rfl, .of e3, atI_nat (j := 0) rfl, ?_⟩
      refine ⟨_, rfl, x, CR, A.dx, _, _, rfl, s3 _ _ im.ins, PR.cl, PR.nc, rgf_c _ _ _ _ _ _ _, _, rfl, A.cA, _, _, m, rfl, rfl, v3'.cho, ixN_at (by rw [List.length_map, lc]; exact hmn), ?_⟩
      rw [show (ch.map V.int).set m (VN q0) = (ch.set m (q0 : Int)).map V.int by rw [List.map_set]]
      have hzc : m < ch.length := by rw [lc]; exact hmn
      refine ⟨_, _, _, ch.set m (q0 : Int), rfl, f3.trans (Fz.upd mu_c) fun b hb => .inl hb, (g2'.nx s3).trans (Fz.upd mu_c) fun b hb => .inl hb, ((v3'.to R f3).setC _).v, by rw [List.length_set]; exact lc, fun p hp h => ?_, fun p hp => ?_, fun m' hm' o' => ?_⟩
      · rw [getD_setI hzc]
        have ne : p ≠ m := fun e => by
          subst e
          rcases h with h | h
          · exact h (by rw [take_succ' hm]; simp)
          · have hA := (I.A p hmn (by omega) h).1 (by rw [hml]; exact o)
            obtain ⟨q', q1, _⟩ := hA
            rw [ecm, q1] at c
            omega
        rw [if_neg ne]
        exact hch p hp (h.imp_left fun z y => z (by rw [take_succ' hm]; exact List.mem_append_left _ y))
      · rw [getD_setI hzc]
        split
        · omega
        · exact hch1 p hp
      · rw [getD_setI hzc]
        by_cases e : m' = m
        · rw [if_pos e, e]
          exact ⟨q0, rfl, hq1, hq2⟩
        · rw [if_neg e]
          rw [take_succ' hm] at hm'
          rcases List.mem_append.mp hm' with y | y
          · exact hdo m' y o'
          · exact absurd (List.mem_singleton.mp y) e
    rintro σ H2 ⟨v2, v3, v4, ch, rfl, f2, _, v2', lc, hch, hch1, hdo⟩
    rw [List.length_map, List.take_length] at hdo hch
    refine q H2 ch f2 (v2'.to R f2) ⟨W.ok, W.lo, W.lr, lc, W.lj, W.t1, W.t2, W.ot, W.jd, W.jm⟩ ⟨fun p hp h => hch p hp (h.imp_left fun z y => z ((hmem p).mp y).2), hch1, fun p hp e o => hdo p ((hmem p).mpr ⟨hp, e⟩) o⟩
def SeQ (CR CG : Addr) (H : Hp) (x : Addr) (A : RA) (d : Gd) (own : List Nat) (TN : Nat) (jas : List Addr) (s : RSt) (l : Nat) (Q : VK) : Prop :=
  (∀ (H' : Hp) (s' : RSt) (l' : Nat), l = l' + 1 → Fz (A.mu jas) H H' → RgAt CR CG H' x A d own TN jas s' → WF d own TN s' → Pm.Inv (dG d own) (TN - 1) s'.f s'.c l' → (∀ p, p < d.mv.length → s.f p ≤ s'.f p) → Q (VN l') H') ∧
  (∀ (H' : Hp) (s' : RSt) (chI : Nat → Int) (G : Nat), l < G → Fz (A.mu jas) H H' → RgAt CR CG H' x A d own TN jas s' → WF d own TN s' → Pm.Inv (dG d own) (TN - 1) s'.f chI l → ¬ Pm.Opn (dG d own) s'.f l → Pm.Chosen (dG d own) s'.f chI s'.c l → (∀ p, p < d.mv.length → s.f p ≤ s'.f p) →
    (∃ p, p < d.mv.length ∧ s'.f p = l ∧ d.ow.getD p 0 ≠ l % 2 ∧ ∃ q ∈ Gr.row d.mv p, s'.f q = G) → (∀ p, p < d.mv.length → s'.f p = l → d.ow.getD p 0 ≠ l % 2 → ∀ q ∈ Gr.row d.mv p, l < s'.f q → G ≤ s'.f q) → Q (VN G) H') ∧
  (∀ (H' : Hp) (s' : RSt), Fz (A.mu jas) H H' → RgAt CR CG H' x A d own TN jas s' → WF d own TN s' → (∀ p, p < d.mv.length → own.getD p 0 ≤ s'.f p) → Pm.Won (dG d own) (fun p => s'.f p = l) s'.c (l % 2) → Q (VN l) H')
def spSettle (CR CG : Addr) : Sp := fun vs H Q _ => ∃ (x : Addr) (A : RA) (d : Gd) (own : List Nat) (TN : Nat) (jas : List Addr) (s : RSt) (l : Nat), vs = [.ref x, VN l] ∧ RgAt CR CG H x A d own TN jas s ∧ WF d own TN s ∧ l < TN ∧ Pm.Inv (dG d own) (TN - 1) s.f s.c l ∧ SeQ CR CG H x A d own TN jas s l Q
theorem ok_settle {CR CG f fM fL fG fO fC fE : Addr} {fd fdM fdL fdG fdO fdC fdE : FuncData} (T : Txt K mg) (PR : RegC K CR) (PC : GmeC K CG) (F : L2.Fun K "settle" "Regions.settle" s_Regions_settle f fd)
    (ME_members : Meth K CR "members" fM) (F1 : L2.Fun K "members" "Regions.members" s_Regions_members fM fdM) (BI_members : Binds K fdM ["self", "level"] [])
    (ME_lower_moves : Meth K CR "lower_moves" fL) (F2 : L2.Fun K "lower_moves" "Regions.lower_moves" s_Regions_lower_moves fL fdL) (BI_lower_moves : Binds K fdL ["self", "position", "level"] [])
    (ME_grow : Meth K CR "grow" fG) (F3 : L2.Fun K "grow" "Regions.grow" s_Regions_grow fG fdG) (BI_grow : Binds K fdG ["self", "level"] [])
    (ME_is_open : Meth K CR "is_open" fO) (F4 : L2.Fun K "is_open" "Regions.is_open" s_Regions_is_open fO fdO) (BI_is_open : Binds K fdO ["self", "level"] [])
    (ME_choose : Meth K CR "choose" fC) (F5 : L2.Fun K "choose" "Regions.choose" s_Regions_choose fC fdC) (BI_choose : Binds K fdC ["self", "level"] [])
    (ME_exits : Meth K CR "exits" fE) (F6 : L2.Fun K "exits" "Regions.exits" s_Regions_exits fE fdE) (BI_exits : Binds K fdE ["self", "level"] []) :
    FnOk P w K mg base CX0 3 f fd ["self", "level"] (spSettle CR CG) := by
  have FN_members := ok_mem (P := P) (w := w) (base := base) (CG := CG) T PR F1
  have FN_grow := ok_grow (P := P) (w := w) (base := base) (CG := CG) T PR PC F3 ME_members F1 BI_members ME_lower_moves F2 BI_lower_moves
  have FN_is_open := ok_open (P := P) (w := w) (base := base) (CG := CG) T PR PC F4 ME_members F1 BI_members
  have FN_choose := ok_choose (P := P) (w := w) (base := base) (CG := CG) T PR PC F5 ME_members F1 BI_members
  have FN_exits := ok_exits (P := P) (w := w) (base := base) (CG := CG) T PR PC F6 ME_members F1 BI_members
  refine F.ok sc_Regions_settle (fun vs H Q E h => ?_) (fun cdv A' outer s' H vs Q E hr h => ?_)
  · obtain ⟨_, _, _, _, _, _, _, _, rfl, _⟩ := h
    rfl
  · obtain ⟨x, A, d, own, TN, jas, s, l, rfl, R, W, hl, I, qa, qb, qc⟩ := h
    refine ⟨_, (pss_cons
      (ps_expr (pe_meth (pv 0) PR.cl ME_grow FN_grow (hr.mono (by decide)) BI_grow .nil pass0 (pa_cons (pv 1) pa_nil)))
      (pss_cons
      (ps_if (PW.pt (pw_or (pt_cmpR op_eq (pe_callB (call_lenK (K := K) rfl) (by rfl) T.z_len PySem.boot_len (pa_cons (pe_meth (pv 0) PR.cl ME_members FN_members (hr.mono (by decide)) BI_members .nil pass0 (pa_cons (pv 1) pa_nil)) pa_nil)) pe_int (nomark _)) (pw_or1 (pt_val (pe_meth (pv 0) PR.cl ME_is_open FN_is_open (hr.mono (by decide)) BI_is_open .nil pass0 (pa_cons (pv 1) pa_nil)))))) (pss_one
      (ps_ret (pe_op op_sub (pv 1) pe_int))) pss_nil)
      (pss_cons
      (ps_expr (pe_meth (pv 0) PR.cl ME_choose FN_choose (hr.mono (by decide)) BI_choose .nil pass0 (pa_cons (pv 1) pa_nil)))
      (pss_one
      (ps_ret (pe_callBK (call_minD (K := K) rfl rfl) (by rfl) T.z_min (by decide +kernel) (pa_cons (pe_meth (pv 0) PR.cl ME_exits FN_exits (hr.mono (by decide)) BI_exits .nil pass0 (pa_cons (pv 1) pa_nil)) pa_nil) (pk_cons (pv 1) pk_nil))))))), ?_⟩
    have ok := W.ok
    have okG := dG_ok (own := own) ok
    refine ⟨_, rfl, x, A.dx, _, rfl, R.i.ins, noM _ _ _ _ _ _ _ _ (by decide +kernel), _, rfl, x, A, d, own, TN, jas, s, l, rfl, R, W, hl, I, fun H1 s1 f1 R1 W1 I1 M1 up1 => ?_⟩
    have lo1 : ∀ p, p < d.mv.length → own.getD p 0 ≤ s1.f p := fun p hp => (I1.lv p hp).1
    have hmem := fun p => W1.mem lo1 hl (p := p)
    have hop := opn_iff W1 lo1 hl
    refine ⟨_, rfl, x, A.dx, _, rfl, R1.i.ins, noM _ _ _ _ _ _ _ _ (by decide +kernel), _, rfl, x, A, d, own, TN, jas, s1, l, rfl, R1, W1, hl, fun H2 p s2 np ep => ⟨p, _, rfl, .inl (.of ep), rfl, _, rfl, ite_eq (fun k => ?_) (fun k => ?_)⟩⟩
    · rw [List.length_map] at k
      have hnil : memS own TN s1 l = [] := List.length_eq_zero_iff.mp (by omega)
      have hno : ∀ p, p < d.mv.length → s1.f p ≠ l := fun p hp e => by
        have := (hmem p).mpr ⟨hp, e⟩
        rw [hnil] at this
        cases this
      cases l with
      | zero =>
        obtain ⟨⟨p, hp, e⟩, _⟩ := I1.zero okG ok.n1
        exact absurd e (hno p hp)
      | succ l =>
        refine ⟨_, rfl, _, _, rfl, rfl, ?_⟩
        show Q (V.int (((l + 1 : Nat) : Int) - 1)) H2
        rw [show (((l + 1 : Nat) : Int) - 1) = (l : Int) by omega]
        exact qa H2 s1 l rfl (f1.nx s2) (R1.same s2) W1 (I1.down okG M1 (.inl hno)) up1
    rw [List.length_map] at k
    have R2 := R1.same s2
    refine ⟨_, rfl, x, A.dx, _, rfl, R2.i.ins, noM _ _ _ _ _ _ _ _ (by decide +kernel), _, rfl, x, A, d, own, TN, jas, s1, l, rfl, R2, W1, hl, fun ho H3 s3 => ?_, fun no H3 s3 => ?_⟩
    · refine ⟨_, rfl, iteT ?_⟩
      cases l with
      | zero =>
        exact absurd (hop.mpr ho) (I1.zero okG ok.n1).2
      | succ l =>
        refine ⟨_, rfl, _, _, rfl, rfl, ?_⟩
        show Q (V.int (((l + 1 : Nat) : Int) - 1)) H3
        rw [show (((l + 1 : Nat) : Int) - 1) = (l : Int) by omega]
        exact qa H3 s1 l rfl ((f1.nx s2).nx s3) (R2.same s3) W1 (I1.down okG M1 (.inr (hop.mpr ho))) up1
    refine ⟨_, rfl, iteF ?_⟩
    have R3 := R2.same s3
    refine ⟨_, rfl, x, A.dx, _, rfl, R3.i.ins, noM _ _ _ _ _ _ _ _ (by decide +kernel), _, rfl, x, A, d, own, TN, jas, s1, l, rfl, R3, W1, hl, I1, no, fun H4 ch f4 R4 W4 C4 => ?_⟩
    have f04 : Fz (A.mu jas) H H4 := ((f1.nx s2).nx s3).trans f4 fun b hb => .inl hb
    refine ⟨_, rfl, x, A.dx, _, rfl, R4.i.ins, noM _ _ _ _ _ _ _ _ (by decide +kernel), _, rfl, x, A, d, own, TN, jas, ⟨s1.r, ch, s1.jo⟩, l, rfl, R4, W4, hl, fun H5 pe es s5 e5 hes => ?_⟩
    refine ⟨_, rfl, pe, es.map fun q : Nat => (q : Int), l, rfl, rfl, .of (by rw [e5, nt_int]), fun m h1 h2 => ?_⟩
    have nop : ¬ Pm.Opn (dG d own) s1.f l := fun h => no (hop.mp h)
    have hes2 : ∀ z, z ∈ es ↔ ∃ m, (m < d.mv.length ∧ s1.f m = l) ∧ d.ow.getD m 0 ≠ l % 2 ∧ ∃ q ∈ Gr.row d.mv m, s1.f q = z ∧ l < z := fun z => by
      rw [hes z]
      have hm4 := fun p => W4.mem (s := ⟨s1.r, ch, s1.jo⟩) lo1 hl (p := p)
      constructor
      · rintro ⟨m, a, b⟩
        exact ⟨m, (hm4 m).mp a, b⟩
      · rintro ⟨m, a, b⟩
        exact ⟨m, (hm4 m).mpr a, b⟩
    have R5 := R4.same s5
    have f05 := f04.nx s5
    by_cases c : es = []
    · have := h1 (by rw [c]; rfl)
      subst this
      refine qc H5 ⟨s1.r, ch, s1.jo⟩ f05 R5 W4 lo1 (I1.won nop ?_ C4 fun p hp e o q hq => ?_)
      · have hne : memS own TN s1 l ≠ [] := fun z => k (by rw [z]; rfl)
        obtain ⟨p, hp⟩ := List.exists_mem_of_ne_nil _ hne
        exact ⟨p, (hmem p).mp hp⟩
      · rcases Nat.lt_or_ge l (s1.f q) with h | h
        · have := (hes2 (s1.f q)).mpr ⟨p, ⟨hp, e⟩, o, q, hq, rfl, h⟩
          rw [c] at this
          cases this
        · exact h
    · obtain ⟨hm1, hm2⟩ := h2 (fun z => c (List.map_eq_nil_iff.mp z))
      obtain ⟨G, hG, rfl⟩ := List.mem_map.mp hm1
      obtain ⟨p, ⟨hp, e⟩, o, q, hq, eq, hlt⟩ := (hes2 G).mp hG
      refine qb H5 ⟨s1.r, ch, s1.jo⟩ s1.c G hlt f05 R5 W4 I1 nop C4 up1 ⟨p, hp, e, o, q, hq, eq⟩ fun p' hp' e' o' q' hq' hlt' => ?_
      have := hm2 (s1.f q' : Int) (List.mem_map.mpr ⟨s1.f q', (hes2 _).mpr ⟨p', ⟨hp', e'⟩, o', q', hq', rfl, hlt'⟩, rfl⟩)
      exact Int.ofNat_le.mp this
section
variable {d : Gd} {own : List Nat} {TN : Nat} {s s2 : RSt}
theorem wf_reset {b : Nat} (W : WF d own TN s) (lo : ∀ p, p < d.mv.length → own.getD p 0 ≤ s.f p) (h1 : s2.r.length = d.mv.length) (h2 : s2.ch.length = d.mv.length) (h3 : s2.jo = s.jo.set b []) (hb : b < TN) (hf : ∀ p, p < d.mv.length → s2.f p = if s.f p = b then own.getD p 0 else s.f p) :
    WF d own TN s2 ∧ ∀ p, p < d.mv.length → own.getD p 0 ≤ s2.f p := by
  have hbl : b < s.jo.length := by rw [W.lj]; exact hb
  refine ⟨⟨W.ok, W.lo, h1, h2, by rw [h3, List.length_set]; exact W.lj, W.t1, W.t2, W.ot, fun l hl => ?_, fun l hl p => ?_⟩, fun p hp => ?_⟩
  · rw [h3, getD_setL hbl]
    split
    · simp
    · exact W.jd l hl
  · rw [h3, getD_setL hbl]
    by_cases e : l = b
    · rw [if_pos e]
      refine ⟨fun h => (by cases h), fun ⟨hp, hf', ho⟩ => ?_⟩
      rw [hf p hp] at hf'
      split at hf' <;> omega
    · rw [if_neg e, W.jm l hl]
      constructor
      · rintro ⟨hp, hf', ho⟩
        refine ⟨hp, ?_, ho⟩
        rw [hf p hp, if_neg (by omega)]
        exact hf'
      · rintro ⟨hp, hf', ho⟩
        rw [hf p hp] at hf'
        split at hf'
        · omega
        · exact ⟨hp, hf', ho⟩
  · rw [hf p hp]
    split
    · exact Nat.le_refl _
    · exact lo p hp
/-- a region goes up -/
theorem wf_up {l G : Nat} {ms : List Nat} (W : WF d own TN s) (lo : ∀ p, p < d.mv.length → own.getD p 0 ≤ s.f p) (hlG : l < G) (hG : G < TN) (nd : ms.Nodup) (hm : ∀ p ∈ ms, p < d.mv.length ∧ s.f p = l) (hj : ∀ p ∈ s.jo.getD l [], p ∈ ms) (h1 : s2.r.length = d.mv.length) (h2 : s2.ch.length = d.mv.length) (h3 : s2.jo = (s.jo.set l []).set G (s.jo.getD G [] ++ ms)) (hf : ∀ p, p < d.mv.length → s2.f p = if p ∈ ms then G else s.f p) : WF d own TN s2 := by
  have hl : l < TN := by omega
  have hll : l < s.jo.length := by rw [W.lj]; exact hl
  have hGl : G < (s.jo.set l []).length := by rw [List.length_set, W.lj]; exact hG
  refine ⟨W.ok, W.lo, h1, h2, by rw [h3, List.length_set, List.length_set]; exact W.lj, W.t1, W.t2, W.ot, fun k hk => ?_, fun k hk p => ?_⟩
  · rw [h3, getD_setL hGl]
    split
    · refine List.nodup_append.mpr ⟨W.jd G hG, nd, fun a ha b hb e => ?_⟩
      subst e
      have := ((W.jm G hG a).mp ha).2.1
      have := (hm a hb).2
      omega
    · rw [getD_setL hll]
      split
      · simp
      · exact W.jd k hk
  · rw [h3, getD_setL hGl]
    by_cases e : k = G
    · subst e
      rw [if_pos rfl, List.mem_append, W.jm k hG]
      constructor
      · rintro (⟨hp, a, b⟩ | hp)
        · exact ⟨hp, by rw [hf p hp, if_neg (fun z => by have := (hm p z).2; omega)]; exact a, b⟩
        · obtain ⟨hp', a⟩ := hm p hp
          exact ⟨hp', by rw [hf p hp', if_pos hp], by have := lo p hp'; omega⟩
      · rintro ⟨hp, a, b⟩
        rw [hf p hp] at a
        split at a
        · rename_i c; exact .inr c
        · exact .inl ⟨hp, a, b⟩
    · rw [if_neg e, getD_setL hll]
      by_cases e2 : k = l
      · subst e2
        rw [if_pos rfl]
        refine ⟨fun h => (by cases h), fun ⟨hp, a, b⟩ => ?_⟩
        rw [hf p hp] at a
        split at a
        · omega
        · rename_i c
          exact absurd (hj p ((W.jm k hk p).mpr ⟨hp, a, b⟩)) c
      · rw [if_neg e2, W.jm k hk]
        constructor
        · rintro ⟨hp, a, b⟩
          exact ⟨hp, by rw [hf p hp, if_neg (fun z => by have := (hm p z).2; omega)]; exact a, b⟩
        · rintro ⟨hp, a, b⟩
          rw [hf p hp] at a
          split at a
          · omega
          · exact ⟨hp, a, b⟩
theorem newJ_mu {A : RA} {jas : List Addr} {a : Addr} {l : Nat} : ∀ b ∈ A.mu (jas.set l a), b ∈ A.mu jas ∨ b = a := fun b hb => by
  unfold RA.mu at hb ⊢
  simp only [List.mem_cons] at hb ⊢
  rcases hb with z | z | z | z
  · exact .inl (.inl z)
  · exact .inl (.inr (.inl z))
  · exact .inl (.inr (.inr (.inl z)))
  · exact (List.mem_or_eq_of_mem_set z).imp (fun y => .inr (.inr (.inr y))) id
end
def spPromote (CR CG : Addr) : Sp := fun vs H Q _ => ∃ (x : Addr) (A : RA) (d : Gd) (own : List Nat) (TN : Nat) (jas : List Addr) (s : RSt) (l G : Nat), vs = [.ref x, VN l, VN G] ∧ RgAt CR CG H x A d own TN jas s ∧ WF d own TN s ∧ (∀ p, p < d.mv.length → own.getD p 0 ≤ s.f p) ∧ l < G ∧ G < TN ∧
  ∀ (H' : Hp) (s' : RSt) (jas' : List Addr), Fz (A.mu jas) H H' → (∀ b ∈ A.mu jas', b ∈ A.mu jas ∨ H b = none) → RgAt CR CG H' x A d own TN jas' s' → WF d own TN s' →
    (∀ p, p < d.mv.length → s.f p = l → s'.f p = G) → (∀ p, p < d.mv.length → l < s.f p → s.f p < G → s'.f p = own.getD p 0) → (∀ p, p < d.mv.length → (s.f p < l ∨ G ≤ s.f p) → s'.f p = s.f p) →
    (∀ p, p < d.mv.length → l < s.f p → s.f p < G → s'.c p = -1) → (∀ p, p < d.mv.length → (s.f p ≤ l ∨ G ≤ s.f p) → s'.c p = s.c p) → Q .non H'
theorem ok_promote {CR CG f fM : Addr} {fd fdM : FuncData} (T : Txt K mg) (PR : RegC K CR) (F : L2.Fun K "promote" "Regions.promote" s_Regions_promote f fd)
    (ME_members : Meth K CR "members" fM) (F1 : L2.Fun K "members" "Regions.members" s_Regions_members fM fdM) (BI_members : Binds K fdM ["self", "level"] []) : FnOk P w K mg base CX0 2 f fd ["self", "level", "goal"] (spPromote CR CG) := by
  have FN_members := ok_mem (P := P) (w := w) (base := base) (CG := CG) T PR F1
  refine F.ok sc_Regions_promote (fun vs H Q E h => ?_) (fun cdv A' outer s' H vs Q E hr h => ?_)
  · obtain ⟨_, _, _, _, _, _, _, _, _, rfl, _⟩ := h
    rfl
  · obtain ⟨x, A, d, own, TN, jas, s, l, G, rfl, R, W, lo, hlG, hGT, q⟩ := h
    refine ⟨_, (pss_cons
      (ps_set (i := 3) sc_Regions_promote.nd rfl (Or.inl rfl) (pe_meth (pv 0) PR.cl ME_members FN_members (hr.mono (by decide)) BI_members .nil pass0 (pa_cons (pv 1) pa_nil)))
      (pss_cons
      (ps_for PassesOwn.never rfl (pi_range2 (by rfl) T.z_range (pa_cons (pe_op op_add (pv 1) pe_int) (pa_cons (pv 2) pa_nil))) (pg_name (i := 4) sc_Regions_promote.nd rfl (.inl rfl)) (pss_cons
      (ps_for PassesOwn.never rfl (pi_list (pe_meth (pv 0) PR.cl ME_members FN_members (hr.mono (by decide)) BI_members .nil pass0 (pa_cons (pv 4) pa_nil))) (pg_name (i := 5) sc_Regions_promote.nd rfl (.inl rfl)) (pss_cons
      (ps_asg (pe_ix (ix_listK (K := K) rfl) (pe_fld (pv 0) rfl) (pv 5) (fun _ _ => rfl)) (pg_sub (pe_fld (pv 0) rfl) (pv 5) set_list))
      (pss_one
      (ps_asg (pe_un un_neg pe_int) (pg_sub (pe_fld (pv 0) rfl) (pv 5) set_list)))))
      (pss_one
      (ps_asg (pe_lst pa_nil) (pg_sub (pe_fld (pv 0) rfl) (pv 4) set_list)))))
      (pss_cons
      (ps_for PassesOwn.never rfl (pi_list (pv 3)) (pg_name (i := 5) sc_Regions_promote.nd rfl (.inl rfl)) (pss_one
      (ps_asg (pv 2) (pg_sub (pe_fld (pv 0) rfl) (pv 5) set_list))))
      (pss_cons
      (ps_asg (pe_lst pa_nil) (pg_sub (pe_fld (pv 0) rfl) (pv 1) set_list))
      (pss_one
      (ps_expr (pe_bm PySem.F.plainAttrs_list PySem.F.slot_list_extend PySem.F.type_list_extend mt_extend (pe_ix (ix_listK (K := K) rfl) (pe_fld (pv 0) rfl) (pv 2) (fun _ _ => rfl)) (pa_cons (pv 3) pa_nil)))))))), ?_⟩
    have hn2 := W.ok.n2
    have hl : l < TN := by omega
    refine ⟨_, rfl, x, A.dx, _, rfl, R.i.ins, noM _ _ _ _ _ _ _ _ (by decide +kernel), _, rfl, x, A, d, own, TN, jas, s, l, rfl, R, W, hl, fun H1 pm s1 npm epm => ?_⟩
    have R1 := R.same s1
    have hpm := R.v.new npm
    have hlo := W.lo
    have ht2 := W.t2
    refine ⟨_, rfl, _, _, rfl, rfl, _, rfl, _, _, rfl, ⟨by omega, by omega, by omega, by omega⟩, ?_⟩
    rw [show ((G : Int) - ((l : Int) + 1)).toNat = G - (l + 1) by omega]
    refine for_range (lo := (l : Int) + 1) (n := G - (l + 1)) (fun i σ H' => ∃ (v4 v5 : Option V) (si : RSt) (jai : List Addr), σ = [some (.ref x), some (VN l), some (VN G), some (.ref pm), v4, v5] ∧ Fz (A.mu jas) H1 H' ∧ (∀ b ∈ A.mu jai, b ∈ A.mu jas ∨ H1 b = none) ∧ RgAt CR CG H' x A d own TN jai si ∧ WF d own TN si ∧ (∀ p, p < d.mv.length → own.getD p 0 ≤ si.f p) ∧
      (∀ p, p < d.mv.length → si.f p = if l < s.f p ∧ s.f p < l + 1 + i then own.getD p 0 else s.f p) ∧ (∀ p, p < d.mv.length → si.c p = if l < s.f p ∧ s.f p < l + 1 + i then -1 else s.c p) ∧ si.jo.getD l [] = s.jo.getD l []) ⟨none, none, s, jas, rfl, Fz.refl, fun b hb => .inl hb, R1, W, lo, fun p _ => by rw [if_neg (by omega)], fun p _ => by rw [if_neg (by omega)], rfl⟩ ?_ ?_
    · rintro i σ H2 hi ⟨v4, v5, si, jai, rfl, f2, m2, R2, W2, lo2, hf2, hc2, hj2⟩
      show gName 4 (V.int ((l : Int) + 1 + (i : Int))) _ _ _
      rw [show ((l : Int) + 1 + (i : Int)) = ((l + 1 + i : Nat) : Int) by omega]
      have hbT : l + 1 + i < TN := by omega
      have hmem := fun p => W2.mem lo2 hbT (p := p)
      have hnd := W2.mem_nd hbT
      refine ⟨_, rfl, x, A.dx, _, rfl, R2.i.ins, noM _ _ _ _ _ _ _ _ (by decide +kernel), _, rfl, x, A, d, own, TN, jai, si, l + 1 + i, rfl, R2, W2, hbT, fun H3 p s3 np ep => ?_⟩
      have R3 := R2.same s3
      have f3 := f2.nx s3
      have npm := R2.v.new np
      generalize memS own TN si (l + 1 + i) = ms at ep hmem hnd ⊢
      refine ⟨p, rfl, ⟨_, .of ep⟩, for_list (K := K) (a := p) (xs := ms.map VN) (fun j σ H' => ∃ (v5 : Option V) (r : List Nat) (ch : List Int), σ = [some (.ref x), some (VN l), some (VN G), some (.ref pm), some (VN (l + 1 + i)), v5] ∧ Fz (A.mu jas) H1 H' ∧ Fz (A.mu jai) H3 H' ∧ RgV H' A jai ⟨r, ch, si.jo⟩ ∧ r.length = d.mv.length ∧ ch.length = d.mv.length ∧ (∀ p, p < d.mv.length → r.getD p 0 = if p ∈ ms.take j then own.getD p 0 else si.f p) ∧ (∀ p, p < d.mv.length → ch.getD p (-1) = if p ∈ ms.take j then -1 else si.c p)) ⟨v5, si.r, si.ch, rfl, f3, Fz.refl, R3.v, W2.lr, W2.lc, fun p _ => by rw [if_neg (by simp)]; rfl, fun p _ => by rw [if_neg (by simp)]; rfl⟩ (fun i σ H' _ ⟨_, _, _, _, _, z, _⟩ => .of (z _ _ npm ep)) ?_ ?_⟩
      · rintro j v σ H4 hj ⟨v5', r, ch, rfl, f4, g4, v4', lr, lc, hr, hch⟩
        obtain ⟨m, hm, rfl⟩ := nats_get hj
        have hmm := List.mem_of_getElem? hm
        obtain ⟨hmn, hml⟩ := (hmem m).mp hmm
        have im := R3.im H4 g4
        refine ⟨_, rfl, x, CR, A.dx, _, _, rfl, im.ins, PR.cl, PR.no, rgf_o _ _ _ _ _ _ _, _, rfl, A.oA, _, _, VN (own.getD m 0), rfl, rfl, .of im.ow, atN (getD_n (by omega)), ?_⟩
        refine ⟨_, rfl, x, CR, A.dx, _, _, rfl, im.ins, PR.cl, PR.nl, rgf_l _ _ _ _ _ _ _, _, rfl, A.lA, _, _, m, rfl, rfl, v4'.lev, ixN_at (by rw [List.length_map, lr]; exact hmn), ?_⟩
        rw [show (r.map VN).set m (VN (own.getD m 0)) = (r.set m (own.getD m 0)).map VN by rw [List.map_set]]
        have R4 := v4'.to R3 g4
        have f5 : Fz (A.mu jas) H1 (upd H4 A.lA (.lst ((r.set m (own.getD m 0)).map VN))) := f4.trans (Fz.upd mu_l) fun b hb => .inl hb
        have g5 : Fz (A.mu jai) H3 (upd H4 A.lA (.lst ((r.set m (own.getD m 0)).map VN))) := g4.trans (Fz.upd mu_l) fun b hb => .inl hb
        have R5 := R4.setL (r.set m (own.getD m 0))
        generalize upd H4 A.lA (.lst ((r.set m (own.getD m 0)).map VN)) = H5 at f5 g5 R5 ⊢
        refine ⟨_, rfl, _, rfl, x, CR, A.dx, _, _, rfl, R5.i.ins, PR.cl, PR.nc, rgf_c _ _ _ _ _ _ _, _, rfl, A.cA, _, _, m, rfl, rfl, R5.cho, ixN_at (by rw [List.length_map]; show m < ch.length; rw [lc]; exact hmn), ?_⟩
        rw [show (ch.map V.int).set m (V.int (-1)) = (ch.set m (-1)).map V.int by rw [List.map_set]]
        refine ⟨_, r.set m (own.getD m 0), ch.set m (-1), rfl, f5.trans (Fz.upd mu_c) fun b hb => .inl hb, g5.trans (Fz.upd mu_c) fun b hb => .inl hb, (R5.setC _).v, by rw [List.length_set]; exact lr, by rw [List.length_set]; exact lc, fun p hp => ?_, fun p hp => ?_⟩
        · rw [getD_set (by rw [lr]; exact hmn), hr p hp, take_succ' hm]
          by_cases e : p = m
          · rw [if_pos e, if_pos (by rw [e]; simp), e]
          · rw [if_neg e]
            by_cases c : p ∈ ms.take j
            · rw [if_pos c, if_pos (List.mem_append_left _ c)]
            · rw [if_neg c, if_neg (by simp [c, e])]
        · rw [getD_setI (by rw [lc]; exact hmn), hch p hp, take_succ' hm]
          by_cases e : p = m
          · rw [if_pos e, if_pos (by rw [e]; simp)]
          · rw [if_neg e]
            by_cases c : p ∈ ms.take j
            · rw [if_pos c, if_pos (List.mem_append_left _ c)]
            · rw [if_neg c, if_neg (by simp [c, e])]
      rintro σ H4 ⟨v5', r, ch, rfl, f4, g4, v4', lr, lc, hr, hch⟩
      rw [List.length_map, List.take_length] at hr hch
      have R4 := v4'.to R3 g4
      refine ⟨Nat.zero_le _, fun a na => ?_⟩
      have hjl := R2.jl
      have hjL : l + 1 + i < jai.length := by rw [hjl, W2.lj]; exact hbT
      have R5 := R4.same (same_new (o := .lst []) na)
      have R6 := R4.newJ hjL na
      have f5 : Fz (A.mu jas) H1 (upd H4 a (.lst [])) := f4.nx (same_new na)
      refine ⟨_, rfl, x, CR, A.dx, _, _, rfl, R5.i.ins, PR.cl, PR.nj, rgf_j _ _ _ _ _ _ _, _, rfl, A.jA, _, _, l + 1 + i, rfl, rfl, R5.jn, ixN_at (by rw [List.length_map]; exact hjL), ?_⟩
      rw [show (jai.map V.ref).set (l + 1 + i) (.ref a) = (jai.set (l + 1 + i) a).map V.ref by rw [List.map_set]]
      have na1 : a ∈ A.mu jas ∨ H1 a = none := by
        by_cases c : a ∈ A.mu jas
        · exact .inl c
        · refine .inr ?_
          cases e : H1 a with
          | none => rfl
          | some o => rw [f4 _ _ c e] at na; cases na
      obtain ⟨W6, lo6⟩ := wf_reset (s2 := ⟨r, ch, si.jo.set (l + 1 + i) []⟩) W2 lo2 lr lc rfl hbT (fun p hp => by
        show r.getD p 0 = _
        rw [hr p hp]
        by_cases c : si.f p = l + 1 + i
        · rw [if_pos c, if_pos ((hmem p).mpr ⟨hp, c⟩)]
        · rw [if_neg c, if_neg (fun z => c ((hmem p).mp z).2)])
      refine ⟨_, _, ⟨r, ch, si.jo.set (l + 1 + i) []⟩, jai.set (l + 1 + i) a, rfl, f5.trans (Fz.upd mu_j) fun b hb => .inl hb, fun b hb => ?_, R6, W6, lo6, fun p hp => ?_, fun p hp => ?_, ?_⟩
      · rcases newJ_mu b hb with z | z
        · exact m2 b z
        · rw [z]; exact na1
      · show r.getD p 0 = _
        have h2 := hf2 p hp
        have h3 := hmem p
        rw [hr p hp]
        by_cases c : p ∈ ms
        · rw [if_pos c]
          have := (h3.mp c).2
          rw [h2] at this
          split at this
          · have := lo p hp; rw [if_pos (by omega)]
          · rw [if_pos (by omega)]
        · rw [if_neg c, h2]
          have : si.f p ≠ l + 1 + i := fun z => c (h3.mpr ⟨hp, z⟩)
          rw [h2] at this
          split at this
          · rename_i k; rw [if_pos k, if_pos (by omega)]
          · rename_i k; rw [if_neg k, if_neg (by omega)]
      · show ch.getD p (-1) = _
        have h2 := hf2 p hp
        have h2c := hc2 p hp
        have h3 := hmem p
        rw [hch p hp]
        by_cases c : p ∈ ms
        · rw [if_pos c]
          have := (h3.mp c).2
          rw [h2] at this
          split at this
          · rw [if_pos (by omega)]
          · rw [if_pos (by omega)]
        · rw [if_neg c, h2c]
          have : si.f p ≠ l + 1 + i := fun z => c (h3.mpr ⟨hp, z⟩)
          rw [h2] at this
          split at this
          · rename_i k; rw [if_pos k, if_pos (by omega)]
          · rename_i k; rw [if_neg k, if_neg (by omega)]
      · show (si.jo.set (l + 1 + i) []).getD l [] = _
        rw [getD_setL (by rw [W2.lj]; exact hbT), if_neg (by omega)]
        exact hj2
    rintro σ H2 ⟨v4, v5, si, jai, rfl, f2, m2, R2, W2, lo2, hf2, hc2, hj2⟩
    rw [show l + 1 + (G - (l + 1)) = G by omega] at hf2 hc2
    have hmem := fun p => W.mem lo hl (p := p)
    have hnd := W.mem_nd hl
    have hml := W.mem_len hl
    have hjm : ∀ p ∈ s.jo.getD l [], p ∈ memS own TN s l := fun p hp => (hmem p).mpr ⟨((W.jm l hl p).mp hp).1, ((W.jm l hl p).mp hp).2.1⟩
    generalize memS own TN s l = ms at epm hmem hnd hml hjm ⊢
    have epm2 := f2 _ _ hpm epm
    have npm2 : pm ∉ A.mu jai := fun z => by
      rcases m2 pm z with y | y
      · exact hpm y
      · rw [epm] at y; cases y
    refine ⟨_, rfl, pm, rfl, ⟨_, .of epm2⟩, for_list (K := K) (a := pm) (xs := ms.map VN) (fun j σ H' => ∃ (v5 : Option V) (r : List Nat), σ = [some (.ref x), some (VN l), some (VN G), some (.ref pm), v4, v5] ∧ Fz (A.mu jas) H1 H' ∧ Fz (A.mu jai) H2 H' ∧ RgV H' A jai ⟨r, si.ch, si.jo⟩ ∧ r.length = d.mv.length ∧ (∀ p, p < d.mv.length → r.getD p 0 = if p ∈ ms.take j then G else si.f p)) ⟨v5, si.r, rfl, f2, Fz.refl, R2.v, W2.lr, fun p _ => by rw [if_neg (by simp)]; rfl⟩ (fun i σ H' _ ⟨_, _, _, _, z, _⟩ => .of (z _ _ npm2 epm2)) ?_ ?_⟩
    · rintro j v σ H4 hj ⟨v5', r, rfl, f4, g4, v4', lr, hr⟩
      obtain ⟨m, hm, rfl⟩ := nats_get hj
      obtain ⟨hmn, hml⟩ := (hmem m).mp (List.mem_of_getElem? hm)
      have im := R2.im H4 g4
      refine ⟨_, rfl, _, rfl, x, CR, A.dx, _, _, rfl, im.ins, PR.cl, PR.nl, rgf_l _ _ _ _ _ _ _, _, rfl, A.lA, _, _, m, rfl, rfl, v4'.lev, ixN_at (by rw [List.length_map, lr]; exact hmn), ?_⟩
      rw [show (r.map VN).set m (VN G) = (r.set m G).map VN by rw [List.map_set]]
      refine ⟨_, r.set m G, rfl, f4.trans (Fz.upd mu_l) fun b hb => .inl hb, g4.trans (Fz.upd mu_l) fun b hb => .inl hb, ((v4'.to R2 g4).setL _).v, by rw [List.length_set]; exact lr, fun p hp => ?_⟩
      rw [getD_set (by rw [lr]; exact hmn), hr p hp, take_succ' hm]
      by_cases e : p = m
      · rw [if_pos e, if_pos (by rw [e]; simp)]
      · rw [if_neg e]
        by_cases c : p ∈ ms.take j
        · rw [if_pos c, if_pos (List.mem_append_left _ c)]
        · rw [if_neg c, if_neg (by simp [c, e])]
    rintro σ H4 ⟨v5', r, rfl, f4, g4, v4', lr, hr⟩
    rw [List.length_map, List.take_length] at hr
    have R4 := v4'.to R2 g4
    refine ⟨Nat.zero_le _, fun a na => ?_⟩
    have hjl := R2.jl
    have hjL : l < jai.length := by rw [hjl, W2.lj]; exact hl
    have hjG : G < jai.length := by rw [hjl, W2.lj]; exact hGT
    have R5 := R4.same (same_new (o := .lst []) na)
    have R6 := R4.newJ hjL na
    have f5 : Fz (A.mu jas) H1 (upd H4 a (.lst [])) := f4.nx (same_new na)
    have na1 : a ∈ A.mu jas ∨ H1 a = none := by
      by_cases c : a ∈ A.mu jas
      · exact .inl c
      · refine .inr ?_
        cases e : H1 a with
        | none => rfl
        | some o => rw [f4 _ _ c e] at na; cases na
    have npa : pm ≠ a := fun z => by
      rcases na1 with y | y
      · exact hpm (by rw [z]; exact y)
      · rw [← z, epm] at y; cases y
    refine ⟨_, rfl, x, CR, A.dx, _, _, rfl, R5.i.ins, PR.cl, PR.nj, rgf_j _ _ _ _ _ _ _, _, rfl, A.jA, _, _, l, rfl, rfl, R5.jn, ixN_at (by rw [List.length_map]; exact hjL), ?_⟩
    rw [show (jai.map V.ref).set l (.ref a) = (jai.set l a).map V.ref by rw [List.map_set]]
    have f6 : Fz (A.mu jas) H1 (upd (upd H4 a (.lst [])) A.jA (.lst ((jai.set l a).map V.ref))) := f5.trans (Fz.upd mu_j) fun b hb => .inl hb
    have m6 : ∀ b ∈ A.mu (jai.set l a), b ∈ A.mu jas ∨ H1 b = none := fun b hb => by
      rcases newJ_mu b hb with z | z
      · exact m2 b z
      · rw [z]; exact na1
    have epm6 := f6 _ _ hpm epm
    generalize upd (upd H4 a (.lst [])) A.jA (.lst ((jai.set l a).map V.ref)) = H6 at R6 f6 epm6 ⊢
    have ejo : (si.jo.set l []).getD G [] = si.jo.getD G [] := by rw [getD_setL (by rw [W2.lj]; exact hl), if_neg (by omega)]
    obtain ⟨ja, hja⟩ : ∃ b, (jai.set l a)[G]? = some b := ⟨_, List.getElem?_eq_getElem (by rw [List.length_set]; exact hjG)⟩
    have ej := R6.jr G ja hja
    have ej : H6 ja = some (.lst ((si.jo.getD G []).map VN)) := by rw [ej]; show some (HO.lst (((si.jo.set l []).getD G []).map VN)) = _; rw [ejo]
    have hjle : (si.jo.getD G []).length ≤ d.mv.length := nd_len (W2.jd G hGT) fun p hp => ((W2.jm G hGT p).mp hp).1
    refine ⟨_, rfl, x, CR, A.dx, _, _, rfl, R6.i.ins, PR.cl, PR.nj, rgf_j _ _ _ _ _ _ _, _, rfl, A.jA, _, _, .ref ja, rfl, rfl, .of R6.jn, atN hja, .inl ⟨rfl, _, .of ej⟩, _, rfl, ja, pm, _, _, rfl, rfl, ej, epm6, by rw [List.length_map, List.length_map]; exact Nat.le_trans (show _ ≤ 2000 by omega) (by decide), ?_⟩
    rw [← List.map_append]
    have R7 := R6.setJ hja (si.jo.getD G [] ++ ms)
    have hjam := m6 ja (mu_r (List.mem_of_getElem? hja))
    have f7 : Fz (A.mu jas) H (upd H6 ja (.lst ((si.jo.getD G [] ++ ms).map VN))) := by
      refine Fz.trans (Fz.of s1) (Fz.trans f6 (Fz.upd (S := [ja]) List.mem_cons_self) fun b hb => ?_) fun b hb => .inl hb
      rw [List.mem_singleton.mp hb]
      exact hjam
    have hms : ∀ p ∈ ms, p < d.mv.length ∧ s.f p = l := fun p hp => (hmem p).mp hp
    have W7 : WF d own TN ⟨r, si.ch, (si.jo.set l []).set G (si.jo.getD G [] ++ ms)⟩ := wf_up (ms := ms) W2 lo2 hlG hGT hnd (fun p hp => ⟨(hms p hp).1, by rw [hf2 p (hms p hp).1, if_neg (by have := (hms p hp).2; omega)]; exact (hms p hp).2⟩) (fun p hp => by rw [hj2] at hp; exact hjm p hp) lr W2.lc rfl hr
    refine q _ _ _ f7 (fun b hb => (m6 b hb).imp_right fun z => s1.free z) R7 W7 (fun p hp e => ?_) (fun p hp e1 e2 => ?_) (fun p hp e => ?_) (fun p hp e1 e2 => ?_) fun p hp e => ?_
    · show r.getD p 0 = _
      rw [hr p hp, if_pos ((hmem p).mpr ⟨hp, e⟩)]
    · show r.getD p 0 = _
      rw [hr p hp, if_neg (fun z => by have := (hms p z).2; omega), hf2 p hp, if_pos ⟨e1, e2⟩]
    · show r.getD p 0 = _
      rw [hr p hp, if_neg (fun z => by have := (hms p z).2; omega), hf2 p hp, if_neg (by omega)]
    · show si.c p = _
      rw [hc2 p hp, if_pos ⟨e1, e2⟩]
    · show si.c p = _
      rw [hc2 p hp, if_neg (by omega)]
def nxR (u r : Nat) : Nat := if u % 2 ≠ r % 2 then r + 1 else r
theorem nxR_par (u r : Nat) : nxR u r % 2 = u % 2 := by unfold nxR; split <;> omega
theorem nxR_le (u r : Nat) : r ≤ nxR u r ∧ nxR u r ≤ r + 1 := by unfold nxR; split <;> omega
/-- the priorities in their order, as low as can be -/
structure Rkd (ps own : List Nat) : Prop where
  len : own.length = ps.length
  mono : ∀ i j, i < ps.length → j < ps.length → ps.getD i 0 ≤ ps.getD j 0 → own.getD i 0 ≤ own.getD j 0
  par : ∀ i, i < ps.length → own.getD i 0 % 2 = ps.getD i 0 % 2
  bd : ∀ i, i < ps.length → own.getD i 0 ≤ 64
theorem mem_cast {n : Nat} {l : List Nat} : ((n : Int) ∈ l.map fun m : Nat => (m : Int)) ↔ n ∈ l := by
  constructor
  · intro h
    obtain ⟨m, hm, e⟩ := List.mem_map.mp h
    have : m = n := by omega
    rw [← this]
    exact hm
  · intro h
    exact List.mem_map.mpr ⟨n, h, rfl⟩
def spRank : Sp := fun vs H Q _ => ∃ (a : Addr) (ps U : List Nat), vs = [.ref a] ∧ H a = some (.tup (ps.map VN)) ∧ ps.length ≤ 1000 ∧ (∀ p ∈ ps, p ∈ U) ∧ U.length ≤ 63 ∧
  ∀ (H' : Hp) (q : Addr) (own : List Nat), Same H H' → H q = none → H' q = some (.lst (own.map VN)) → Rkd ps own → Q (.ref q) H'
theorem cal_rank (T : Txt K mg) : C8.Cal P w K mg base 1 "ranked" spRank [] := by
  obtain ⟨f, fd, F, hm, hb⟩ := T.h_ranked
  refine ⟨f, fd, _, [], F.ok sc_ranked (fun vs H Q E h => ?_) (fun cdv A outer s H vs Q E hr h => ?_), hm, F.kp, hb, .nil⟩
  · obtain ⟨a, ps, U, rfl, _⟩ := h
    rfl
  · obtain ⟨a, ps, U, rfl, ea, hl, hU, hU2, q⟩ := h
    refine ⟨_, (pss_cons
      (ps_set (i := 1) sc_ranked.nd rfl (Or.inr rfl) pe_dnewK)
      (pss_cons
      (ps_set (i := 2) sc_ranked.nd rfl (Or.inl rfl) pe_int)
      (pss_cons
      (ps_for PassesOwn.never rfl (pi_list (pe_callB (cr_sortedSet' (w := w) rfl rfl) (by rfl) T.z_sorted (by decide +kernel) (pa_cons (pe_callTy (cr_setA (K := K) (w := w) rfl rfl rfl) (by rfl) T.z_set (by decide +kernel) (pa_cons (pv 0) pa_nil)) pa_nil))) (pg_name (i := 3) sc_ranked.nd rfl (.inl rfl)) (C8.pss_cut
      (ps_if (pt_cmpR op_ne (pe_op op_mod (pv 3) pe_int) (pe_op op_mod (pv 2) pe_int) (nomark _)) (pss_one
      (ps_aug (i := 2) sc_ranked.nd rfl (.inl rfl) pe_int ip_add)) pss_nil)
      (pss_one
      (ps_dput (hu_of hr) (pv 1) (pv 3) (pv 2) rfl))))
      (pss_one
      (ps_ret (pe_lc (own := [("priority", 3)]) (g := gName 3) (tt := tYes) rfl sc_ranked.nd (pi_tup (pv 0)) (blkOk_by (N := N_ranked) (sc := defScope s_ranked) (by decide +kernel)) (fun _ _ _ _ _ => (pg_name (i := 3) sc_ranked.nd rfl (Or.inl rfl))) (fun _ _ _ _ _ => pts_nil) (fun _ _ _ _ _ => (pe_dget (hu_of hr) (pv 1) (pv 3) (fun _ _ => rfl))))))))), ?_⟩
    refine fun D nD => ?_
    generalize hX : upd H D _ = H1; obtain ⟨sH1, eD⟩ := nw nD hX; clear hX
    have ea1 : H1 a = some (.tup ((ps.map fun n : Nat => (n : Int)).map V.int)) := by rw [sH1 _ _ ea, nt_int]
    refine ⟨_, rfl, a, ps.map fun n : Nat => (n : Int), rfl, .inr (.of ea1), by rw [List.length_map]; exact Nat.lt_of_le_of_lt (show ps.length + 1 ≤ 1001 by omega) (by decide), fun p2 c np2 hc => ?_⟩
    have hc := hc (U.map fun n : Nat => (n : Int)) fun j hj => by
      obtain ⟨n, hn, rfl⟩ := List.mem_map.mp hj
      exact List.mem_map.mpr ⟨n, hU n hn, rfl⟩
    rw [List.length_map] at hc
    generalize hX : upd H1 p2 _ = H2; obtain ⟨sH2, ep2⟩ := nw np2 hX; clear hX
    refine ⟨p2, _, c, rfl, ep2, by omega, fun us p3 hus hmem huc np3 => ?_⟩
    obtain ⟨ns, rfl⟩ : ∃ ns : List Nat, us = ns.map fun n : Nat => (n : Int) := by
      refine ⟨us.map Int.toNat, ?_⟩
      rw [List.map_map]
      have : ∀ z ∈ us, ((fun n : Nat => (n : Int)) ∘ Int.toNat) z = z := fun z hz => by
        have := of_decide_eq_true ((hmem z).mp hz)
        obtain ⟨n, _, rfl⟩ := List.mem_map.mp this
        rfl
      conv => lhs; rw [← List.map_id us]
      exact (List.map_congr_left fun z hz => (this z hz).symm)
    have hnm : ∀ n : Nat, n ∈ ns ↔ n ∈ ps := fun n => by
      rw [← mem_cast, ← mem_cast (l := ps), hmem (n : Int), decide_eq_true_iff]
    have hpw : ns.Pairwise (· < ·) := by
      have := List.pairwise_map.mp hus
      exact this.imp fun h => Int.ofNat_lt.mp h
    rw [List.length_map] at huc
    rw [← nt_int]
    generalize hX : upd H2 p3 _ = H3; obtain ⟨sH3, ep3⟩ := nw np3 hX; clear hX
    have s03 := (sH1.trans sH2).trans sH3
    have eD3 := sH3 _ _ (sH2 _ _ eD)
    have nDp : p3 ≠ D := fun z => by rw [z, sH2 _ _ eD] at np3; cases np3
    refine ⟨p3, rfl, ⟨_, .of ep3⟩, for_list (K := K) (a := p3) (xs := ns.map VN) (fun i σ H' => ∃ (rk : Nat) (v3 : Option V) (kvs : List (L2.Key × V)) (g : Nat → Nat), σ = [some (.ref a), some (.ref D), some (VN rk), v3] ∧ (∀ b o, b ≠ D → H3 b = some o → H' b = some o) ∧ H' D = some (.dK kvs) ∧ kvs.length ≤ i ∧ rk ≤ i ∧ (∀ u ∈ ns.take i, valV kvs (Sum.inl (u : Int) : L2.Key) = some (VN (g u)) ∧ g u % 2 = u % 2 ∧ g u ≤ rk) ∧ ∀ u ∈ ns.take i, ∀ v ∈ ns.take i, u ≤ v → g u ≤ g v) ⟨0, none, [], fun _ => 0, rfl, fun _ _ _ h => h, eD3, Nat.le_refl _, Nat.le_refl _, by simp, by simp⟩ (fun i σ H' _ ⟨_, _, _, _, _, z, _⟩ => .of (z _ _ nDp ep3)) ?_ ?_⟩
    · rintro i v σ H4 hi ⟨rk, v3, kvs, g, rfl, k4, e4, l4, r4, hg, hmono⟩
      obtain ⟨u, hu, rfl⟩ := nats_get hi
      have hil := lt_of_get hu
      refine ⟨fun σ' H' => σ' = [some (.ref a), some (.ref D), some (VN (nxR u rk)), some (VN u)] ∧ H' = H4, ?_, ?_⟩
      · refine ⟨_, rfl, _, _, rfl, rfl, (by omega), _, rfl, _, _, rfl, rfl, (by omega), rfl, _, rfl, ite_ne (fun c => ?_) (fun c => ?_)⟩
        · refine ⟨_, rfl, _, _, rfl, rfl, ?_, rfl⟩
          have : nxR u rk = rk + 1 := by unfold nxR; rw [if_pos (by omega)]
          rw [this]
          rfl
        · have : nxR u rk = rk := by unfold nxR; rw [if_neg (by omega)]
          rw [this]
          exact ⟨rfl, rfl⟩
      rintro σ' H' ⟨rfl, rfl⟩
      have hn := nxR_le u rk
      refine ⟨_, rfl, _, rfl, _, rfl, D, _, rfl, DPut.k (k := Sum.inl (u : Int)) e4 (Nat.lt_of_le_of_lt (show kvs.length ≤ 1000 by omega) (by decide)), ?_⟩
      have hlt : ∀ v ∈ ns.take i, v < u := fun v hv => by
        obtain ⟨j, hj⟩ := List.mem_iff_getElem?.mp hv
        rw [List.getElem?_take] at hj
        split at hj
        · rename_i hji
          have h1 := (List.pairwise_iff_getElem.mp hpw) j i (by omega) hil hji
          rw [List.getElem?_eq_getElem (by omega)] at hj
          rw [List.getElem?_eq_getElem hil] at hu
          rw [Option.some.inj hj, Option.some.inj hu] at h1
          exact h1
        · cases hj
      refine ⟨nxR u rk, _, _, fun v => if v = u then nxR u rk else g v, rfl, fun b o nb hb => by rw [upd_ne nb]; exact k4 _ _ nb hb, upd_same, by have := length_putK kvs (Sum.inl (u : Int) : L2.Key) (VN (nxR u rk)); omega, by omega, fun v hv => ?_, fun v hv v' hv' hle => ?_⟩
      · rw [take_succ' hu] at hv
        dsimp only
        rcases List.mem_append.mp hv with y | y
        · have ne : v ≠ u := fun e => by have := hlt v y; omega
          obtain ⟨h1, h2, h3⟩ := hg v y
          rw [valV_put, if_neg (fun q => ne (by have := Sum.inl.inj q; omega)), if_neg ne]
          exact ⟨h1, h2, by omega⟩
        · rw [List.mem_singleton.mp y, valV_put, if_pos rfl, if_pos rfl]
          exact ⟨rfl, nxR_par u rk, Nat.le_refl _⟩
      · rw [take_succ' hu] at hv hv'
        dsimp only
        rcases List.mem_append.mp hv with y | y
        · have ne : v ≠ u := fun e => by have := hlt v y; omega
          rw [if_neg ne]
          rcases List.mem_append.mp hv' with y' | y'
          · have ne' : v' ≠ u := fun e => by have := hlt v' y'; omega
            rw [if_neg ne']
            exact hmono v y v' y' hle
          · rw [List.mem_singleton.mp y', if_pos rfl]
            have := (hg v y).2.2
            omega
        · rw [List.mem_singleton.mp y] at hle ⊢
          rcases List.mem_append.mp hv' with y' | y'
          · have := hlt v' y'; omega
          · rw [List.mem_singleton.mp y']; exact Nat.le_refl _
    rintro σ H4 ⟨rk, v3, kvs, g, rfl, k4, e4, l4, r4, hg, hmono⟩
    rw [List.length_map] at r4
    rw [List.length_map, List.take_length] at hg hmono
    have s04 : Same H H4 := fun b o hb => k4 _ _ (ne_of_none hb nD) (s03 _ _ hb)
    have ea4 := s04 _ _ ea
    refine ⟨_, rfl, a, rfl, ⟨_, .of ea4⟩, fun R nR => lc_tup (K := K) (a := a) (xs := ps.map VN) (fun i H' => Same H4 H' ∧ H' R = some (.lst (((ps.take i).map g).map VN))) ⟨same_new nR, upd_same⟩ (fun i H' _ z => .of (z.1 _ _ ea4)) ?_ ?_⟩
    · rintro i v H5 hi ⟨s5, e5⟩
      obtain ⟨u, hu, rfl⟩ := nats_get hi
      have hil := lt_of_get hu
      have hm := (hg u ((hnm u).mpr (List.mem_of_getElem? hu))).1
      have g5 := DGet.k (k := Sum.inl (u : Int)) (s5 _ _ e4)
      rw [hm] at g5
      refine ⟨rfl, _, rfl, _, rfl, D, _, rfl, g5, _, e5, ?_, fun b o hb => by rw [upd_ne (ne_of_none hb nR)]; exact s5 _ _ hb, by rw [upd_same, take_succ' hu, List.map_append, List.map_append]; rfl⟩
      rw [List.length_map, List.length_map, List.length_take]
      exact Nat.lt_of_le_of_lt (show _ ≤ 1000 by omega) (by decide)
    rintro H5 ⟨s5, e5⟩
    rw [List.length_map, List.take_length] at e5
    have hget : ∀ i, i < ps.length → (ps.map g).getD i 0 = g (ps.getD i 0) ∧ ps.getD i 0 ∈ ns := fun i hi => by
      rw [List.getD_eq_getElem?_getD, List.getD_eq_getElem?_getD, List.getElem?_map, List.getElem?_eq_getElem hi]
      exact ⟨rfl, (hnm _).mpr (List.getElem_mem _)⟩
    refine q H5 R (ps.map g) (s04.trans s5) (s04.free nR) e5 ⟨List.length_map _, fun i j hi hj hle => ?_, fun i hi => ?_, fun i hi => ?_⟩
    · rw [(hget i hi).1, (hget j hj).1]
      exact hmono _ (hget i hi).2 _ (hget j hj).2 hle
    · rw [(hget i hi).1]
      exact (hg _ (hget i hi).2).2.1
    · rw [(hget i hi).1]
      have := (hg _ (hget i hi).2).2.2
      omega
theorem rowsA_of {mk : List V → HO} {H : Hp} : ∀ {as : List Addr} {c : List (List Int)}, as.length = c.length → (∀ (i : Nat) (a : Addr), as[i]? = some a → H a = some (mk ((c.getD i []).map V.int))) → RowsA mk H as c
  | [], [], _, _ => True.intro
  | a :: as, r :: c, hl, h => ⟨h 0 a rfl, rowsA_of (Nat.succ.inj hl) fun i b e => h (i + 1) b e⟩
  | [], _ :: _, hl, _ => by cases hl
  | _ :: _, [], hl, _ => by cases hl
def cZ (mv : Gr.G) : List (List Int) := mv.map fun r => r.map fun n : Nat => (n : Int)
theorem cZ_row (mv : Gr.G) (i : Nat) : (cZ mv).getD i [] = (Gr.row mv i).map fun n : Nat => (n : Int) := by
  unfold cZ Gr.row
  rw [List.getD_eq_getElem?_getD, List.getD_eq_getElem?_getD, List.getElem?_map]
  cases mv[i]? <;> rfl
def spRevN : Sp := fun vs H Q _ => ∃ (r : Addr) (d : Gd), vs = [.ref r] ∧ GrT H r d.mv ∧ d.Ok ∧ ∀ (H' : Hp) (y : Addr), Same H H' → H y = none → GrL H' y (rvG d.mv) → Q (.ref y) H'
theorem cal_revN (T : Txt K mg) : C8.Cal P w K mg base 1 "reversed_graph" spRevN [] := by
  obtain ⟨f, fd, ps, ds, F, h1, h2, h3, h4⟩ := cal_rev (P := P) (w := w) (base := base) T
  refine ⟨f, fd, ps, ds, F.imp fun vs H Q E h => ?_, h1, h2, h3, h4⟩
  obtain ⟨r, d, rfl, ⟨as, e1, e2, e3⟩, ok, q⟩ := h
  have hcl : (cZ d.mv).length = d.mv.length := List.length_map _
  refine ⟨r, as, cZ d.mv, rfl, e1, rowsA_of (by rw [hcl]; exact e2) (fun i a ha => by rw [cZ_row, ← nt_int]; exact e3 i a ha), by rw [hcl]; exact ok.n2, fun r hr => ?_, fun H' y bs g s1 hLL ny _ hgl hg => q H' y s1 ny ?_⟩
  · rw [hcl]
    obtain ⟨q', hq, rfl⟩ := List.mem_map.mp hr
    obtain ⟨i, hi⟩ := List.mem_iff_getElem?.mp hq
    have er : Gr.row d.mv i = q' := by unfold Gr.row; rw [List.getD_eq_getElem?_getD, hi]; rfl
    refine ⟨List.pairwise_map.mpr ?_, fun z hz => ?_⟩
    · have := ok.asc i
      rw [er] at this
      exact this.imp fun h => Int.ofNat_lt.mpr h
    · obtain ⟨n, hn, rfl⟩ := List.mem_map.mp hz
      have := ok.rg i n (by rw [er]; exact hn)
      exact ⟨Int.natCast_nonneg n, Int.ofNat_lt.mpr this⟩
  · rw [hcl] at hgl hg
    refine ⟨bs, hLL.1, by rw [rv_len, hLL.2.len, hgl], fun i a ha => ?_⟩
    obtain ⟨row, hrow, hra⟩ := hLL.2.get ha
    have hil : i < d.mv.length := by rw [← hgl]; exact lt_of_get hrow
    rw [hg i hil] at hrow
    rw [hra, ← Option.some.inj hrow, rv_row hil, ← nt_int]
    congr 4
    funext k
    exact decide_eq_decide.mpr (by rw [cZ_row, mem_cast])

theorem natL_snoc {own : List Nat} {T i v : Nat} (h : own[i]? = some v) (hv : v < T) : natL (own.take (i + 1)) T = (natL (own.take i) T).set v (Gr.row (natL (own.take i) T) v ++ [i]) := by
  have hil := lt_of_get h
  apply List.ext_getElem?
  intro l
  rw [List.getElem?_set]
  have hlen : (natL (own.take i) T).length = T := natL_len _ _
  have gx : ∀ (o : List Nat) (l : Nat), l < T → (natL o T)[l]? = some (Gr.row (natL o T) l) := fun o l hl => by
    unfold Gr.row
    rw [List.getD_eq_getElem?_getD, List.getElem?_eq_getElem (by rw [natL_len]; exact hl)]
    rfl
  have rowE : ∀ l, l < T → Gr.row (natL (own.take (i + 1)) T) l = if l = v then Gr.row (natL (own.take i) T) v ++ [i] else Gr.row (natL (own.take i) T) l := fun l hl => by
    have l1 : (own.take (i + 1)).length = i + 1 := by rw [List.length_take]; omega
    have l2 : (own.take i).length = i := by rw [List.length_take]; omega
    have e0 : ∀ p, p < i → (own.take (i + 1)).getD p 0 = (own.take i).getD p 0 := fun p hp => by
      rw [List.getD_eq_getElem?_getD, List.getD_eq_getElem?_getD, List.getElem?_take, List.getElem?_take, if_pos (by omega), if_pos hp]
    have e1 : (own.take (i + 1)).getD i 0 = v := by
      rw [List.getD_eq_getElem?_getD, List.getElem?_take, if_pos (by omega), h]; rfl
    have flt : ((List.range i).filter fun p => decide ((own.take (i + 1)).getD p 0 = l)) = (List.range i).filter fun p => decide ((own.take i).getD p 0 = l) := List.filter_congr fun p hp => by rw [e0 p (List.mem_range.mp hp)]
    rw [natL_row hl, l1, List.range_succ, List.filter_append, flt]
    by_cases e : l = v
    · rw [if_pos e, natL_row hv, l2, List.filter_cons_of_pos (by rw [e1, e]; simp), List.filter_nil, e]
    · rw [if_neg e, natL_row hl, l2, List.filter_cons_of_neg (by rw [e1]; simpa using Ne.symm e), List.filter_nil, List.append_nil]
  rcases Nat.lt_or_ge l T with hl | hl
  · rw [gx _ l hl, rowE l hl]
    by_cases e : v = l
    · subst e
      rw [if_pos rfl, if_pos rfl, if_pos (by rw [hlen]; exact hv)]
    · rw [if_neg (Ne.symm e), if_neg e, gx _ l hl]
  · rw [List.getElem?_eq_none (by rw [natL_len]; exact hl), if_neg (by omega), List.getElem?_eq_none (by rw [natL_len]; exact hl)]
theorem natL_zero (T : Nat) : natL [] T = List.replicate T [] := by
  unfold natL
  apply List.ext_getElem?
  intro l
  rw [List.getElem?_map, List.getElem?_replicate]
  by_cases h : l < T
  · rw [if_pos h, List.getElem?_range h]; rfl
  · rw [if_neg h, List.getElem?_eq_none (by rw [List.length_range]; omega)]; rfl
def st0 (own : List Nat) (n T : Nat) : RSt := ⟨own, List.replicate n (-1), List.replicate T []⟩
theorem wf0 {d : Gd} {own : List Nat} {T : Nat} (ok : d.Ok) (lo : own.length = d.mv.length) (t1 : 1 ≤ T) (t2 : T ≤ 1001) (ot : ∀ p, p < d.mv.length → own.getD p 0 < T) : WF d own T (st0 own d.mv.length T) := by
  have hr : ∀ l, (List.replicate T ([] : List Nat)).getD l [] = [] := fun l => by
    rw [List.getD_eq_getElem?_getD, List.getElem?_replicate]
    split <;> rfl
  refine ⟨ok, lo, lo, List.length_replicate, List.length_replicate, t1, t2, ot, fun l _ => ?_, fun l _ p => ?_⟩
  · show ((List.replicate T ([] : List Nat)).getD l []).Nodup
    rw [hr]; simp
  · show p ∈ (List.replicate T ([] : List Nat)).getD l [] ↔ _
    rw [hr]
    refine ⟨fun h => (by cases h), fun ⟨_, a, b⟩ => ?_⟩
    have a : own.getD p 0 = l := a
    omega
def spInitR (CR CG : Addr) : Sp := fun vs H Q _ => ∃ (x g dx : Addr) (d : Gd) (U : List Nat), vs = [.ref x, .ref g] ∧ H x = some (.ins CR dx []) ∧ GmN CG H g d ∧ d.Ok ∧ (∀ p ∈ d.ps, p ∈ U) ∧ U.length ≤ 63 ∧
  ∀ (H' : Hp) (A : RA) (own : List Nat) (TN : Nat) (jas : List Addr), Kp x H H' → A.mu jas ≠ [] → (∀ b ∈ A.mu jas, H b = none) → Rkd d.ps own → RgAt CR CG H' x A d own TN jas (st0 own d.mv.length TN) → WF d own TN (st0 own d.mv.length TN) → (∀ p, p < d.mv.length → own.getD p 0 ≤ TN - 1) → Q .non H'
theorem ok_initR {CR CG f : Addr} {fd : FuncData} (T : Txt K mg) (PR : RegC K CR) (PC : GmeC K CG) (F : L2.Fun K "__init__" "Regions.__init__" s_Regions_init f fd) : FnOk P w K mg base CX0 2 f fd ["self", "game"] (spInitR CR CG) := by
  have C_reversed_graph : C8.Cal P w K mg base 1 "reversed_graph" spRevN [] := cal_revN T
  have C_ranked : C8.Cal P w K mg base 1 "ranked" spRank [] := cal_rank T
  refine F.ok sc_Regions_init (fun vs H Q E h => ?_) (fun cdv A' outer s' H vs Q E hr h => ?_)
  · obtain ⟨_, _, _, _, _, rfl, _⟩ := h
    rfl
  · obtain ⟨x, g, dx, d, U, rfl, hx, hg, ok, hU, hU2, q⟩ := h
    refine ⟨_, (pss_cons
      (ps_fld (pv 0) (pv 1) rfl)
      (pss_cons
      (ps_fld (pv 0) (C8.pe_c C_reversed_graph hr (by decide) (by rfl) (pa_cons (pe_fld (pv 1) rfl) pa_nil)) rfl)
      (pss_cons
      (ps_fld (pv 0) (C8.pe_c C_ranked hr (by decide) (by rfl) (pa_cons (pe_fld (pv 1) rfl) pa_nil)) rfl)
      (pss_cons
      (ps_fld (pv 0) (pe_callTy (call_list_ofK (K := K) rfl) (by rfl) T.z_list (by decide +kernel) (pa_cons (pe_fld (pv 0) rfl) pa_nil)) rfl)
      (pss_cons
      (ps_fld (pv 0) (pe_op op_rep (pe_lst (pa_cons (pe_un un_neg pe_int) pa_nil)) (pe_callB (call_lenK (K := K) rfl) (by rfl) T.z_len PySem.boot_len (pa_cons (pe_fld (pv 0) rfl) pa_nil))) rfl)
      (pss_cons
      (ps_fld (pv 0) (pe_lc (own := [("_", 4)]) (g := gName 4) (tt := tYes) rfl sc_Regions_init.nd (pi_range1 (by rfl) T.z_range (pa_cons (pe_op op_add (pe_callB (call_maxK (K := K) rfl rfl) (by rfl) T.z_max (by decide +kernel) (pa_cons (pe_fld (pv 0) rfl) pa_nil)) pe_int) pa_nil)) (blkOk_by (N := N_Regions_init) (sc := defScope s_Regions_init) (by decide +kernel)) (fun _ _ _ _ _ => (pg_name (i := 4) sc_Regions_init.nd rfl (Or.inl rfl))) (fun _ _ _ _ _ => pts_nil) (fun _ _ _ _ _ => (pe_lst pa_nil))) rfl)
      (pss_cons
      (ps_for PassesOwn.never rfl (pi_enum (by rfl) T.z_enumerate (pa_cons (pe_fld (pv 0) rfl) pa_nil)) (pg_tup (by rfl) (pgs_cons (pg_name (i := 2) sc_Regions_init.nd rfl (.inl rfl)) (pgs_cons (pg_name (i := 3) sc_Regions_init.nd rfl (.inl rfl)) pgs_nil))) (pss_one
      (ps_expr (pe_bm PySem.F.plainAttrs_list PySem.F.slot_list_append PySem.F.type_list_append mt_append (pe_ix (ix_listK (K := K) rfl) (pe_fld (pv 0) rfl) (pv 3) (fun _ _ => rfl)) (pa_cons (pv 2) pa_nil)))))
      (pss_one
      (ps_fld (pv 0) (pe_lc (own := [("_", 4)]) (g := gName 4) (tt := tYes) rfl sc_Regions_init.nd (pi_list (pe_fld (pv 0) rfl)) (blkOk_by (N := N_Regions_init) (sc := defScope s_Regions_init) (by decide +kernel)) (fun _ _ _ _ _ => (pg_name (i := 4) sc_Regions_init.nd rfl (Or.inl rfl))) (fun _ _ _ _ _ => pts_nil) (fun _ _ _ _ _ => (pe_lst pa_nil))) rfl))))))))), ?_⟩
    have hn2 := ok.n2
    obtain ⟨gx, ot, pt, rt, g1, g2, g3, g4⟩ := id hg
    have ngx : g ≠ x := fun z => by rw [z, hx] at g1; cases g1
    have nptx : pt ≠ x := fun z => by rw [z, hx] at g3; cases g3
    have nrtx : rt ≠ x := fun z => by obtain ⟨as, e, _⟩ := g4; rw [z, hx] at e; cases e
    -- game
    refine ⟨_, rfl, _, rfl, x, CR, dx, [], rfl, hx, PR.cl, PR.ng, by decide, ?_⟩
    have k1 : Kp x H (upd H x (.ins CR dx (putF "game" (.ref g) []))) := Kp.own
    have x1 := upd_same (H := H) (a := x) (o := .ins CR dx (putF "game" (.ref g) []))
    generalize upd H x (.ins CR dx (putF "game" (.ref g) [])) = H1 at k1 x1 ⊢
    have gm1 : GrT H1 rt d.mv := by
      obtain ⟨as, e1, e2, e3⟩ := g4
      exact ⟨as, k1 _ _ nrtx e1, e2, fun i a ha => k1 _ _ (fun z => by have := e3 i a ha; rw [z, hx] at this; cases this) (e3 i a ha)⟩
    -- sources
    refine ⟨_, rfl, g, CG, gx, _, _, rfl, k1 _ _ ngx g1, PC.cl, PC.nm, gf_m _ _ _, rt, d, rfl, gm1, ok, fun H2 sA s2 nsA eS => ?_⟩
    have x2 := s2 _ _ x1
    refine ⟨_, rfl, x, CR, dx, _, rfl, x2, PR.cl, PR.ns, pl_lt (pl_next pl_0) (by decide), ?_⟩
    have k3 : Kp x H2 (upd H2 x (.ins CR dx (putF "sources" (.ref sA) (putF "game" (.ref g) [])))) := Kp.own
    have x3 := upd_same (H := H2) (a := x) (o := .ins CR dx (putF "sources" (.ref sA) (putF "game" (.ref g) [])))
    generalize upd H2 x (.ins CR dx (putF "sources" (.ref sA) (putF "game" (.ref g) []))) = H3 at k3 x3 ⊢
    have k03 : Kp x H H3 := (k1.trans (Same.kp s2)).trans k3
    -- own levels
    have hpl : d.ps.length ≤ 1000 := by rw [ok.lp]; exact hn2
    refine ⟨_, rfl, g, CG, gx, _, _, rfl, k03 _ _ ngx g1, PC.cl, PC.np, gf_p _ _ _, pt, d.ps, U, rfl, k03 _ _ nptx g3, hpl, hU, hU2, fun H4 oA own s4 noA eO hRk => ?_⟩
    have x4 := s4 _ _ x3
    have hol : own.length = d.mv.length := by rw [hRk.len, ok.lp]
    refine ⟨_, rfl, x, CR, dx, _, rfl, x4, PR.cl, PR.no, pl_lt (pl_next (pl_next pl_0)) (by decide), ?_⟩
    have k5 : Kp x H4 (upd H4 x (.ins CR dx (putF "own_levels" (.ref oA) (putF "sources" (.ref sA) (putF "game" (.ref g) []))))) := Kp.own
    have x5 := upd_same (H := H4) (a := x) (o := .ins CR dx (putF "own_levels" (.ref oA) (putF "sources" (.ref sA) (putF "game" (.ref g) []))))
    generalize upd H4 x (.ins CR dx (putF "own_levels" (.ref oA) (putF "sources" (.ref sA) (putF "game" (.ref g) [])))) = H5 at k5 x5 ⊢
    have nox : oA ≠ x := fun z => by rw [z, x4] at eO; cases eO
    have eO5 := k5 _ _ nox eO
    -- levels
    have fo : (putF "own_levels" (.ref oA) (putF "sources" (.ref sA) (putF "game" (.ref g) [])) : List (Str × V)).lookup ("own_levels" : Str) = some (.ref oA) := by rw [lookup_putF, if_pos rfl]
    refine ⟨_, rfl, x, CR, dx, _, _, rfl, x5, PR.cl, PR.no, fo, oA, _, rfl, .inl (.of eO5), fun lA nlA => ?_⟩
    generalize hX : upd H5 lA _ = H6; obtain ⟨sH6, elA⟩ := nw nlA hX; clear hX
    have x6 := sH6 _ _ x5
    refine ⟨_, rfl, x, CR, dx, _, rfl, x6, PR.cl, PR.nl, pl_lt (pl_next (pl_next (pl_next pl_0))) (by decide), ?_⟩
    have k7 : Kp x H6 (upd H6 x (.ins CR dx (putF "levels" (.ref lA) (putF "own_levels" (.ref oA) (putF "sources" (.ref sA) (putF "game" (.ref g) [])))))) := Kp.own
    have x7 := upd_same (H := H6) (a := x) (o := .ins CR dx (putF "levels" (.ref lA) (putF "own_levels" (.ref oA) (putF "sources" (.ref sA) (putF "game" (.ref g) [])))))
    generalize upd H6 x (.ins CR dx (putF "levels" (.ref lA) (putF "own_levels" (.ref oA) (putF "sources" (.ref sA) (putF "game" (.ref g) []))))) = H7 at k7 x7 ⊢
    have nlx : lA ≠ x := fun z => by rw [z, x5] at nlA; cases nlA
    have eL7 := k7 _ _ nlx elA
    have fl : (putF "levels" (.ref lA) (putF "own_levels" (.ref oA) (putF "sources" (.ref sA) (putF "game" (.ref g) []))) : List (Str × V)).lookup ("levels" : Str) = some (.ref lA) := by rw [lookup_putF, if_pos rfl]
    -- choices
    refine ⟨_, rfl, by show 1 ≤ sizeLine; decide, fun tl ntl => ?_⟩
    generalize hX : upd H7 tl _ = H8; obtain ⟨sH8, etl⟩ := nw ntl hX; clear hX
    have x8 := sH8 _ _ x7
    have eL8 := sH8 _ _ eL7
    refine ⟨_, rfl, x, CR, dx, _, _, rfl, x8, PR.cl, PR.nl, fl, lA, _, rfl, .inl (.of eL8), tl, _, _, rfl, rfl, etl, by omega, by rw [List.length_map]; omega, ?_, fun cA ncA => ?_⟩
    · rw [List.length_map, hol, Int.toNat_natCast]
      show 1 * d.mv.length ≤ 16777216
      omega
    rw [List.length_map, hol, Int.toNat_natCast, show (List.replicate d.mv.length [V.int (-1)]).flatten = (List.replicate d.mv.length (-1 : Int)).map V.int by simp]
    generalize hX : upd H8 cA _ = H9; obtain ⟨sH9, ecA⟩ := nw ncA hX; clear hX
    have x9 := sH9 _ _ x8
    refine ⟨_, rfl, x, CR, dx, _, rfl, x9, PR.cl, PR.nc, pl_lt (pl_next (pl_next (pl_next (pl_next pl_0)))) (by decide), ?_⟩
    have kA : Kp x H9 (upd H9 x (.ins CR dx (putF "choices" (.ref cA) (putF "levels" (.ref lA) (putF "own_levels" (.ref oA) (putF "sources" (.ref sA) (putF "game" (.ref g) []))))))) := Kp.own
    have xA := upd_same (H := H9) (a := x) (o := .ins CR dx (putF "choices" (.ref cA) (putF "levels" (.ref lA) (putF "own_levels" (.ref oA) (putF "sources" (.ref sA) (putF "game" (.ref g) []))))))
    generalize upd H9 x (.ins CR dx (putF "choices" (.ref cA) (putF "levels" (.ref lA) (putF "own_levels" (.ref oA) (putF "sources" (.ref sA) (putF "game" (.ref g) [])))))) = HA at kA xA ⊢
    have ncx : cA ≠ x := fun z => by rw [z, x8] at ncA; cases ncA
    have eC := kA _ _ ncx ecA
    have eLA := kA _ _ nlx (sH9 _ _ eL8)
    have flc : (putF "choices" (.ref cA) (putF "levels" (.ref lA) (putF "own_levels" (.ref oA) (putF "sources" (.ref sA) (putF "game" (.ref g) [])))) : List (Str × V)).lookup ("levels" : Str) = some (.ref lA) := by rw [lookup_putF, if_neg (by decide +kernel), lookup_putF, if_pos rfl]
    -- natives
    have eLi : HA lA = some (.lst ((own.map fun n : Nat => (n : Int)).map V.int)) := by rw [eLA, nt_int]
    refine ⟨_, rfl, x, CR, dx, _, _, rfl, xA, PR.cl, PR.nl, flc, lA, own.map fun n : Nat => (n : Int), rfl, .of eLi, by rw [List.length_map]; have := ok.n1; omega, fun mz hmz hmax => ?_⟩
    obtain ⟨m, hm, rfl⟩ := List.mem_map.mp hmz
    obtain ⟨im, him⟩ := List.mem_iff_getElem?.mp hm
    have himl := lt_of_get him
    have hm64 : m ≤ 64 := by
      have := hRk.bd im (by rw [← hRk.len]; exact himl)
      rw [List.getD_eq_getElem?_getD, him] at this
      exact this
    have hmx : ∀ p, p < d.mv.length → own.getD p 0 ≤ m := fun p hp => by
      have h1 : (own.getD p 0 : Int) ∈ own.map fun n : Nat => (n : Int) := by
        refine List.mem_map.mpr ⟨own.getD p 0, ?_, rfl⟩
        exact List.mem_of_getElem? (getD_n (by omega))
      exact Int.ofNat_le.mp (hmax _ h1)
    refine ⟨_, _, rfl, rfl, _, rfl, by omega, by omega, fun nA nnA => ?_⟩
    rw [show ((m : Int) + 1).toNat = m + 1 by omega]
    refine lc_range (lo := 0) (n := m + 1) (fun i H' => ∃ bs : List Addr, Same HA H' ∧ NL HA nA bs (List.replicate i []) H') ⟨[], same_new nnA, upd_same, rfl, by simp, by simp, by simp⟩ ?_ ?_
    · rintro i HB hi ⟨bs, sB, hB⟩
      refine ⟨rfl, Nat.zero_le _, fun t nt => ?_⟩
      generalize hX : upd HB t _ = HC; obtain ⟨sHC, et⟩ := nw nt hX; clear hX
      have hbl : bs.length = i := by rw [hB.len, List.length_replicate]
      refine ⟨_, sHC _ _ hB.d, by rw [List.length_map]; exact Nat.lt_of_le_of_lt (show bs.length ≤ 1000 by omega) (by decide), bs ++ [t], fun x y e => by rw [upd_ne (ne_of_none e nnA)]; exact (sB.trans sHC) _ _ e, hB.add sB nt sHC et⟩
    rintro HB ⟨nas, sB, hB⟩
    have xB := sB _ _ xA
    refine ⟨_, rfl, x, CR, dx, _, rfl, xB, PR.cl, PR.nn, pl_lt (pl_next (pl_next (pl_next (pl_next (pl_next pl_0))))) (by decide), ?_⟩
    have kC : Kp x HB (upd HB x (.ins CR dx (putF "natives" (.ref nA) (putF "choices" (.ref cA) (putF "levels" (.ref lA) (putF "own_levels" (.ref oA) (putF "sources" (.ref sA) (putF "game" (.ref g) [])))))))) := Kp.own
    have xC := upd_same (H := HB) (a := x) (o := .ins CR dx (putF "natives" (.ref nA) (putF "choices" (.ref cA) (putF "levels" (.ref lA) (putF "own_levels" (.ref oA) (putF "sources" (.ref sA) (putF "game" (.ref g) [])))))))
    generalize upd HB x (.ins CR dx (putF "natives" (.ref nA) (putF "choices" (.ref cA) (putF "levels" (.ref lA) (putF "own_levels" (.ref oA) (putF "sources" (.ref sA) (putF "game" (.ref g) []))))))) = HC at kC xC ⊢
    have nnx : nA ≠ x := fun z => by rw [z, xA] at nnA; cases nnA
    have nbx : ∀ b ∈ nas, b ≠ x := fun b hb z => by have := (hB.fr b hb).1; rw [z, xA] at this; cases this
    have hC : NL HA nA nas (List.replicate (m + 1) []) HC := ⟨kC _ _ nnx hB.d, hB.len, hB.nd, hB.fr, fun i b e => kC _ _ (nbx b (List.mem_of_getElem? e)) (hB.get i b e)⟩
    have eLC := kC _ _ nlx (sB _ _ eLA)
    have flC : (putF "natives" (.ref nA) (putF "choices" (.ref cA) (putF "levels" (.ref lA) (putF "own_levels" (.ref oA) (putF "sources" (.ref sA) (putF "game" (.ref g) []))))) : List (Str × V)).lookup ("levels" : Str) = some (.ref lA) := by rw [lookup_putF, if_neg (by decide +kernel), lookup_putF, if_neg (by decide +kernel), lookup_putF, if_pos rfl]
    have fnC : (putF "natives" (.ref nA) (putF "choices" (.ref cA) (putF "levels" (.ref lA) (putF "own_levels" (.ref oA) (putF "sources" (.ref sA) (putF "game" (.ref g) []))))) : List (Str × V)).lookup ("natives" : Str) = some (.ref nA) := by rw [lookup_putF, if_pos rfl]
    have nnL : lA ∉ nas := fun z => by have := (hB.fr lA z).1; rw [eLA] at this; cases this
    have nnX : x ∉ nas := fun z => nbx x z rfl
    -- the places of each level
    rw [← natL_zero] at hC
    refine ⟨_, rfl, x, CR, dx, _, _, rfl, xC, PR.cl, PR.nl, flC, lA, _, rfl, .of eLC, for_it (walk_enum (K := K) (a := lA) (xs := own.map VN)) (fun i σ H' => ∃ v2 v3 v4 : Option V, σ = [some (.ref x), some (.ref g), v2, v3, v4] ∧ (∀ b o, b ∉ nas → HC b = some o → H' b = some o) ∧ NL HA nA nas (natL (own.take i) (m + 1)) H') ⟨none, none, none, rfl, fun _ _ _ h => h, hC⟩ (fun i σ H' _ ⟨_, _, _, _, z, _⟩ => .of (z _ _ nnL eLC)) ?_ ?_⟩
    · rintro i v σ HD HE hi ⟨v2, v3, v4, rfl, kD, hD⟩ ⟨p, xi, y, rfl, np, rfl, hx', hy⟩
      obtain rfl := Option.some.inj hx'
      obtain ⟨u, hu, rfl⟩ := nats_get hy
      have hil := lt_of_get hu
      have hum : u < m + 1 := by
        have := hmx i (by omega)
        rw [List.getD_eq_getElem?_getD, hu] at this
        exact Nat.lt_succ_of_le this
      have npn : p ∉ nas := fun z => by
        obtain ⟨j, hj⟩ := List.mem_iff_getElem?.mp z
        rw [hD.get j p hj] at np
        cases np
      generalize hX : upd HD p _ = HE; obtain ⟨sHE, ep⟩ := nw np hX; clear hX
      have hE := hD.keep sHE
      have kE : ∀ b o, b ∉ nas → HC b = some o → HE b = some o := fun b o nb e => sHE _ _ (kD b o nb e)
      refine ⟨p, _, rfl, .of ep, rfl, _, _, rfl, _, _, rfl, rfl, ?_⟩
      obtain ⟨b, hb⟩ : ∃ b, nas[u]? = some b := ⟨_, List.getElem?_eq_getElem (by rw [hE.len, natL_len]; exact hum)⟩
      have eb := hE.get u b hb
      have hrl : (Gr.row (natL (own.take i) (m + 1)) u).length ≤ 1000 := by
        rw [natL_row hum]
        refine Nat.le_trans (List.length_filter_le _ _) ?_
        rw [List.length_range, List.length_take]
        omega
      refine ⟨_, rfl, x, CR, dx, _, _, rfl, kE _ _ nnX xC, PR.cl, PR.nn, fnC, _, rfl, nA, _, _, .ref b, rfl, rfl, .of hE.d, atN hb, .inl ⟨rfl, _, .of eb⟩, _, rfl, b, _, _, rfl, rfl, eb, by rw [List.length_map]; exact Nat.lt_of_le_of_lt hrl (by decide), ?_⟩
      rw [show (Gr.row (natL (own.take i) (m + 1)) u).map VN ++ [VN i] = (Gr.row (natL (own.take i) (m + 1)) u ++ [i]).map VN by rw [List.map_append]; rfl]
      refine ⟨_, _, _, rfl, fun c o nc e => by rw [upd_ne (fun z => nc (by rw [z]; exact List.mem_of_getElem? hb))]; exact kE c o nc e, ?_⟩
      rw [natL_snoc hu hum]
      exact hE.put hb
    rintro σ HD ⟨v2, v3, v4, rfl, kD, hD⟩
    rw [List.length_map, List.take_length] at hD
    have xD := kD _ _ nnX xC
    -- who has joined
    refine ⟨_, rfl, x, CR, dx, _, _, rfl, xD, PR.cl, PR.nn, fnC, nA, rfl, ⟨_, .of hD.d⟩, fun jA njA => lc_list (K := K) (a := nA) (xs := nas.map V.ref) (fun i H' => ∃ bs : List Addr, Same HD H' ∧ NL HD jA bs (List.replicate i []) H') ⟨[], same_new njA, upd_same, rfl, by simp, by simp, by simp⟩ (fun i H' _ ⟨_, z, _⟩ => .of (z _ _ hD.d)) ?_ ?_⟩
    · rintro i v HE hi ⟨bs, sE, hE⟩
      have hil : i < nas.length := by have := lt_of_get hi; rwa [List.length_map] at this
      have hnl : nas.length = m + 1 := by rw [hD.len, natL_len]
      refine ⟨rfl, Nat.zero_le _, fun t nt => ?_⟩
      generalize hX : upd HE t _ = HF; obtain ⟨sHF, et⟩ := nw nt hX; clear hX
      have hbl : bs.length = i := by rw [hE.len, List.length_replicate]
      refine ⟨_, sHF _ _ hE.d, by rw [List.length_map]; exact Nat.lt_of_le_of_lt (show bs.length ≤ 1000 by omega) (by decide), bs ++ [t], fun x y e => by rw [upd_ne (ne_of_none e njA)]; exact (sE.trans sHF) _ _ e, hE.add sE nt sHF et⟩
    rintro HE ⟨jas, sE, hE⟩
    have hnl : nas.length = m + 1 := by rw [hD.len, natL_len]
    rw [List.length_map, hnl] at hE
    have xE := sE _ _ xD
    refine ⟨_, rfl, x, CR, dx, _, rfl, xE, PR.cl, PR.nj, pl_lt (pl_next (pl_next (pl_next (pl_next (pl_next (pl_next pl_0)))))) (by decide), ?_⟩
    have kF : Kp x HE (upd HE x (.ins CR dx (rgf g sA oA lA cA nA jA))) := Kp.own
    have xF : (upd HE x (.ins CR dx (rgf g sA oA lA cA nA jA))) x = some (.ins CR dx (rgf g sA oA lA cA nA jA)) := upd_same
    show Q V.non (upd HE x (.ins CR dx (rgf g sA oA lA cA nA jA)))
    generalize upd HE x (.ins CR dx (rgf g sA oA lA cA nA jA)) = HF at kF xF ⊢
    -- what is apart
    have kDF : ∀ b o, b ≠ x → HD b = some o → HF b = some o := fun b o nb e => kF b o nb (sE b o e)
    have kCF : ∀ b o, b ≠ x → b ∉ nas → HC b = some o → HF b = some o := fun b o nb nn e => kDF b o nb (kD b o nn e)
    have kAF : ∀ b o, b ≠ x → HA b = some o → HF b = some o := fun b o nb e => kCF b o nb (fun z => by have := (hB.fr b z).1; rw [this] at e; cases e) (kC b o nb (sB b o e))
    have k5A : Kp x H5 HA := (Same.kp sH6).trans (k7.trans ((Same.kp sH8).trans ((Same.kp sH9).trans kA)))
    have k4A : Kp x H4 HA := k5.trans k5A
    have k2A : Kp x H2 HA := k3.trans ((Same.kp s4).trans k4A)
    have k0A : Kp x H HA := (k1.trans (Same.kp s2)).trans k2A
    have njx : jA ≠ x := fun z => by rw [z, xD] at njA; cases njA
    have nj_bs : ∀ b ∈ jas, b ≠ x := fun b hb z => by have := (hE.fr b hb).1; rw [z, xD] at this; cases this
    -- none of what changes was there at the beginning
    have hxs : H x ≠ none := by rw [hx]; exact fun z => by cases z
    have new0 : ∀ b, HD b = none → H b = none := fun b hb => by
      cases e : H b with
      | none => rfl
      | some o =>
        by_cases c : b = x
        · rw [c, xD] at hb; cases hb
        · have := kD b o (fun z => by have h1 := (hB.fr b z).1; rw [k0A b o c e] at h1; cases h1) (kC b o c (sB b o (k0A b o c e)))
          rw [this] at hb; cases hb
    have nl0 : ∀ b, H5 b = none → H b = none := fun b hb => by
      cases e : H b with
      | none => rfl
      | some o =>
        by_cases c : b = x
        · rw [c, x5] at hb; cases hb
        · have := k5 b o c (s4 b o (k3 b o c (s2 b o (k1 b o c e))))
          rw [this] at hb; cases hb
    have nc5 : H5 cA = none := by
      cases e : H5 cA with
      | none => rfl
      | some o =>
        have := sH8 _ _ (k7 _ _ ncx (sH6 _ _ e))
        rw [this] at ncA; cases ncA
    have nDs : ∀ b o, HD b = some o → b ∉ jA :: jas := fun b o e z => by
      rcases List.mem_cons.mp z with y | y
      · rw [y, njA] at e; cases e
      · rw [(hE.fr b y).1] at e; cases e
    have nmu5 : ∀ b o, b ≠ x → H5 b = some o → b ∉ ({ dx := dx, gA := g, sA := sA, oA := oA, lA := lA, cA := cA, nA := nA, jA := jA } : RA).mu jas := fun b o nb e z => by
      unfold RA.mu at z
      rcases List.mem_cons.mp z with y | y
      · have y : b = lA := y
        rw [y, nlA] at e; cases e
      · rcases List.mem_cons.mp y with y | y
        · have y : b = cA := y
          rw [y, nc5] at e; cases e
        · refine nDs b o (kD b o (fun z => by have h1 := (hB.fr b z).1; rw [k5A b o nb e] at h1; cases h1) (kC b o nb (sB b o (k5A b o nb e)))) y
    have eLF := kAF _ _ nlx eLA
    have eCF := kAF _ _ ncx eC
    have nlc : lA ≠ cA := fun z => by rw [← z, eL8] at ncA; cases ncA
    have inD : ∀ b o, b ≠ x → HA b = some o → HD b = some o := fun b o nb e => kD b o (fun z => by have h1 := (hB.fr b z).1; rw [e] at h1; cases h1) (kC b o nb (sB b o e))
    have x_mu : x ∉ ({ dx := dx, gA := g, sA := sA, oA := oA, lA := lA, cA := cA, nA := nA, jA := jA } : RA).mu jas := fun z => by
      unfold RA.mu at z
      rcases List.mem_cons.mp z with y | y
      · exact nlx y.symm
      · rcases List.mem_cons.mp y with y | y
        · exact ncx y.symm
        · exact nDs x _ xD y
    have nA_mu : ∀ b o, HA b = none → HD b = some o → b ≠ x → b ∉ ({ dx := dx, gA := g, sA := sA, oA := oA, lA := lA, cA := cA, nA := nA, jA := jA } : RA).mu jas := fun b o na e nb z => by
      unfold RA.mu at z
      rcases List.mem_cons.mp z with y | y
      · have y : b = lA := y
        rw [y, eLA] at na; cases na
      · rcases List.mem_cons.mp y with y | y
        · have y : b = cA := y
          rw [y, eC] at na; cases na
        · exact nDs b o e y
    refine q HF ⟨dx, g, sA, oA, lA, cA, nA, jA⟩ own (m + 1) jas ?_ (by unfold RA.mu; simp) (fun b hb => ?_) hRk ⟨fun H2' f2 => ?_, eLF, by rw [eCF]; rfl, kF _ _ njx hE.d, ?_, fun i a ha => ?_, ?_⟩ (wf0 ok hol (by omega) (by omega) fun p hp => by have := hmx p hp; omega) (fun p hp => by have := hmx p hp; omega)
    · exact fun b o nb e => kAF b o nb (k0A b o nb e)
    · unfold RA.mu at hb
      rcases List.mem_cons.mp hb with y | y
      · rw [y]; exact nl0 lA nlA
      · rcases List.mem_cons.mp y with y | y
        · rw [y]; exact nl0 cA nc5
        · rcases List.mem_cons.mp y with y | y
          · rw [y]; exact new0 jA njA
          · exact new0 b (hE.fr b y).1
    · -- what never changes
      have keep5 : ∀ b o, b ≠ x → H5 b = some o → H2' b = some o := fun b o nb e => f2 b o (nmu5 b o nb e) (kAF b o nb (k5A b o nb e))
      have k05' : Kp x H H5 := ((k1.trans (Same.kp s2)).trans k3).trans ((Same.kp s4).trans k5)
      have k25' : Kp x H2 H5 := k3.trans ((Same.kp s4).trans k5)
      refine ⟨f2 _ _ x_mu xF, ⟨gx, ot, pt, rt, keep5 _ _ ngx (k05' _ _ ngx g1), keep5 _ _ ?_ (k05' _ _ ?_ g2), keep5 _ _ nptx (k05' _ _ nptx g3), ?_⟩, ?_, keep5 _ _ nox eO5, ?_⟩
      · exact fun z => by rw [z, hx] at g2; cases g2
      · exact fun z => by rw [z, hx] at g2; cases g2
      · obtain ⟨as, e1, e2, e3⟩ := g4
        exact ⟨as, keep5 _ _ nrtx (k05' _ _ nrtx e1), e2, fun i a ha => by
          have na : a ≠ x := fun z => by have := e3 i a ha; rw [z, hx] at this; cases this
          exact keep5 _ _ na (k05' _ _ na (e3 i a ha))⟩
      · obtain ⟨as, e1, e2, e3⟩ := eS
        have nx2 : ∀ b o, (∀ C' d' f', o ≠ .ins C' d' f') → H2 b = some o → b ≠ x := fun b o ho e z => by
          rw [z, x2] at e
          exact ho _ _ _ (Option.some.inj e).symm
        exact ⟨as, keep5 _ _ (nx2 _ _ (fun _ _ _ z => by cases z) e1) (k25' _ _ (nx2 _ _ (fun _ _ _ z => by cases z) e1) e1), e2, fun i a ha => keep5 _ _ (nx2 _ _ (fun _ _ _ z => by cases z) (e3 i a ha)) (k25' _ _ (nx2 _ _ (fun _ _ _ z => by cases z) (e3 i a ha)) (e3 i a ha))⟩
      · refine ⟨nas, f2 _ _ (nA_mu _ _ nnA hD.d nnx) (kDF _ _ nnx hD.d), by rw [hD.len], fun i a ha => ?_⟩
        have e := hD.get i a ha
        have hm' := List.mem_of_getElem? ha
        exact f2 _ _ (nA_mu _ _ (hB.fr a hm').1 e (nbx a hm')) (kDF _ _ (nbx a hm') e)
    · show jas.length = (List.replicate (m + 1) ([] : List Nat)).length
      rw [hE.len]
    · have := hE.get i a ha
      rw [kF _ _ (nj_bs a (List.mem_of_getElem? ha)) this]
      congr 3
    · unfold RA.mu
      have hjD := fun b hb => (hE.fr b hb)
      have lD : HD lA = some (.lst (own.map VN)) := inD _ _ nlx eLA
      have cD : HD cA = some _ := inD _ _ ncx eC
      refine List.nodup_cons.mpr ⟨fun z => ?_, List.nodup_cons.mpr ⟨fun z => ?_, List.nodup_cons.mpr ⟨fun z => ?_, hE.nd⟩⟩⟩
      · rcases List.mem_cons.mp z with y | y
        · exact nlc y
        · exact nDs lA _ lD y
      · exact nDs cA _ cD z
      · exact (hE.fr jA z).2 rfl
theorem nd_of {H : Hp} {b d : Addr} (hd : Drw H d) (h : H b = none) : b ≠ d := fun z => by
  obtain ⟨o, y⟩ := hd
  rw [← z, h] at y
  cases y
theorem sameM_made {C x dx : Addr} {H1 H2 : Hp} (hx : H1 x = none) (hd : H1 dx = none) (k : Kp x (upd (upd H1 dx (.own x)) x (.ins C dx [])) H2) : Same H1 H2 := fun b o hb => by
  have n1 : b ≠ x := fun z => by rw [z, hx] at hb; cases hb
  have n2 : b ≠ dx := fun z => by rw [z, hd] at hb; cases hb
  refine k _ _ n1 ?_
  rw [upd_ne n1, upd_ne n2]
  exact hb
theorem sameM_fresh {C x dx : Addr} {H1 : Hp} (hx : H1 x = none) (hd : H1 dx = none) : Same H1 (upd (upd H1 dx (.own x)) x (.ins C dx [])) := sameM_made hx hd (Kp.refl _ _)
/-- what the search knows between two levels -/
def LS (d : Gd) (own : List Nat) (TN : Nat) (s : RSt) (L G m : Nat) : Prop :=
  (G = L ∧ Pm.Won (dG d own) (fun p => s.f p = L) s.c (L % 2)) ∨ (L = G + 1 ∧ Pm.Inv (dG d own) (TN - 1) s.f s.c G ∧ m = Pm.mea d.mv.length (TN - 1) s.f G + 2) ∨
  (L < G ∧ G < TN ∧ (∃ chI, Pm.Inv (dG d own) (TN - 1) s.f chI L ∧ ¬ Pm.Opn (dG d own) s.f L ∧ Pm.Chosen (dG d own) s.f chI s.c L) ∧ (∃ p, p < d.mv.length ∧ s.f p = L ∧ d.ow.getD p 0 ≠ L % 2 ∧ ∃ q ∈ Gr.row d.mv p, s.f q = G) ∧ (∀ p, p < d.mv.length → s.f p = L → d.ow.getD p 0 ≠ L % 2 → ∀ q ∈ Gr.row d.mv p, L < s.f q → G ≤ s.f q) ∧ m = Pm.mea d.mv.length (TN - 1) s.f L + 1)
structure WI (CR CG : Addr) (H : Hp) (x : Addr) (A : RA) (d : Gd) (own : List Nat) (TN : Nat) (H' : Hp) (s : RSt) (jas : List Addr) : Prop where
  sm : Same H H'
  R : RgAt CR CG H' x A d own TN jas s
  W : WF d own TN s
  lo : ∀ p, p < d.mv.length → own.getD p 0 ≤ s.f p
  fr : ∀ b ∈ A.mu jas, H b = none
theorem WI.step {CR CG x : Addr} {A : RA} {d : Gd} {own : List Nat} {TN : Nat} {H H1 H2 : Hp} {s s' : RSt} {jas jas' : List Addr} (w : WI CR CG H x A d own TN H1 s jas) (f : Fz (A.mu jas) H1 H2) (fr : ∀ b ∈ A.mu jas', b ∈ A.mu jas ∨ H1 b = none) (R : RgAt CR CG H2 x A d own TN jas' s') (W : WF d own TN s') (lo : ∀ p, p < d.mv.length → own.getD p 0 ≤ s'.f p) : WI CR CG H x A d own TN H2 s' jas' :=
  ⟨fun b o e => f b o (fun z => by rw [w.fr b z] at e; cases e) (w.sm b o e), R, W, lo, fun b hb => (fr b hb).elim (w.fr b) fun z => w.sm.free z⟩
theorem seQ_of {CR CG x : Addr} {A : RA} {d : Gd} {own : List Nat} {TN : Nat} {H Ha : Hp} {s : RSt} {ja : List Addr} {l : Nat} {Q : VK} (w : WI CR CG H x A d own TN Ha s ja)
    (h : ∀ (Hb : Hp) (s' : RSt) (G m : Nat), WI CR CG H x A d own TN Hb s' ja → LS d own TN s' l G m → m ≤ Pm.mea d.mv.length (TN - 1) s.f l + 1 → Q (VN G) Hb) : SeQ CR CG Ha x A d own TN ja s l Q := by
  have stl : ∀ {Hb : Hp} {s' : RSt}, Fz (A.mu ja) Ha Hb → RgAt CR CG Hb x A d own TN ja s' → WF d own TN s' → (∀ p, p < d.mv.length → s.f p ≤ s'.f p) → WI CR CG H x A d own TN Hb s' ja ∧ Pm.mea d.mv.length (TN - 1) s'.f l ≤ Pm.mea d.mv.length (TN - 1) s.f l := fun f R W up => ⟨w.step f (fun b hb => .inl hb) R W fun p hp => Nat.le_trans (w.lo p hp) (up p hp), Pm.mea_le up⟩
  refine ⟨fun Hb s' l' e f R W I up => ?_, fun Hb s' chI G hG f R W I no C up e1 e2 => ?_, fun Hb s' f R W lo wn => ?_⟩
  · subst e
    obtain ⟨w', hm⟩ := stl f R W up
    refine h Hb s' l' _ w' (.inr (.inl ⟨rfl, I, rfl⟩)) ?_
    have := Pm.mea_down (n := d.mv.length) (top := TN - 1) (r := s'.f) (L := l')
    omega
  · obtain ⟨w', hm⟩ := stl f R W up
    have hGT : G < TN := by
      obtain ⟨p, hp, _, _, q, hq, e⟩ := e1
      have := (I.lv q (W.ok.rg p q hq)).2
      have := W.t1
      omega
    exact h Hb s' G _ w' (.inr (.inr ⟨hG, hGT, ⟨chI, I, no, C⟩, e1, e2, rfl⟩)) (by omega)
  · exact h Hb s' l 0 (w.step f (fun b hb => .inl hb) R W lo) (.inl ⟨rfl, wn⟩) (Nat.zero_le _)
def spWon (CG : Addr) : Sp := fun vs H Q _ => ∃ (g : Addr) (d : Gd) (U : List Nat), vs = [.ref g] ∧ GmN CG H g d ∧ d.Ok ∧ (∀ p ∈ d.ps, p ∈ U) ∧ U.length ≤ 63 ∧
  ∀ (H' : Hp) (t mA cA : Addr) (ms : List Nat) (ch : List Int) (a : Nat) (own : List Nat), Same H H' → H mA = none → H cA = none → H' t = some (.tup [.ref mA, .ref cA, VN a]) → H' mA = some (.lst (ms.map VN)) → H' cA = some (.lst (ch.map V.int)) → ch.length = d.mv.length → ms.Nodup → (∀ p ∈ ms, p < d.mv.length) → a < 2 → Rkd d.ps own → Pm.Won (dG d own) (fun p => p ∈ ms) (fun p => ch.getD p (-1)) a → Q (.ref t) H'
theorem cal_won {CR CG fRI fM fL fG fO fC fE fS fP : Addr} {fdRI fdM fdL fdG fdO fdC fdE fdS fdP : FuncData} (T : Txt K mg) (PR : RegC K CR) (PC : GmeC K CG) (MKR : Mk K CR fRI) (gCR : mg "Regions" = some (.ref CR))
    (F0 : L2.Fun K "__init__" "Regions.__init__" s_Regions_init fRI fdRI) (BIR : Binds K fdRI ["self", "game"] [])
    (ME_members : Meth K CR "members" fM) (F1 : L2.Fun K "members" "Regions.members" s_Regions_members fM fdM) (BI_members : Binds K fdM ["self", "level"] [])
    (ME_grow : Meth K CR "grow" fG) (F3 : L2.Fun K "grow" "Regions.grow" s_Regions_grow fG fdG) (BI_grow : Binds K fdG ["self", "level"] [])
    (ME_lower_moves : Meth K CR "lower_moves" fL) (F2 : L2.Fun K "lower_moves" "Regions.lower_moves" s_Regions_lower_moves fL fdL) (BI_lower_moves : Binds K fdL ["self", "position", "level"] [])
    (ME_is_open : Meth K CR "is_open" fO) (F4 : L2.Fun K "is_open" "Regions.is_open" s_Regions_is_open fO fdO) (BI_is_open : Binds K fdO ["self", "level"] [])
    (ME_choose : Meth K CR "choose" fC) (F5 : L2.Fun K "choose" "Regions.choose" s_Regions_choose fC fdC) (BI_choose : Binds K fdC ["self", "level"] [])
    (ME_exits : Meth K CR "exits" fE) (F6 : L2.Fun K "exits" "Regions.exits" s_Regions_exits fE fdE) (BI_exits : Binds K fdE ["self", "level"] [])
    (ME_settle : Meth K CR "settle" fS) (F7 : L2.Fun K "settle" "Regions.settle" s_Regions_settle fS fdS) (BI_settle : Binds K fdS ["self", "level"] [])
    (ME_promote : Meth K CR "promote" fP) (F8 : L2.Fun K "promote" "Regions.promote" s_Regions_promote fP fdP) (BI_promote : Binds K fdP ["self", "level", "goal"] []) :
    C8.Cal P w K mg base 4 "won_part" (spWon CG) [] := by
  have FIR := ok_initR (P := P) (w := w) (base := base) (CG := CG) T PR PC F0
  have FN_members := ok_mem (P := P) (w := w) (base := base) (CG := CG) T PR F1
  have FN_settle := ok_settle (P := P) (w := w) (base := base) (CG := CG) T PR PC F7 ME_members F1 BI_members ME_lower_moves F2 BI_lower_moves ME_grow F3 BI_grow ME_is_open F4 BI_is_open ME_choose F5 BI_choose ME_exits F6 BI_exits
  have FN_promote := ok_promote (P := P) (w := w) (base := base) (CG := CG) T PR F8 ME_members F1 BI_members
  obtain ⟨f, fd, F, hm, hb⟩ := T.h_won_part
  refine ⟨f, fd, _, [], F.ok sc_won_part (fun vs H Q E h => ?_) (fun cdv A' outer s H vs Q E hr h => ?_), hm, F.kp, hb, .nil⟩
  · obtain ⟨_, _, _, rfl, _⟩ := h
    rfl
  · obtain ⟨g, d, U, rfl, hg, ok, hU, hU2, q⟩ := h
    refine ⟨_, (pss_cons
      (ps_set (i := 1) sc_won_part.nd rfl (Or.inl rfl) (pe_make MKR FIR (hr.mono (by decide)) (by rfl) gCR BIR .nil pass0 (pa_cons (pv 0) pa_nil)))
      (pss_cons
      (ps_set (i := 2) sc_won_part.nd rfl (Or.inl rfl) (pe_op op_sub (pe_callB (call_lenK (K := K) rfl) (by rfl) T.z_len PySem.boot_len (pa_cons (pe_fld (pv 1) rfl) pa_nil)) pe_int))
      (pss_cons
      (ps_set (i := 3) sc_won_part.nd rfl (Or.inl rfl) (pe_meth (pv 1) PR.cl ME_settle FN_settle (hr.mono (by decide)) BI_settle .nil pass0 (pa_cons (pv 2) pa_nil)))
      (C8.pss_cut
      (ps_while PassesOwn.never (pt_cmpR op_ne (pv 3) (pv 2) (nomark _)) (C8.pss_cut
      (ps_if (pt_cmpR op_gt (pv 3) (pv 2) (nomark _)) (pss_one
      (ps_expr (pe_meth (pv 1) PR.cl ME_promote FN_promote (hr.mono (by decide)) BI_promote .nil pass0 (pa_cons (pv 2) (pa_cons (pv 3) pa_nil))))) pss_nil)
      (pss_cons
      (ps_set (i := 2) sc_won_part.nd rfl (Or.inl rfl) (pv 3))
      (pss_one
      (ps_set (i := 3) sc_won_part.nd rfl (Or.inl rfl) (pe_meth (pv 1) PR.cl ME_settle FN_settle (hr.mono (by decide)) BI_settle .nil pass0 (pa_cons (pv 2) pa_nil)))))))
      (pss_one
      (ps_ret (pe_tup (pa_cons (pe_meth (pv 1) PR.cl ME_members FN_members (hr.mono (by decide)) BI_members .nil pass0 (pa_cons (pv 2) pa_nil)) (pa_cons (pe_fld (pv 1) rfl) (pa_cons (pe_op op_mod (pv 2) pe_int) pa_nil)))))))))), ?_⟩
    refine ⟨_, rfl, fun x dx hx hdx hne => ?_⟩
    have s1 := sameM_fresh (C := CR) hx hdx
    refine ⟨x, g, dx, d, U, rfl, upd_same, hg.same s1, ok, hU, hU2, fun H1 A own TN jas k1 _ fr1 hRk R1 W1 htop => ⟨rfl, ?_⟩⟩
    have s01 : Same H H1 := sameM_made hx hdx k1
    have fr0 : ∀ b ∈ A.mu jas, H b = none := fun b hb => s1.free (fr1 b hb)
    have okG := dG_ok (own := own) ok
    have ec : (st0 own d.mv.length TN).c = fun _ => -1 := by
      funext p
      show (List.replicate d.mv.length (-1 : Int)).getD p (-1) = -1
      rw [List.getD_eq_getElem?_getD, List.getElem?_replicate]
      split <;> rfl
    have I1 : Pm.Inv (dG d own) (TN - 1) (st0 own d.mv.length TN).f (st0 own d.mv.length TN).c (TN - 1) := by
      rw [ec]
      exact Pm.Inv.init okG htop
    have w1 : WI CR CG H x A d own TN H1 (st0 own d.mv.length TN) jas := ⟨s01, R1, W1, fun p _ => Nat.le_refl _, fr0⟩
    have t1 := W1.t1
    obtain ⟨nas, en, enl, _⟩ := R1.i.nt
    rw [natL_len] at enl
    refine ⟨_, rfl, x, CR, A.dx, _, _, rfl, R1.i.ins, PR.cl, PR.nn, rgf_n _ _ _ _ _ _ _, A.nA, _, rfl, .inl (.of en), _, _, rfl, rfl, ?_⟩
    show gName 2 (V.int (((nas.map V.ref).length : Int) - 1)) _ _ _
    rw [List.length_map, enl, show ((TN : Int) - 1) = ((TN - 1 : Nat) : Int) by omega]
    refine ⟨_, rfl, x, A.dx, _, rfl, R1.i.ins, noM _ _ _ _ _ _ _ _ (by decide +kernel), _, rfl, x, A, d, own, TN, jas, st0 own d.mv.length TN, TN - 1, rfl, R1, W1, by omega, I1, seQ_of w1 fun H2 s2 G2 m2 w2 ls2 _ => ?_⟩
    refine ⟨fun σ H' => ∃ (s : RSt) (ja : List Addr) (L : Nat), σ = [some (.ref g), some (.ref x), some (VN L), some (VN L)] ∧ WI CR CG H x A d own TN H' s ja ∧ L < TN ∧ Pm.Won (dG d own) (fun p => s.f p = L) s.c (L % 2), ?_, ?_⟩
    · refine ⟨fun m σ H' => ∃ (s : RSt) (ja : List Addr) (L G : Nat), σ = [some (.ref g), some (.ref x), some (VN L), some (VN G)] ∧ WI CR CG H x A d own TN H' s ja ∧ L < TN ∧ LS d own TN s L G m, ⟨m2, s2, jas, TN - 1, G2, rfl, w2, by omega, ls2⟩, ?_⟩
      rintro m σ H3 ⟨s3, ja, L, G, rfl, w3, hL, ls3⟩
      have R3 := w3.R
      refine ⟨_, rfl, _, rfl, rfl, _, rfl, ite_ne (fun k => ?_) (fun k => ?_)⟩
      case refine_2 =>
        have k : G = L := Int.ofNat.inj k
        subst k
        rcases ls3 with ⟨_, h⟩ | ⟨h, _⟩ | ⟨h, _⟩
        · exact ⟨s3, ja, G, rfl, w3, hL, h⟩
        · omega
        · omega
      have k : G ≠ L := fun z => k (by rw [z])
      -- the region goes up, if it does
      refine ⟨fun σ H' => ∃ (s : RSt) (ja : List Addr) (L G m' : Nat), σ = [some (.ref g), some (.ref x), some (VN L), some (VN G)] ∧ WI CR CG H x A d own TN H' s ja ∧ L < TN ∧ LS d own TN s L G m' ∧ m' < m, fun σ' H' ⟨s, ja, L, G, m', h1, h2, h3, h4, h5⟩ => ⟨m', h5, s, ja, L, G, h1, h2, h3, h4⟩, ?_⟩
      refine ⟨fun σ H' => ∃ (s : RSt) (ja : List Addr), σ = [some (.ref g), some (.ref x), some (VN L), some (VN G)] ∧ WI CR CG H x A d own TN H' s ja ∧ G < TN ∧ Pm.Inv (dG d own) (TN - 1) s.f s.c G ∧ Pm.mea d.mv.length (TN - 1) s.f G + 2 ≤ m, ?_, ?_⟩
      · refine ⟨_, rfl, _, rfl, _, _, rfl, rfl, _, rfl, ite2 (fun c => ?_) (fun c => ?_)⟩
        · have c := Int.ofNat_lt.mp (of_decide_eq_true c)
          rcases ls3 with ⟨h, _⟩ | ⟨h, _⟩ | ⟨h1, hG, ⟨chI, I, no, C⟩, e1, e2, hm⟩
          · exact absurd h k
          · omega
          refine ⟨_, rfl, x, A.dx, _, rfl, R3.i.ins, noM _ _ _ _ _ _ _ _ (by decide +kernel), _, rfl, _, rfl, x, A, d, own, TN, ja, s3, L, G, rfl, R3, w3.W, w3.lo, c, hG, fun H4 s4 ja' f4 fr4 R4 W4 r1 r2 r3 c1 c2' => ?_⟩
          have I4 := Pm.Inv.promote okG I no C c e1 e2 r1 r2 r3 c1 c2'
          have hlt := Pm.mea_up (n := d.mv.length) (top := TN - 1) (r := s3.f) (r' := s4.f) (L := L) (G := G) (by omega) c (by obtain ⟨p, hp, e, _⟩ := e1; exact ⟨p, hp, e⟩) r1 (fun p hp a b => by rw [r2 p hp a b]; have := (I.lv p hp).1; have : own.getD p 0 ≤ s3.f p := this; omega) r3
          exact ⟨s4, ja', rfl, w3.step f4 fr4 R4 W4 fun p hp => (I4.lv p hp).1, hG, I4, by omega⟩
        · have c : ¬ L < G := fun z => c (decide_eq_true (Int.ofNat_lt.mpr z))
          rcases ls3 with ⟨h, _⟩ | ⟨h, I, hm⟩ | ⟨h, _⟩
          · exact absurd h k
          · exact ⟨s3, ja, rfl, w3, by omega, I, by omega⟩
          · exact absurd h c
      rintro σ H4 ⟨s4, ja4, rfl, w4, hG, I4, hm4⟩
      refine ⟨_, rfl, ?_⟩
      have R4 := w4.R
      exact ⟨_, rfl, x, A.dx, _, rfl, R4.i.ins, noM _ _ _ _ _ _ _ _ (by decide +kernel), _, rfl, x, A, d, own, TN, ja4, s4, G, rfl, R4, w4.W, hG, I4, seQ_of w4 fun H5 s5 G5 m5 w5 ls5 hm5 => ⟨s5, ja4, G, G5, m5, rfl, w5, hG, ls5, by omega⟩⟩
    rintro σ H3 ⟨s3, ja, L, rfl, w3, hL, wn⟩
    have R3 := w3.R
    refine ⟨_, rfl, x, A.dx, _, rfl, R3.i.ins, noM _ _ _ _ _ _ _ _ (by decide +kernel), _, rfl, x, A, d, own, TN, ja, s3, L, rfl, R3, w3.W, hL, fun H4 pm s4 npm epm => ?_⟩
    have R4 := R3.same s4
    refine ⟨_, rfl, x, CR, A.dx, _, _, rfl, R4.i.ins, PR.cl, PR.nc, rgf_c _ _ _ _ _ _ _, _, rfl, _, _, rfl, rfl, (by omega), by show 3 ≤ sizeLine; decide, fun t nt => ?_⟩
    have hmem := fun p => w3.W.mem w3.lo hL (p := p)
    show Q (.ref t) (upd H4 t (.tup [.ref pm, .ref A.cA, V.int ((L : Int) % 2)]))
    rw [show ((L : Int) % 2) = ((L % 2 : Nat) : Int) by omega]
    have s5 := same_new (o := .tup [.ref pm, .ref A.cA, V.int ((L % 2 : Nat) : Int)]) nt
    obtain ⟨n1, n2, n3, n4⟩ := wn
    refine q _ t pm A.cA (memS own TN s3 L) s3.ch (L % 2) own ((w3.sm.trans s4).trans s5) (w3.sm.free npm) (w3.fr _ mu_c) upd_same (s5 _ _ epm) (s5 _ _ R4.cho) w3.W.lc (w3.W.mem_nd hL) (fun p hp => ((hmem p).mp hp).1) (by omega) hRk ⟨?_, fun p hp hs o => ?_, fun p hp hs o q' hq' => ?_, ?_⟩
    · obtain ⟨p, hp, e⟩ := n1
      exact ⟨p, hp, (hmem p).mpr ⟨hp, e⟩⟩
    · obtain ⟨q', q1, q2, q3⟩ := n2 p hp ((hmem p).mp hs).2 o
      exact ⟨q', q1, q2, (hmem q').mpr ⟨ok.rg p q' q2, q3⟩⟩
    · exact (hmem q').mpr ⟨ok.rg p q' hq', n3 p hp ((hmem p).mp hs).2 o q' hq'⟩
    · refine Pm.nb_mono (fun x y sx sy e _ _ _ _ => ⟨⟨sx.1, ((hmem x).mp sx.2).2⟩, ⟨sy.1, ((hmem y).mp sy.2).2⟩, e⟩) n4
namespace Pm
open Relation (TransGen)
section
variable (g : G)
/-- what is known of the winners (-1: nothing) and of the choices -/
structure FI (w ch : Nat → Int) : Prop where
  wv : ∀ p, p < g.n → w p = -1 ∨ w p = 0 ∨ w p = 1
  f1 : ∀ p, p < g.n → ∀ a : Nat, w p = (a : Int) → (g.ow p = a → ∃ q : Nat, ch p = (q : Int) ∧ q ∈ g.mv p ∧ w q = (a : Int)) ∧ (g.ow p ≠ a → ∀ q ∈ g.mv p, w q = (a : Int))
  nb : ∀ a : Nat, NoBad (fun p => p < g.n ∧ w p = (a : Int)) (Cm g ch a) g.pr a
  c1 : ∀ p, p < g.n → w p ≠ (g.ow p : Int) → ch p = -1
/-- whoever could force a won place has won -/
def Cls (w : Nat → Int) : Prop := ∀ p, p < g.n → w p = -1 → (∀ q ∈ g.mv p, w q ≠ (g.ow p : Int)) ∧ ∃ q ∈ g.mv p, w q = -1
/-- the moves to places that had no winner and are not in D -/
def cl (w0 : Nat → Int) (D : List Nat) (p : Nat) : Nat := ((g.mv p).filter fun q => decide (w0 q = -1 ∧ q ∉ D)).length
/-- while the sources of t are looked at (rest is still to be seen) -/
structure RJ (w0 : Nat → Int) (a : Nat) (w ch : Nat → Int) (lf : Nat → Nat) (ws D : List Nat) (t : Nat) (rest : List Nat) : Prop where
  fi : FI g w ch
  nd : (D ++ t :: ws).Nodup
  mem : ∀ p, p ∈ D ++ t :: ws ↔ p < g.n ∧ w0 p = -1 ∧ w p ≠ -1
  old : ∀ p, p < g.n → w0 p ≠ -1 → w p = w0 p
  new : ∀ p ∈ D ++ t :: ws, w p = (a : Int)
  left : ∀ p, p < g.n → lf p = cl g w0 (if p ∈ rest then D else D ++ [t]) p
  un : ∀ p, p < g.n → w p = -1 → (g.ow p = a → ∀ q ∈ g.mv p, q ∉ (if p ∈ rest then D else D ++ [t])) ∧ (g.ow p ≠ a → 0 < cl g w0 (if p ∈ rest then D else D ++ [t]) p)
structure RI (w0 : Nat → Int) (a : Nat) (w ch : Nat → Int) (lf : Nat → Nat) (ws D : List Nat) : Prop where
  fi : FI g w ch
  nd : (D ++ ws).Nodup
  mem : ∀ p, p ∈ D ++ ws ↔ p < g.n ∧ w0 p = -1 ∧ w p ≠ -1
  old : ∀ p, p < g.n → w0 p ≠ -1 → w p = w0 p
  new : ∀ p ∈ D ++ ws, w p = (a : Int)
  left : ∀ p, p < g.n → lf p = cl g w0 D p
  un : ∀ p, p < g.n → w p = -1 → (g.ow p = a → ∀ q ∈ g.mv p, q ∉ D) ∧ (g.ow p ≠ a → 0 < cl g w0 D p)
end
variable {g : G} {w0 w ch : Nat → Int} {a t z : Nat} {lf : Nat → Nat} {ws D rest : List Nat}
theorem cl_skip {p : Nat} (h : t ∉ g.mv p) : cl g w0 (D ++ [t]) p = cl g w0 D p := by
  unfold cl
  congr 1
  refine List.filter_congr fun q hq => decide_eq_decide.mpr ?_
  have : q ≠ t := fun e => h (e ▸ hq)
  simp [this]
theorem flt_drop {l : List Nat} {P : Nat → Bool} {t : Nat} (nd : l.Nodup) (ht : t ∈ l) (hp : P t = true) : (l.filter P).length = (l.filter fun q => P q && decide (q ≠ t)).length + 1 := by
  induction l with
  | nil => cases ht
  | cons x l ih =>
    rw [List.nodup_cons] at nd
    rw [List.filter_cons, List.filter_cons]
    by_cases e : x = t
    · subst e
      have e2 : (l.filter fun q => P q && decide (q ≠ x)) = l.filter P := List.filter_congr fun q hq => by
        have : q ≠ x := fun z => nd.1 (z ▸ hq)
        simp [this]
      rw [if_pos hp, if_neg (by simp), e2]
      rfl
    · have ih := ih nd.2 ((List.mem_cons.mp ht).resolve_left (Ne.symm e))
      cases c : P x with
      | true => rw [if_pos rfl, if_pos (by simp [e]), List.length_cons, List.length_cons, ih]
      | false => rw [if_neg (by simp), if_neg (by simp), ih]
theorem cl_one {p : Nat} (nd : (g.mv p).Nodup) (h : t ∈ g.mv p) (h0 : w0 t = -1) (hD : t ∉ D) : cl g w0 D p = cl g w0 (D ++ [t]) p + 1 := by
  unfold cl
  rw [flt_drop nd h (decide_eq_true ⟨h0, hD⟩)]
  congr 2
  refine List.filter_congr fun q _ => ?_
  rw [Bool.eq_iff_iff]
  simp only [Bool.and_eq_true, decide_eq_true_eq, List.mem_append, List.mem_singleton]
  constructor
  · rintro ⟨⟨x, y⟩, c⟩
    exact ⟨x, fun e => e.elim y c⟩
  · rintro ⟨x, y⟩
    exact ⟨⟨x, fun e => y (.inl e)⟩, fun e => y (.inr e)⟩
theorem RI.pop (src : List Nat) (hs : ∀ s, s ∈ src ↔ s < g.n ∧ t ∈ g.mv s) (R : RI g w0 a w ch lf (ws ++ [t]) D) : RJ g w0 a w ch lf ws D t src := by
  have nd := R.nd
  have perm : ∀ p, p ∈ D ++ t :: ws ↔ p ∈ D ++ (ws ++ [t]) := fun p => by
    simp only [List.mem_append, List.mem_cons, List.mem_singleton, List.not_mem_nil, or_false]
    constructor
    · rintro (x | x | x)
      · exact .inl x
      · exact .inr (.inr x)
      · exact .inr (.inl x)
    · rintro (x | x | x)
      · exact .inl x
      · exact .inr (.inr x)
      · exact .inr (.inl x)
  have eq : ∀ p, p < g.n → cl g w0 (if p ∈ src then D else D ++ [t]) p = cl g w0 D p := fun p hp => by
    split
    · rfl
    · rename_i h
      exact cl_skip fun m => h ((hs p).mpr ⟨hp, m⟩)
  refine ⟨R.fi, ?_, fun p => (perm p).trans (R.mem p), R.old, fun p hp => R.new p ((perm p).mp hp), fun p hp => by rw [eq p hp]; exact R.left p hp, fun p hp hw => ?_⟩
  · rw [List.nodup_append] at nd ⊢
    obtain ⟨n1, n2, n3⟩ := nd
    rw [List.nodup_append] at n2
    refine ⟨n1, List.nodup_cons.mpr ⟨fun h => n2.2.2 t h t (by simp) rfl, n2.1⟩, fun x hx b hb => n3 x hx b ?_⟩
    rcases List.mem_cons.mp hb with e | e
    · rw [e]; simp
    · exact List.mem_append_left _ e
  · rw [eq p hp]
    obtain ⟨u1, u2⟩ := R.un p hp hw
    refine ⟨fun o q hq hm => ?_, u2⟩
    split at hm
    · exact u1 o q hq hm
    · rename_i h
      rcases List.mem_append.mp hm with m | m
      · exact u1 o q hq m
      · rw [List.mem_singleton.mp m] at hq
        exact h ((hs p).mpr ⟨hp, hq⟩)
theorem RJ.done (R : RJ g w0 a w ch lf ws D t []) : RI g w0 a w ch lf ws (D ++ [t]) := by
  refine ⟨R.fi, by rw [List.append_assoc]; exact R.nd, fun p => by rw [List.append_assoc]; exact R.mem p, R.old, fun p hp => R.new p (by rw [List.append_assoc] at hp; exact hp), fun p hp => ?_, fun p hp hw => ?_⟩
  · have := R.left p hp
    rw [if_neg (by simp)] at this
    exact this
  · have := R.un p hp hw
    rw [if_neg (by simp)] at this
    exact this
theorem mem_rest {p : Nat} (h : p ≠ z) : (if p ∈ z :: rest then D else D ++ [t]) = if p ∈ rest then D else D ++ [t] := by
  by_cases c : p ∈ rest
  · rw [if_pos c, if_pos (List.mem_cons_of_mem _ c)]
  · rw [if_neg c, if_neg (by simp [h, c])]
/-- one source seen that gets no winner now -/
theorem RJ.stay {lf' : Nat → Nat} (nm : (g.mv z).Nodup) (R : RJ g w0 a w ch lf ws D t (z :: rest)) (hz : z ∉ rest) (ht : t ∈ g.mv z) (hl : ∀ p, p ≠ z → lf' p = lf p) (hlz : lf' z = lf z - 1) (hzn : z < g.n)
    (h : w z ≠ -1 ∨ (g.ow z ≠ a ∧ 0 < lf' z)) : RJ g w0 a w ch lf' ws D t rest := by
  have t0 := (R.mem t).mp (by simp)
  have tD : t ∉ D := fun m => by have := List.nodup_append.mp R.nd; exact this.2.2 t m t (by simp) rfl
  have c1 := cl_one (g := g) (w0 := w0) nm ht t0.2.1 tD
  have lz := R.left z hzn
  rw [if_pos List.mem_cons_self] at lz
  refine ⟨R.fi, R.nd, R.mem, R.old, R.new, fun p hp => ?_, fun p hp hw => ?_⟩
  · by_cases e : p = z
    · subst e
      rw [hlz, lz, if_neg hz]
      omega
    · rw [hl p e, R.left p hp, mem_rest e]
  · by_cases e : p = z
    · subst e
      rw [if_neg hz]
      rcases h with h | ⟨o, h⟩
      · exact absurd hw h
      · exact ⟨fun x => absurd x o, fun _ => by omega⟩
    · have := R.un p hp hw
      rw [mem_rest e] at this
      exact this
/-- one more winner -/
theorem RJ.join {lf' : Nat → Nat} {ch' : Nat → Int} (a2 : a < 2) (o2 : g.ow z < 2) (ok : ∀ q ∈ g.mv z, q < g.n) (nm : (g.mv z).Nodup) (C0 : Cls g w0) (R : RJ g w0 a w ch lf ws D t (z :: rest)) (hz : z ∉ rest) (ht : t ∈ g.mv z) (hl : ∀ p, p ≠ z → lf' p = lf p) (hlz : lf' z = lf z - 1) (hzn : z < g.n) (hw : w z = -1)
    (hc : ∀ p, p ≠ z → ch' p = ch p) (h : (g.ow z = a ∧ ch' z = (t : Int)) ∨ (g.ow z ≠ a ∧ ch' z = ch z ∧ lf' z = 0)) : RJ g w0 a (upC w z (a : Int)) ch' lf' (ws ++ [z]) D t rest := by
  have t0 := (R.mem t).mp (by simp)
  have ta := R.new t (by simp)
  have tD : t ∉ D := fun m => by have := List.nodup_append.mp R.nd; exact this.2.2 t m t (by simp) rfl
  have c1 := cl_one (g := g) (w0 := w0) nm ht t0.2.1 tD
  have lz := R.left z hzn
  rw [if_pos List.mem_cons_self] at lz
  have zn : z ∉ D ++ t :: ws := fun m => ((R.mem z).mp m).2.2 hw
  have z0 : w0 z = -1 := by
    by_cases e : w0 z = -1
    · exact e
    · rw [R.old z hzn e] at hw; exact hw
  have tz : t ≠ z := fun e => zn (by rw [← e]; simp)
  -- all moves of a place that is not its owner's lead to won places
  have opp : g.ow z ≠ a → lf' z = 0 → ∀ q ∈ g.mv z, w q = (a : Int) := fun o h0 q hq => by
    have hqn := ok q hq
    by_cases e : w0 q = -1
    · have hc0 : cl g w0 (D ++ [t]) z = 0 := by omega
      unfold cl at hc0
      have hqm : q ∈ D ++ [t] := by
        by_cases m : q ∈ D ++ [t]
        · exact m
        · exfalso
          have : q ∈ (g.mv z).filter fun q => decide (w0 q = -1 ∧ q ∉ D ++ [t]) := List.mem_filter.mpr ⟨hq, decide_eq_true ⟨e, m⟩⟩
          rw [List.length_eq_zero_iff.mp hc0] at this
          cases this
      refine R.new q ?_
      rcases List.mem_append.mp hqm with m | m
      · exact List.mem_append_left _ m
      · rw [List.mem_singleton.mp m]; simp
    · rw [R.old q hqn e]
      have h1 := (C0 z hzn z0).1 q hq
      have h2 := R.fi.wv q hqn
      rw [R.old q hqn e] at h2
      omega
  have old1 : ∀ p, w p ≠ -1 → upC w z (a : Int) p = w p := fun p hp => upC_ne fun e => hp (by rw [e]; exact hw)
  have F := R.fi
  refine ⟨⟨fun p hp => ?_, fun p hp b hb => ?_, fun b => ?_, fun p hp hne => ?_⟩, ?_, fun p => ?_, fun p hp h0 => ?_, fun p hp => ?_, fun p hp => ?_, fun p hp hwp => ?_⟩
  · by_cases e : p = z
    · rw [e, upC_eq]; omega
    · rw [upC_ne e]; exact F.wv p hp
  · by_cases e : p = z
    · subst e
      rw [upC_eq] at hb
      have hb : b = a := by omega
      subst hb
      rcases h with ⟨o, hc'⟩ | ⟨o, _, h0⟩
      · exact ⟨fun _ => ⟨t, hc', ht, by rw [upC_ne tz]; exact ta⟩, fun x => absurd o x⟩
      · refine ⟨fun x => absurd x o, fun _ q hq => ?_⟩
        have := opp o h0 q hq
        rw [old1 q (by omega)]
        exact this
    · rw [upC_ne e] at hb
      obtain ⟨x1, x2⟩ := F.f1 p hp b hb
      refine ⟨fun o => ?_, fun o q hq => ?_⟩
      · obtain ⟨q, q1, q2, q3⟩ := x1 o
        exact ⟨q, by rw [hc p e]; exact q1, q2, by rw [old1 q (by omega)]; exact q3⟩
      · have := x2 o q hq
        rw [old1 q (by omega)]
        exact this
  · refine nb_ext (p := z) (F.nb b) (fun k _ _ x sx sz e _ _ => ?_) (fun x y xz yz sx sy e => ?_)
    · -- no step enters z
      have hb : b = a := by have := sz.2; rw [upC_eq] at this; omega
      subst hb
      by_cases ex : x = z
      · subst ex
        rcases h with ⟨o, hc'⟩ | ⟨o, _, h0⟩
        · have := e.2 o
          rw [hc'] at this
          exact tz (by omega)
        · have := opp o h0 x e.1
          omega
      · have sx2 := sx.2
        rw [upC_ne ex] at sx2
        obtain ⟨x1, x2⟩ := F.f1 x sx.1 b sx2
        by_cases o : g.ow x = b
        · obtain ⟨q, q1, q2, q3⟩ := x1 o
          have := e.2 o
          rw [hc x ex, q1] at this
          have : q = z := by omega
          rw [this] at q3
          omega
        · have := x2 o z e.1
          omega
    · have sx2 := sx.2
      have sy2 := sy.2
      rw [upC_ne xz] at sx2
      rw [upC_ne yz] at sy2
      exact ⟨⟨sx.1, sx2⟩, ⟨sy.1, sy2⟩, e.1, fun o => by have := e.2 o; rw [hc x xz] at this; exact this⟩
  · by_cases e : p = z
    · subst e
      rw [upC_eq] at hne
      rcases h with ⟨o, _⟩ | ⟨o, h1, _⟩
      · exact absurd (by rw [o]) hne
      · rw [h1]; exact F.c1 p hp (by omega)
    · rw [upC_ne e] at hne
      rw [hc p e]
      exact F.c1 p hp hne
  · rw [show D ++ t :: (ws ++ [z]) = (D ++ t :: ws) ++ [z] by simp]
    exact List.nodup_append.mpr ⟨R.nd, by simp, fun x hx y hy e => zn (by rw [List.mem_singleton.mp hy] at e; rw [← e]; exact hx)⟩
  · rw [show D ++ t :: (ws ++ [z]) = (D ++ t :: ws) ++ [z] by simp, List.mem_append, R.mem p, List.mem_singleton]
    by_cases e : p = z
    · subst e; rw [upC_eq]; exact ⟨fun _ => ⟨hzn, z0, by omega⟩, fun _ => .inr rfl⟩
    · rw [upC_ne e]; exact ⟨fun x => x.resolve_right e, .inl⟩
  · have e : p ≠ z := fun e => h0 (by rw [e]; exact z0)
    rw [upC_ne e]
    exact R.old p hp h0
  · rw [show D ++ t :: (ws ++ [z]) = (D ++ t :: ws) ++ [z] by simp, List.mem_append, List.mem_singleton] at hp
    by_cases e : p = z
    · rw [e, upC_eq]
    · rw [upC_ne e]; exact R.new p (hp.resolve_right e)
  · by_cases e : p = z
    · subst e
      rw [hlz, lz, if_neg hz]
      omega
    · rw [hl p e, R.left p hp, mem_rest e]
  · have e : p ≠ z := fun e => by rw [e, upC_eq] at hwp; omega
    rw [upC_ne e] at hwp
    have := R.un p hp hwp
    rw [mem_rest e] at this
    exact this
theorem RI.fin (ok : ∀ p, p < g.n → ∀ q ∈ g.mv p, q < g.n) (C0 : Cls g w0) (R : RI g w0 a w ch lf [] D) : Cls g w ∧ (∀ p, p < g.n → lf p = cl g w [] p) := by
  have hm : ∀ p, p ∈ D ↔ p < g.n ∧ w0 p = -1 ∧ w p ≠ -1 := fun p => by rw [← R.mem p, List.append_nil]
  have w0u : ∀ p, p < g.n → w p = -1 → w0 p = -1 := fun p hp h => by
    by_cases e : w0 p = -1
    · exact e
    · rw [R.old p hp e] at h; exact h
  have weq : ∀ q, q < g.n → (w q = -1 ↔ w0 q = -1 ∧ q ∉ D) := fun q hq => by
    rw [hm q]
    constructor
    · intro h
      exact ⟨w0u q hq h, fun x => x.2.2 h⟩
    · rintro ⟨h1, h2⟩
      by_cases e : w q = -1
      · exact e
      · exact absurd ⟨hq, h1, e⟩ h2
  have cle : ∀ p, p < g.n → cl g w0 D p = cl g w [] p := fun p hp => by
    unfold cl
    congr 1
    refine List.filter_congr fun q hq => decide_eq_decide.mpr ?_
    rw [weq q (ok p hp q hq)]
    simp
  refine ⟨fun p hp hw => ?_, fun p hp => by rw [R.left p hp, cle p hp]⟩
  have p0 := w0u p hp hw
  obtain ⟨u1, u2⟩ := R.un p hp hw
  obtain ⟨v1, q0, hq0, e0⟩ := C0 p hp p0
  refine ⟨fun q hq e => ?_, ?_⟩
  · have hqn := ok p hp q hq
    by_cases e2 : w0 q = -1
    · have hqD := (hm q).mpr ⟨hqn, e2, by omega⟩
      have := R.new q (by rw [List.append_nil]; exact hqD)
      exact u1 (by omega) q hq hqD
    · rw [R.old q hqn e2] at e
      exact v1 q hq e
  · by_cases o : g.ow p = a
    · exact ⟨q0, hq0, (weq q0 (ok p hp q0 hq0)).mpr ⟨e0, u1 o q0 hq0⟩⟩
    · have h0 := u2 o
      unfold cl at h0
      obtain ⟨q, hq⟩ := List.exists_mem_of_length_pos h0
      obtain ⟨h1, h2⟩ := List.mem_filter.mp hq
      exact ⟨q, h1, (weq q (ok p hp q h1)).mpr (of_decide_eq_true h2)⟩
theorem FI.init : FI g (fun _ => -1) (fun _ => -1) := by
  refine ⟨fun _ _ => .inl rfl, fun p _ b hb => ?_, fun b k _ tg => ?_, fun _ _ _ => rfl⟩
  · have : (-1 : Int) = (b : Int) := hb
    omega
  · obtain ⟨c, e⟩ := tg_last tg
    have : (-1 : Int) = (b : Int) := e.1.1.2
    omega
theorem cls_init (ne : ∀ p, p < g.n → g.mv p ≠ []) : Cls g (fun _ => -1) := fun p hp _ => by
  refine ⟨fun q _ e => ?_, ?_⟩
  · have : (-1 : Int) = (g.ow p : Int) := e
    omega
  · obtain ⟨q, hq⟩ := List.exists_mem_of_ne_nil _ (ne p hp)
    exact ⟨q, hq, rfl⟩
/-- what is recorded at the beginning -/
theorem RI.start {ch0 : Nat → Int} {ms : List Nat} (a2 : a < 2) (o2 : ∀ p, p < g.n → g.ow p < 2) (ok : ∀ p, p < g.n → ∀ q ∈ g.mv p, q < g.n) (F : FI g w0 ch0) (C0 : Cls g w0) (hl : ∀ p, p < g.n → lf p = cl g w0 [] p) (nd : ms.Nodup) (hm : ∀ p ∈ ms, p < g.n ∧ w0 p = -1)
    (hw1 : ∀ p ∈ ms, w p = (a : Int)) (hw2 : ∀ p, p ∉ ms → w p = w0 p) (hc : ∀ p, p < g.n → (p ∉ ms ∨ g.ow p ≠ a) → ch p = ch0 p)
    (h1 : ∀ p ∈ ms, g.ow p = a → ∃ q : Nat, ch p = (q : Int) ∧ q ∈ g.mv p ∧ q ∈ ms) (h2 : ∀ p ∈ ms, g.ow p ≠ a → ∀ q ∈ g.mv p, q ∈ ms ∨ w0 q ≠ -1) (nb : NoBad (fun p => p ∈ ms) (Cm g ch a) g.pr a) : RI g w0 a w ch lf ms [] := by
  have w0n : ∀ p, w0 p ≠ -1 → p < g.n → p ∉ ms := fun p h hp m => h (hm p m).2
  refine ⟨⟨fun p hp => ?_, fun p hp b hb => ?_, fun b => ?_, fun p hp hne => ?_⟩, by rw [List.nil_append]; exact nd, fun p => ?_, fun p hp h => hw2 p (w0n p h hp), fun p hp => by rw [List.nil_append] at hp; exact hw1 p hp, hl, fun p hp hw => ?_⟩
  · by_cases m : p ∈ ms
    · rw [hw1 p m]; omega
    · rw [hw2 p m]; exact F.wv p hp
  · by_cases m : p ∈ ms
    · rw [hw1 p m] at hb
      have hb : b = a := by omega
      subst hb
      refine ⟨fun o => ?_, fun o q hq => ?_⟩
      · obtain ⟨q, q1, q2, q3⟩ := h1 p m o
        exact ⟨q, q1, q2, hw1 q q3⟩
      · rcases h2 p m o q hq with e | e
        · exact hw1 q e
        · rw [hw2 q (w0n q e (ok p hp q hq))]
          have e1 := (C0 p hp (hm p m).2).1 q hq
          have e2 := F.wv q (ok p hp q hq)
          have e3 := o2 p hp
          omega
    · rw [hw2 p m] at hb
      obtain ⟨x1, x2⟩ := F.f1 p hp b hb
      refine ⟨fun o => ?_, fun o q hq => ?_⟩
      · obtain ⟨q, q1, q2, q3⟩ := x1 o
        exact ⟨q, by rw [hc p hp (.inl m)]; exact q1, q2, by rw [hw2 q (w0n q (by omega) (ok p hp q q2))]; exact q3⟩
      · have := x2 o q hq
        rw [hw2 q (w0n q (by omega) (ok p hp q hq))]
        exact this
  · have nS : ∀ x, x < g.n → w0 x = (b : Int) → x ∉ ms := fun x hx e => w0n x (by omega) hx
    have A : NoBad (fun p => p < g.n ∧ w0 p = (b : Int)) (Cm g ch b) g.pr b := nb_mono (fun x y sx sy e _ _ _ _ => ⟨sx, sy, e.1, fun o => by
      have := e.2 o
      rw [hc x sx.1 (.inl (nS x sx.1 sx.2))] at this
      exact this⟩) (F.nb b)
    have stay : ∀ x y, x < g.n → w0 x = (b : Int) → Cm g ch b x y → w0 y = (b : Int) := fun x y hx e st => by
      obtain ⟨x1, x2⟩ := F.f1 x hx b e
      by_cases o : g.ow x = b
      · obtain ⟨q, q1, q2, q3⟩ := x1 o
        have := st.2 o
        rw [hc x hx (.inl (nS x hx e)), q1] at this
        have : q = y := by omega
        rw [← this]; exact q3
      · exact x2 o y st.1
    by_cases e : b = a
    · subst e
      refine nb_two (A := fun p => p < g.n ∧ w0 p = (b : Int)) (B := fun p => p ∈ ms) A nb (fun x sx => ?_) (fun k _ x y sx sy ax e _ _ _ => ⟨sy.1, stay x y ax.1 ax.2 e⟩)
      by_cases m : x ∈ ms
      · exact .inr m
      · exact .inl ⟨sx.1, by rw [← hw2 x m]; exact sx.2⟩
    · refine nb_mono (fun x y sx sy st _ _ _ _ => ?_) A
      have f : ∀ x, x < g.n → w x = (b : Int) → w0 x = (b : Int) := fun x _ h => by
        by_cases m : x ∈ ms
        · rw [hw1 x m] at h; omega
        · rw [← hw2 x m]; exact h
      exact ⟨⟨sx.1, f x sx.1 sx.2⟩, ⟨sy.1, f y sy.1 sy.2⟩, st⟩
  · by_cases m : p ∈ ms
    · rw [hw1 p m] at hne
      rw [hc p hp (.inr fun o => hne (by rw [o]))]
      exact F.c1 p hp (by rw [(hm p m).2]; omega)
    · rw [hw2 p m] at hne
      rw [hc p hp (.inl m)]
      exact F.c1 p hp hne
  · rw [List.nil_append]
    constructor
    · intro m
      exact ⟨(hm p m).1, (hm p m).2, by rw [hw1 p m]; omega⟩
    · rintro ⟨hp, h0, h⟩
      by_cases m : p ∈ ms
      · exact m
      · rw [hw2 p m] at h; exact absurd h0 h
  · have m : p ∉ ms := fun m => by rw [hw1 p m] at hw; omega
    rw [hw2 p m] at hw
    refine ⟨fun _ q _ h => (by cases h), fun _ => ?_⟩
    obtain ⟨_, q, hq, e⟩ := C0 p hp hw
    unfold cl
    exact List.length_pos_of_mem (List.mem_filter.mpr ⟨hq, decide_eq_true ⟨e, by simp⟩⟩)
/-- a part of a game: the places in ns, with their numbers there -/
theorem nb_part {g' : G} {ns : List Nat} {M : Nat → Prop} {chP chB : Nat → Int} {prP : Nat → Nat} (ndn : ns.Nodup)
    (hM : ∀ i, M i → i < ns.length)
    (hmv : ∀ i j u v, ns[i]? = some u → ns[j]? = some v → v ∈ g.mv u → j ∈ g'.mv i) (how : ∀ i u, ns[i]? = some u → g'.ow i = g.ow u)
    (hch : ∀ i u, M i → ns[i]? = some u → g.ow u = a → ∃ j v : Nat, chP i = (j : Int) ∧ ns[j]? = some v ∧ chB u = (v : Int))
    (hpr : ∀ i j u v, ns[i]? = some u → ns[j]? = some v → g.pr u ≤ g.pr v → prP i ≤ prP j) (hpar : ∀ i u, ns[i]? = some u → prP i % 2 = g.pr u % 2)
    (nb : NoBad (fun i => i < g'.n ∧ M i) (Cm g' chP a) prP a) (hn : g'.n = ns.length) : NoBad (fun u => ∃ i, ns[i]? = some u ∧ M i) (Cm g chB a) g.pr a := by
  intro k hk tg
  have hget : ∀ {i u}, ns[i]? = some u → ns.idxOf u = i := fun {i u} h => by
    have hl : i < ns.length := (List.getElem?_eq_some_iff.mp h).1
    have hu := List.mem_of_getElem? h
    have h2 : ns[ns.idxOf u]? = some u := by
      rw [List.getElem?_eq_getElem (List.idxOf_lt_length_of_mem hu), List.getElem_idxOf]
    exact (List.getElem?_inj (List.idxOf_lt_length_of_mem hu) ndn).mp (h2.trans h.symm)
  obtain ⟨c, e⟩ := tg_last tg
  obtain ⟨ik, hik, mk⟩ := e.1.2.1
  refine nb ik (by rw [hpar ik k hik]; exact hk) ?_
  have main : ∀ {x y}, TransGen (fun x y => ((∃ i, ns[i]? = some x ∧ M i) ∧ (∃ i, ns[i]? = some y ∧ M i) ∧ Cm g chB a x y) ∧ g.pr x ≤ g.pr k ∧ g.pr y ≤ g.pr k) x y → TransGen (fun x y => ((x < g'.n ∧ M x) ∧ (y < g'.n ∧ M y) ∧ Cm g' chP a x y) ∧ prP x ≤ prP ik ∧ prP y ≤ prP ik) (ns.idxOf x) (ns.idxOf y) := by
    have one : ∀ {x y}, (((∃ i, ns[i]? = some x ∧ M i) ∧ (∃ i, ns[i]? = some y ∧ M i) ∧ Cm g chB a x y) ∧ g.pr x ≤ g.pr k ∧ g.pr y ≤ g.pr k) → (((ns.idxOf x < g'.n ∧ M (ns.idxOf x)) ∧ (ns.idxOf y < g'.n ∧ M (ns.idxOf y)) ∧ Cm g' chP a (ns.idxOf x) (ns.idxOf y)) ∧ prP (ns.idxOf x) ≤ prP ik ∧ prP (ns.idxOf y) ≤ prP ik) := by
      rintro x y ⟨⟨⟨i, hi, mi⟩, ⟨j, hj, mj⟩, st⟩, l1, l2⟩
      rw [hget hi, hget hj]
      refine ⟨⟨⟨by rw [hn]; exact hM i mi, mi⟩, ⟨by rw [hn]; exact hM j mj, mj⟩, hmv i j x y hi hj st.1, fun o => ?_⟩, hpr i ik x k hi hik l1, hpr j ik y k hj hik l2⟩
      rw [how i x hi] at o
      obtain ⟨j', v, c1, c2, c3⟩ := hch i x mi hi o
      have := st.2 o
      rw [c3] at this
      have : v = y := by omega
      subst this
      have : j' = j := by rw [← hget c2, hget hj]
      rw [c1, this]
    intro x y t
    induction t with
    | single e => exact .single (one e)
    | tail _ e ih => exact .tail ih (one e)
  have := main tg
  rw [hget hik] at this
  exact this
end Pm
structure FA where
  dx : Addr
  gA : Addr
  sA : Addr
  lA : Addr
  wA : Addr
  cA : Addr
structure FIm (CF CG : Addr) (H : Hp) (x : Addr) (A : FA) (d : Gd) : Prop where
  ins : H x = some (.ins CF A.dx (fnf A.gA A.sA A.lA A.wA A.cA))
  gm : GmN CG H A.gA d
  so : GrL H A.sA (rvG d.mv)
def FA.mu (A : FA) : List Addr := [A.lA, A.wA, A.cA]
structure FSt where
  lf : List Nat
  w : List Int
  ch : List Int
def FSt.l (s : FSt) (p : Nat) : Nat := s.lf.getD p 0
def FSt.f (s : FSt) (p : Nat) : Int := s.w.getD p (-1)
def FSt.c (s : FSt) (p : Nat) : Int := s.ch.getD p (-1)
structure FnAt (CF CG : Addr) (H : Hp) (x : Addr) (A : FA) (d : Gd) (s : FSt) : Prop where
  im : ∀ H', Fz A.mu H H' → FIm CF CG H' x A d
  lef : H A.lA = some (.lst (s.lf.map VN))
  win : H A.wA = some (.lst (s.w.map V.int))
  cho : H A.cA = some (.lst (s.ch.map V.int))
  nd : A.mu.Nodup
structure FnL (d : Gd) (s : FSt) : Prop where
  ll : s.lf.length = d.mv.length
  lw : s.w.length = d.mv.length
  lc : s.ch.length = d.mv.length
section
variable {CF CG x : Addr} {A : FA} {d : Gd} {s : FSt} {H H' : Hp}
theorem FnAt.i (h : FnAt CF CG H x A d s) : FIm CF CG H x A d := h.im H Fz.refl
theorem FnAt.same (sm : Same H H') (h : FnAt CF CG H x A d s) : FnAt CF CG H' x A d s :=
  ⟨fun H2 k => h.im H2 (Fz.trans (.of sm) k fun b hb => .inl hb), sm _ _ h.lef, sm _ _ h.win, sm _ _ h.cho, h.nd⟩
theorem fm_l : A.lA ∈ A.mu := List.mem_cons_self
theorem fm_w : A.wA ∈ A.mu := List.mem_cons_of_mem _ List.mem_cons_self
theorem fm_c : A.cA ∈ A.mu := List.mem_cons_of_mem _ (List.mem_cons_of_mem _ List.mem_cons_self)
theorem FnAt.ne (h : FnAt CF CG H x A d s) : A.lA ≠ A.wA ∧ A.lA ≠ A.cA ∧ A.wA ≠ A.cA := by
  have n := h.nd
  unfold FA.mu at n
  rw [List.nodup_cons, List.nodup_cons] at n
  obtain ⟨n1, n2, _⟩ := n
  exact ⟨fun z => n1 (by rw [z]; exact List.mem_cons_self), fun z => n1 (by rw [z]; exact List.mem_cons_of_mem _ List.mem_cons_self), fun z => n2 (by rw [z]; exact List.mem_cons_self)⟩
theorem FnAt.setL (h : FnAt CF CG H x A d s) (q : List Nat) : FnAt CF CG (upd H A.lA (.lst (q.map VN))) x A d ⟨q, s.w, s.ch⟩ := by
  obtain ⟨n1, n2, n3⟩ := h.ne
  exact ⟨fun H2 k => h.im H2 (Fz.trans (Fz.upd fm_l) k fun b hb => .inl hb), upd_same, by rw [upd_ne n1.symm]; exact h.win, by rw [upd_ne n2.symm]; exact h.cho, h.nd⟩
theorem FnAt.setW (h : FnAt CF CG H x A d s) (q : List Int) : FnAt CF CG (upd H A.wA (.lst (q.map V.int))) x A d ⟨s.lf, q, s.ch⟩ := by
  obtain ⟨n1, n2, n3⟩ := h.ne
  exact ⟨fun H2 k => h.im H2 (Fz.trans (Fz.upd fm_w) k fun b hb => .inl hb), by rw [upd_ne n1]; exact h.lef, upd_same, by rw [upd_ne n3.symm]; exact h.cho, h.nd⟩
theorem FnAt.setC (h : FnAt CF CG H x A d s) (q : List Int) : FnAt CF CG (upd H A.cA (.lst (q.map V.int))) x A d ⟨s.lf, s.w, q⟩ := by
  obtain ⟨n1, n2, n3⟩ := h.ne
  exact ⟨fun H2 k => h.im H2 (Fz.trans (Fz.upd fm_c) k fun b hb => .inl hb), by rw [upd_ne n2]; exact h.lef, by rw [upd_ne n3]; exact h.win, upd_same, h.nd⟩
structure FnV (H : Hp) (A : FA) (s : FSt) : Prop where
  lef : H A.lA = some (.lst (s.lf.map VN))
  win : H A.wA = some (.lst (s.w.map V.int))
  cho : H A.cA = some (.lst (s.ch.map V.int))
theorem FnAt.v (h : FnAt CF CG H x A d s) : FnV H A s := ⟨h.lef, h.win, h.cho⟩
theorem FnV.same (v : FnV H A s) (sm : Same H H') : FnV H' A s := ⟨sm _ _ v.lef, sm _ _ v.win, sm _ _ v.cho⟩
theorem FnV.upd {a : Addr} {o : HO} (v : FnV H A s) (na : a ∉ A.mu) : FnV (L2.upd H a o) A s :=
  ⟨by rw [upd_ne (fun z => na (by rw [← z]; exact fm_l))]; exact v.lef, by rw [upd_ne (fun z => na (by rw [← z]; exact fm_w))]; exact v.win, by rw [upd_ne (fun z => na (by rw [← z]; exact fm_c))]; exact v.cho⟩
theorem FnV.new {a : Addr} (v : FnV H A s) (na : H a = none) : a ∉ A.mu := fun z => by
  unfold FA.mu at z
  simp only [List.mem_cons, List.not_mem_nil, or_false] at z
  rcases z with z | z | z
  · rw [z, v.lef] at na; cases na
  · rw [z, v.win] at na; cases na
  · rw [z, v.cho] at na; cases na
theorem FnV.to {s' : FSt} (v : FnV H' A s') (R : FnAt CF CG H x A d s) (f : Fz A.mu H H') : FnAt CF CG H' x A d s' := ⟨fun H2 k => R.im H2 (f.trans k fun b hb => .inl hb), v.lef, v.win, v.cho, R.nd⟩
theorem FnAt.src (R : FnAt CF CG H x A d s) {t : Nat} (ht : t < d.mv.length) :
    ∃ (sas : List Addr) (sa : Addr), H A.sA = some (.lst (sas.map V.ref)) ∧ sas[t]? = some sa ∧ A.sA ∉ A.mu ∧ sa ∉ A.mu ∧ H sa = some (.lst ((Gr.row (rvG d.mv) t).map VN)) := by
  obtain ⟨sas, es, esl, esr⟩ := R.i.so
  rw [rv_len] at esl
  have n1 : A.sA ∉ A.mu := fun z => by
    obtain ⟨as', e, _⟩ := (R.im (upd H A.sA (.tup [])) (Fz.upd z)).so
    rw [upd_same] at e
    cases e
  obtain ⟨sa, hsa⟩ : ∃ a, sas[t]? = some a := ⟨_, List.getElem?_eq_getElem (by omega)⟩
  refine ⟨sas, sa, es, hsa, n1, fun z => ?_, esr t sa hsa⟩
  obtain ⟨as', e, _, er⟩ := (R.im (upd H sa (.tup [])) (Fz.upd z)).so
  rw [upd_ne (fun q => n1 (by rw [q]; exact z)), es] at e
  have e2 : as' = sas := by
    have := HO.lst.inj (Option.some.inj e)
    exact ((List.map_inj_right fun a b h => V.ref.inj h).mp this).symm
  subst e2
  have := er t sa hsa
  rw [upd_same] at this
  cases this
end
def fs0 (d : Gd) : FSt := ⟨d.mv.map List.length, List.replicate d.mv.length (-1), List.replicate d.mv.length (-1)⟩
def spInitF (CF CG : Addr) : Sp := fun vs H Q _ => ∃ (x g dx : Addr) (d : Gd), vs = [.ref x, .ref g] ∧ H x = some (.ins CF dx []) ∧ GmN CG H g d ∧ d.Ok ∧
  ∀ (H' : Hp) (A : FA), Kp x H H' → (∀ b ∈ A.mu, H b = none) → A.gA = g → FnAt CF CG H' x A d (fs0 d) → Q .non H'
theorem ok_initF {CF CG f : Addr} {fd : FuncData} (T : Txt K mg) (PF : FinC K CF) (PC : GmeC K CG) (F : L2.Fun K "__init__" "Findings.__init__" s_Findings_init f fd) : FnOk P w K mg base CX0 2 f fd ["self", "game"] (spInitF CF CG) := by
  have C_reversed_graph : C8.Cal P w K mg base 1 "reversed_graph" spRevN [] := cal_revN T
  refine F.ok sc_Findings_init (fun vs H Q E h => ?_) (fun cdv A' outer s' H vs Q E hr h => ?_)
  · obtain ⟨_, _, _, _, rfl, _⟩ := h
    rfl
  · obtain ⟨x, g, dx, d, rfl, hx, hg, ok, q⟩ := h
    refine ⟨_, (pss_cons
      (ps_fld (pv 0) (pv 1) rfl)
      (pss_cons
      (ps_fld (pv 0) (C8.pe_c C_reversed_graph hr (by decide) (by rfl) (pa_cons (pe_fld (pv 1) rfl) pa_nil)) rfl)
      (pss_cons
      (ps_fld (pv 0) (pe_lc (own := [("moves", 2)]) (g := gName 2) (tt := tYes) rfl sc_Findings_init.nd (pi_tup (pe_fld (pv 1) rfl)) (blkOk_by (N := N_Findings_init) (sc := defScope s_Findings_init) (by decide +kernel)) (fun _ _ _ _ _ => (pg_name (i := 2) sc_Findings_init.nd rfl (Or.inl rfl))) (fun _ _ _ _ _ => pts_nil) (fun _ _ _ _ _ => (pe_callB (call_lenK (K := K) rfl) (by rfl) T.z_len PySem.boot_len (pa_cons (pv 2) pa_nil)))) rfl)
      (pss_cons
      (ps_fld (pv 0) (pe_op op_rep (pe_lst (pa_cons (pe_un un_neg pe_int) pa_nil)) (pe_callB (call_lenK (K := K) rfl) (by rfl) T.z_len PySem.boot_len (pa_cons (pe_fld (pv 1) rfl) pa_nil))) rfl)
      (pss_one
      (ps_fld (pv 0) (pe_op op_rep (pe_lst (pa_cons (pe_un un_neg pe_int) pa_nil)) (pe_callB (call_lenK (K := K) rfl) (by rfl) T.z_len PySem.boot_len (pa_cons (pe_fld (pv 1) rfl) pa_nil))) rfl)))))), ?_⟩
    have hn2 := ok.n2
    obtain ⟨gx, ot, pt, rt, g1, g2, g3, g4⟩ := id hg
    have ngx : g ≠ x := fun z => by rw [z, hx] at g1; cases g1
    have nrtx : rt ≠ x := fun z => by obtain ⟨as, e, _⟩ := g4; rw [z, hx] at e; cases e
    refine ⟨_, rfl, _, rfl, x, CF, dx, [], rfl, hx, PF.cl, PF.ng, by decide, ?_⟩
    have k1 : Kp x H (upd H x (.ins CF dx (putF "game" (.ref g) []))) := Kp.own
    have x1 := upd_same (H := H) (a := x) (o := .ins CF dx (putF "game" (.ref g) []))
    generalize upd H x (.ins CF dx (putF "game" (.ref g) [])) = H1 at k1 x1 ⊢
    have gm1 : GrT H1 rt d.mv := by
      obtain ⟨as, e1, e2, e3⟩ := g4
      exact ⟨as, k1 _ _ nrtx e1, e2, fun i a ha => k1 _ _ (fun z => by have := e3 i a ha; rw [z, hx] at this; cases this) (e3 i a ha)⟩
    refine ⟨_, rfl, g, CG, gx, _, _, rfl, k1 _ _ ngx g1, PC.cl, PC.nm, gf_m _ _ _, rt, d, rfl, gm1, ok, fun H2 sA s2 nsA eS => ?_⟩
    have x2 := s2 _ _ x1
    refine ⟨_, rfl, x, CF, dx, _, rfl, x2, PF.cl, PF.ns, pl_lt (pl_next pl_0) (by decide), ?_⟩
    have k3 : Kp x H2 (upd H2 x (.ins CF dx (putF "sources" (.ref sA) (putF "game" (.ref g) [])))) := Kp.own
    have x3 := upd_same (H := H2) (a := x) (o := .ins CF dx (putF "sources" (.ref sA) (putF "game" (.ref g) [])))
    generalize upd H2 x (.ins CF dx (putF "sources" (.ref sA) (putF "game" (.ref g) []))) = H3 at k3 x3 ⊢
    have k03 : Kp x H H3 := (k1.trans (Same.kp s2)).trans k3
    have gT3 : GrT H3 rt d.mv := by
      obtain ⟨as, e1, e2, e3⟩ := g4
      exact ⟨as, k03 _ _ nrtx e1, e2, fun i a ha => k03 _ _ (fun z => by have := e3 i a ha; rw [z, hx] at this; cases this) (e3 i a ha)⟩
    obtain ⟨as, t1, t2, t3⟩ := gT3
    -- left
    refine ⟨_, rfl, g, CG, gx, _, _, rfl, k03 _ _ ngx g1, PC.cl, PC.nm, gf_m _ _ _, rt, rfl, ⟨_, .of t1⟩, fun lA nlA => lc_tup (K := K) (a := rt) (xs := as.map V.ref) (fun i H' => Same H3 H' ∧ H' lA = some (.lst (((d.mv.take i).map List.length).map VN))) ⟨same_new nlA, upd_same⟩ (fun i H' _ z => .of (z.1 _ _ t1)) ?_ ?_⟩
    · rintro i v HB hi ⟨sB, eB⟩
      have hil : i < as.length := by have := lt_of_get hi; rwa [List.length_map] at this
      obtain ⟨a, ha⟩ : ∃ a, as[i]? = some a := ⟨_, List.getElem?_eq_getElem hil⟩
      have ea := t3 i a ha
      have hv : v = .ref a := by
        rw [List.getElem?_map, ha] at hi
        exact (Option.some.inj hi).symm
      subst hv
      refine ⟨rfl, _, rfl, a, _, rfl, .inr (.inl (.of (sB _ _ ea))), _, eB, by rw [List.length_map, List.length_map, List.length_take]; exact Nat.lt_of_le_of_lt (show _ ≤ 1000 by omega) (by decide), fun b o e => by rw [upd_ne (ne_of_none e nlA)]; exact sB b o e, ?_⟩
      rw [upd_same, show d.mv.take (i + 1) = d.mv.take i ++ [Gr.row d.mv i] from ?_]
      · rw [List.map_append, List.map_append, List.length_map]; rfl
      · rw [List.take_add_one, Gr.row, List.getD_eq_getElem?_getD, List.getElem?_eq_getElem (show i < d.mv.length by omega)]; rfl
    rintro HB ⟨sB, eB⟩
    rw [List.length_map, t2, List.take_length] at eB
    have xB := sB _ _ x3
    refine ⟨_, rfl, x, CF, dx, _, rfl, xB, PF.cl, PF.nl, pl_lt (pl_next (pl_next pl_0)) (by decide), ?_⟩
    have k5 : Kp x HB (upd HB x (.ins CF dx (putF "left" (.ref lA) (putF "sources" (.ref sA) (putF "game" (.ref g) []))))) := Kp.own
    have x5 := upd_same (H := HB) (a := x) (o := .ins CF dx (putF "left" (.ref lA) (putF "sources" (.ref sA) (putF "game" (.ref g) []))))
    generalize upd HB x (.ins CF dx (putF "left" (.ref lA) (putF "sources" (.ref sA) (putF "game" (.ref g) [])))) = H5 at k5 x5 ⊢
    have nlx : lA ≠ x := fun z => by rw [z, x3] at nlA; cases nlA
    have eL5 := k5 _ _ nlx eB
    have k35 : Kp x H3 H5 := (Same.kp sB).trans k5
    have rt5 := k35 _ _ nrtx t1
    have g5 := k35 _ _ ngx (k03 _ _ ngx g1)
    -- winners
    refine ⟨_, rfl, by show 1 ≤ sizeLine; decide, fun tl ntl => ?_⟩
    generalize hX : upd H5 tl _ = H6; obtain ⟨sH6, etl⟩ := nw ntl hX; clear hX
    have x6 := sH6 _ _ x5
    have rt6 := sH6 _ _ rt5
    refine ⟨_, rfl, g, CG, gx, _, _, rfl, sH6 _ _ g5, PC.cl, PC.nm, gf_m _ _ _, rt, _, rfl, .inr (.inl (.of rt6)), tl, _, _, rfl, rfl, etl, by omega, by rw [List.length_map]; omega, ?_, fun wA nwA => ?_⟩
    · rw [List.length_map, t2, Int.toNat_natCast]
      show 1 * d.mv.length ≤ 16777216
      omega
    rw [List.length_map, t2, Int.toNat_natCast, show (List.replicate d.mv.length [V.int (-1)]).flatten = (List.replicate d.mv.length (-1 : Int)).map V.int by simp]
    generalize hX : upd H6 wA _ = H7; obtain ⟨sH7, ewA⟩ := nw nwA hX; clear hX
    have x7 := sH7 _ _ x6
    refine ⟨_, rfl, x, CF, dx, _, rfl, x7, PF.cl, PF.nw, pl_lt (pl_next (pl_next (pl_next pl_0))) (by decide), ?_⟩
    have k8 : Kp x H7 (upd H7 x (.ins CF dx (putF "winners" (.ref wA) (putF "left" (.ref lA) (putF "sources" (.ref sA) (putF "game" (.ref g) [])))))) := Kp.own
    have x8 := upd_same (H := H7) (a := x) (o := .ins CF dx (putF "winners" (.ref wA) (putF "left" (.ref lA) (putF "sources" (.ref sA) (putF "game" (.ref g) [])))))
    generalize upd H7 x (.ins CF dx (putF "winners" (.ref wA) (putF "left" (.ref lA) (putF "sources" (.ref sA) (putF "game" (.ref g) []))))) = H8 at k8 x8 ⊢
    have nwx : wA ≠ x := fun z => by rw [z, x6] at nwA; cases nwA
    have k58 : Kp x H5 H8 := ((Same.kp sH6).trans (Same.kp sH7)).trans k8
    -- choices
    refine ⟨_, rfl, by show 1 ≤ sizeLine; decide, fun ul nul => ?_⟩
    generalize hX : upd H8 ul _ = H9; obtain ⟨sH9, eul⟩ := nw nul hX; clear hX
    have x9 := sH9 _ _ x8
    have rt9 := sH9 _ _ (k58 _ _ nrtx rt5)
    refine ⟨_, rfl, g, CG, gx, _, _, rfl, sH9 _ _ (k58 _ _ ngx g5), PC.cl, PC.nm, gf_m _ _ _, rt, _, rfl, .inr (.inl (.of rt9)), ul, _, _, rfl, rfl, eul, by omega, by rw [List.length_map]; omega, ?_, fun cA ncA => ?_⟩
    · rw [List.length_map, t2, Int.toNat_natCast]
      show 1 * d.mv.length ≤ 16777216
      omega
    rw [List.length_map, t2, Int.toNat_natCast, show (List.replicate d.mv.length [V.int (-1)]).flatten = (List.replicate d.mv.length (-1 : Int)).map V.int by simp]
    generalize hX : upd H9 cA _ = HA; obtain ⟨sHA, ecA⟩ := nw ncA hX; clear hX
    have xA := sHA _ _ x9
    refine ⟨_, rfl, x, CF, dx, _, rfl, xA, PF.cl, PF.nc, pl_lt (pl_next (pl_next (pl_next (pl_next pl_0)))) (by decide), ?_⟩
    have kF : Kp x HA (upd HA x (.ins CF dx (fnf g sA lA wA cA))) := Kp.own
    have xF : (upd HA x (.ins CF dx (fnf g sA lA wA cA))) x = some (.ins CF dx (fnf g sA lA wA cA)) := upd_same
    show Q V.non (upd HA x (.ins CF dx (fnf g sA lA wA cA)))
    generalize upd HA x (.ins CF dx (fnf g sA lA wA cA)) = HF at kF xF ⊢
    have ncx : cA ≠ x := fun z => by rw [z, x9] at ncA; cases ncA
    have k8F : Kp x H8 HF := ((Same.kp sH9).trans (Same.kp sHA)).trans kF
    have k3F : Kp x H3 HF := k35.trans (k58.trans k8F)
    have eLF := k58.trans k8F _ _ nlx eL5
    have eWF := k8F _ _ nwx (k8 _ _ nwx ewA)
    have eCF := kF _ _ ncx ecA
    have fr : ∀ {b : Addr} {Ha Hb : Hp}, Kp x Ha Hb → (∃ o, Hb x = some o) → Hb b = none → Ha b = none := fun {b Ha Hb} k ⟨ox, hxb⟩ e => by
      cases c : Ha b with
      | none => rfl
      | some o =>
        by_cases z : b = x
        · rw [z, hxb] at e; cases e
        · rw [k b o z c] at e; cases e
    have nw3 : H3 wA = none := fr (k35.trans (Same.kp sH6)) ⟨_, x6⟩ nwA
    have nc3 : H3 cA = none := fr (k35.trans (k58.trans (Same.kp sH9))) ⟨_, x9⟩ ncA
    have n3 : ∀ b ∈ ({ dx := dx, gA := g, sA := sA, lA := lA, wA := wA, cA := cA } : FA).mu, H3 b = none := fun b hb => by
      unfold FA.mu at hb
      simp only [List.mem_cons, List.not_mem_nil, or_false] at hb
      rcases hb with z | z | z <;> rw [z] <;> assumption
    refine q HF ⟨dx, g, sA, lA, wA, cA⟩ (k03.trans k3F) (fun b hb => fr k03 ⟨_, x3⟩ (n3 b hb)) rfl ⟨fun H2' f2 => ?_, by rw [eLF]; rfl, eWF, eCF, ?_⟩
    · have keep : ∀ b o, b ≠ x → H3 b = some o → H2' b = some o := fun b o nb e => f2 b o (fun z => by rw [n3 b z] at e; cases e) (k3F b o nb e)
      have k23 : ∀ b o, b ≠ x → H2 b = some o → H2' b = some o := fun b o nb e => keep b o nb (k3 b o nb e)
      refine ⟨f2 _ _ (fun z => by have := n3 x z; rw [x3] at this; cases this) xF, ⟨gx, ot, pt, rt, keep _ _ ngx (k03 _ _ ngx g1), keep _ _ ?_ (k03 _ _ ?_ g2), keep _ _ ?_ (k03 _ _ ?_ g3), as, keep _ _ nrtx t1, t2, fun i a ha => keep _ _ ?_ (t3 i a ha)⟩, ?_⟩
      · exact fun z => by rw [z, hx] at g2; cases g2
      · exact fun z => by rw [z, hx] at g2; cases g2
      · exact fun z => by rw [z, hx] at g3; cases g3
      · exact fun z => by rw [z, hx] at g3; cases g3
      · exact fun z => by have := t3 i a ha; rw [z, x3] at this; cases this
      · obtain ⟨bs, e1, e2, e3⟩ := eS
        exact ⟨bs, k23 sA _ (fun z => by rw [z, x2] at e1; cases e1) e1, e2, fun i a ha => k23 _ _ (fun z => by have := e3 i a ha; rw [z, x2] at this; cases this) (e3 i a ha)⟩
    · have k5A : H5 cA = none := fr (k58.trans (Same.kp sH9)) ⟨_, x9⟩ ncA
      have n1 : lA ≠ wA := fun z => by have := sH6 _ _ eL5; rw [z] at this; rw [nwA] at this; cases this
      have n2 : lA ≠ cA := fun z => by rw [z, k5A] at eL5; cases eL5
      have n4 : wA ≠ cA := fun z => by have := sH9 _ _ (k8 _ _ nwx ewA); rw [z, ncA] at this; cases this
      unfold FA.mu
      simp [n1, n2, n4]
/-- what has been found -/
def SolN (CS : Addr) (H : Hp) (x : Addr) (w c : List Int) : Prop := ∃ dx wt ct : Addr, H x = some (.ins CS dx (slf wt ct)) ∧ H wt = some (.tup (w.map V.int)) ∧ H ct = some (.tup (c.map V.int))
theorem SolN.same {CS x : Addr} {w c : List Int} {H H' : Hp} (s : Same H H') (h : SolN CS H x w c) : SolN CS H' x w c := by
  obtain ⟨dx, wt, ct, a, b, e⟩ := h
  exact ⟨dx, wt, ct, s _ _ a, s _ _ b, s _ _ e⟩
def spInitS (CS : Addr) : Sp := fun vs H Q _ => ∃ (x wA cA dx : Addr) (ws cs : List Int), vs = [.ref x, .ref wA, .ref cA] ∧ H x = some (.ins CS dx []) ∧ H wA = some (.lst (ws.map V.int)) ∧ H cA = some (.lst (cs.map V.int)) ∧ ws.length ≤ 1000 ∧ cs.length ≤ 1000 ∧
  ∀ H', Kp x H H' → SolN CS H' x ws cs → Q .non H'
theorem ok_initS {CS f : Addr} {fd : FuncData} (T : Txt K mg) (PS : SolC K CS) (F : L2.Fun K "__init__" "Solution.__init__" s_Solution_init f fd) : FnOk P w K mg base CX0 1 f fd ["self", "winners", "choices"] (spInitS CS) := by
  refine F.ok sc_Solution_init (fun vs H Q E h => ?_) (fun cdv A' outer s' H vs Q E hr h => ?_)
  · obtain ⟨_, _, _, _, _, _, rfl, _⟩ := h
    rfl
  · obtain ⟨x, wA, cA, dx, ws, cs, rfl, hx, hw, hc, l1, l2, q⟩ := h
    refine ⟨_, (pss_cons
      (ps_fld (pv 0) (pe_callTy (call_tuple_ofK (K := K) rfl) (by rfl) T.z_tuple (by decide +kernel) (pa_cons (pv 1) pa_nil)) rfl)
      (pss_one
      (ps_fld (pv 0) (pe_callTy (call_tuple_ofK (K := K) rfl) (by rfl) T.z_tuple (by decide +kernel) (pa_cons (pv 2) pa_nil)) rfl))), ?_⟩
    have nwx : wA ≠ x := fun z => by rw [z, hx] at hw; cases hw
    have ncx : cA ≠ x := fun z => by rw [z, hx] at hc; cases hc
    refine ⟨_, rfl, wA, _, rfl, .inl ⟨.of hw, fun wt nwt => ?_⟩⟩
    generalize hX : upd H wt _ = H1; obtain ⟨sH1, ewt⟩ := nw nwt hX; clear hX
    have x1 := sH1 _ _ hx
    refine ⟨_, rfl, x, CS, dx, _, rfl, x1, PS.cl, PS.nw, by decide, ?_⟩
    have k2 : Kp x H1 (upd H1 x (.ins CS dx (putF "winners" (.ref wt) []))) := Kp.own
    have x2 := upd_same (H := H1) (a := x) (o := .ins CS dx (putF "winners" (.ref wt) []))
    generalize upd H1 x (.ins CS dx (putF "winners" (.ref wt) [])) = H2 at k2 x2 ⊢
    have nwtx : wt ≠ x := fun z => by rw [z, hx] at nwt; cases nwt
    refine ⟨_, rfl, cA, _, rfl, .inl ⟨.of (k2 _ _ ncx (sH1 _ _ hc)), fun ct nct => ?_⟩⟩
    generalize hX : upd H2 ct _ = H3; obtain ⟨sH3, ect⟩ := nw nct hX; clear hX
    have x3 := sH3 _ _ x2
    refine ⟨_, rfl, x, CS, dx, _, rfl, x3, PS.cl, PS.nc, pl_lt (pl_next pl_0) (by decide), ?_⟩
    have k4 : Kp x H3 (upd H3 x (.ins CS dx (slf wt ct))) := Kp.own
    have nctx : ct ≠ x := fun z => by rw [z, x2] at nct; cases nct
    exact q _ ((Same.kp sH1).trans (k2.trans ((Same.kp sH3).trans k4))) ⟨dx, wt, ct, upd_same, k4 _ _ nwtx (sH3 _ _ (k2 _ _ nwtx ewt)), k4 _ _ nctx ect⟩
/-- xs[i] read by an augmented assignment -/
def rGetL (K : PySem.W.Frag) : V → V → Hp → VK → Prop := fun x y H Q => ∃ p xs i v, x = .ref p ∧ y = .int i ∧ SqL K H p xs ∧ 0 ≤ i ∧ atI xs i = some v ∧ Q v H
theorem pget_of {X : Cx} {K : PySem.W.Frag} (h : X.K = K) : PGet X (rGetL K) := by
  subst h
  intro pins s σ H o i' ov iv Q I rx ry h
  obtain ⟨p, xs, i, z, rfl, rfl, hq, h0, he, q⟩ := h
  cases rx
  obtain ⟨t, rfl⟩ := ry
  obtain ⟨its, r, pl, hz⟩ := I.list hq
  obtain ⟨j, h1, h2, h3, h4, h5⟩ := atI_get he
  obtain ⟨w, ew, rw'⟩ := r.get h2
  have hl := r.length
  have hn := line63
  have fin : EP X pins σ Q w s := ⟨z, H, I, rw', q⟩
  have hj : i.toNat = j := by
    rw [seqIndex_of h0 h5] at h1
    exact Option.some.inj h1
  exact wpAny_getItem_list pl.isList h0 (by omega) (by rw [hj]; simpa using ew) fin
def uN (n : Nat) (w : Nat → Int) : Nat := ((List.range n).filter fun p => decide (w p = -1)).length
theorem uN_join {n z : Nat} {w w' : Nat → Int} (hz : z < n) (h : w z = -1) (h1 : w' z ≠ -1) (h2 : ∀ p, p ≠ z → w' p = w p) : uN n w' + 1 = uN n w := by
  unfold uN
  rw [Pm.flt_drop (P := fun p => decide (w p = -1)) List.nodup_range (List.mem_range.mpr hz) (decide_eq_true h)]
  congr 2
  refine List.filter_congr fun p _ => ?_
  by_cases e : p = z
  · subst e; simp [h1]
  · rw [h2 p e]; simp [e]
theorem uN_le (n : Nat) (w : Nat → Int) : uN n w ≤ n := by
  unfold uN
  exact Nat.le_trans (List.length_filter_le _ _) (by rw [List.length_range]; exact Nat.le_refl _)
def spRec (CF CG : Addr) : Sp := fun vs H Q _ => ∃ (x : Addr) (A : FA) (d : Gd) (s : FSt) (a : Nat) (pA : Addr) (ms : List Nat), vs = [.ref x, VN a, .ref pA] ∧ FnAt CF CG H x A d s ∧ FnL d s ∧ d.Ok ∧ H pA = some (.lst (ms.map VN)) ∧ pA ∉ A.mu ∧ a < 2 ∧ (∀ p ∈ ms, p < d.mv.length) ∧ Pm.Cls (dG d d.ps) s.f ∧
  Pm.RI (dG d d.ps) s.f a (fun p => if p ∈ ms then (a : Int) else s.f p) s.c s.l ms [] ∧
  ∀ (H' : Hp) (s' : FSt), Fz A.mu H H' → FnAt CF CG H' x A d s' → FnL d s' → Pm.FI (dG d d.ps) s'.f s'.c → Pm.Cls (dG d d.ps) s'.f → (∀ p, p < d.mv.length → s'.l p = Pm.cl (dG d d.ps) s'.f [] p) → (∀ p, p < d.mv.length → s.f p ≠ -1 → s'.f p = s.f p) → (∀ p ∈ ms, s'.f p = (a : Int)) → Q .non H'
theorem ok_rec {CF CG f : Addr} {fd : FuncData} (T : Txt K mg) (PF : FinC K CF) (PC : GmeC K CG) (F : L2.Fun K "record" "Findings.record" s_Findings_record f fd) : FnOk P w K mg base CX0 1 f fd ["self", "player", "positions"] (spRec CF CG) := by
  refine F.ok sc_Findings_record (fun vs H Q E h => ?_) (fun cdv A' outer s' H vs Q E hr h => ?_)
  · obtain ⟨_, _, _, _, _, _, _, rfl, _⟩ := h
    rfl
  · obtain ⟨x, A, d, s, a, pA, ms, rfl, R, L, ok, eP, nP, a2, hms, C0, R0, q⟩ := h
    refine ⟨_, (pss_cons
      (ps_for PassesOwn.never rfl (pi_list (pv 2)) (pg_name (i := 3) sc_Findings_record.nd rfl (.inl rfl)) (pss_one
      (ps_asg (pv 1) (pg_sub (pe_fld (pv 0) rfl) (pv 3) set_list))))
      (pss_cons
      (ps_set (i := 4) sc_Findings_record.nd rfl (Or.inl rfl) (pe_callTy (call_list_ofK (K := K) rfl) (by rfl) T.z_list (by decide +kernel) (pa_cons (pv 2) pa_nil)))
      (pss_one
      (ps_while PassesOwn.never (pt_cmpR op_gt (pe_callB (call_lenK (K := K) rfl) (by rfl) T.z_len PySem.boot_len (pa_cons (pv 4) pa_nil)) pe_int (nomark _)) (pss_cons
      (ps_set (i := 5) sc_Findings_record.nd rfl (Or.inl rfl) (pe_bm0 PySem.F.plainAttrs_list PySem.F.slot_list_pop PySem.F.type_list_pop mt_pop (pv 4)))
      (pss_one
      (ps_for PassesOwn.never rfl (pi_list (pe_ix (ix_listK (K := K) rfl) (pe_fld (pv 0) rfl) (pv 5) (fun _ _ => rfl))) (pg_name (i := 6) sc_Findings_record.nd rfl (.inl rfl)) (pss_cons
      (ps_augS (pe_fld (pv 0) rfl) (pv 6) (pget_of (K := K) rfl) pe_int ip_sub set_list)
      (pss_cons
      (ps_if (pt_cmpR op_ge (pe_ix (ix_listK (K := K) rfl) (pe_fld (pv 0) rfl) (pv 6) (fun _ _ => rfl)) pe_int (nomark _)) (pss_one
      ps_continue) pss_nil)
      (C8.pss_cut
      (ps_if (pt_cmpR op_eq (pe_ix (ix_tupK (K := K) rfl) (pe_fld (pe_fld (pv 0) rfl) rfl) (pv 6) (fun _ _ => rfl)) (pv 1) (nomark _)) (pss_one
      (ps_asg (pv 5) (pg_sub (pe_fld (pv 0) rfl) (pv 6) set_list))) (pss_one
      (ps_if (pt_cmpR op_gt (pe_ix (ix_listK (K := K) rfl) (pe_fld (pv 0) rfl) (pv 6) (fun _ _ => rfl)) pe_int (nomark _)) (pss_one
      ps_continue) pss_nil)))
      (pss_cons
      (ps_asg (pv 1) (pg_sub (pe_fld (pv 0) rfl) (pv 6) set_list))
      (pss_one
      (ps_expr (pe_bm PySem.F.plainAttrs_list PySem.F.slot_list_append PySem.F.type_list_append mt_append (pv 4) (pa_cons (pv 6) pa_nil))))))))))))))), ?_⟩
    have hn2 := ok.n2
    -- the first loop
    refine ⟨_, rfl, pA, rfl, ⟨_, .of eP⟩, for_list (K := K) (a := pA) (xs := ms.map VN) (fun i σ H' => ∃ (v3 : Option V) (wl : List Int), σ = [some (.ref x), some (VN a), some (.ref pA), v3, none, none, none] ∧ Fz A.mu H H' ∧ FnV H' A ⟨s.lf, wl, s.ch⟩ ∧ wl.length = d.mv.length ∧ ∀ p, wl.getD p (-1) = if p ∈ ms.take i then (a : Int) else s.f p) ⟨none, s.w, rfl, Fz.refl, R.v, L.lw, fun p => by simp [FSt.f]⟩ (fun i σ H' _ ⟨_, _, _, f, _⟩ => .of (f _ _ nP eP)) ?_ ?_⟩
    · rintro i v σ H1 hi ⟨v3, wl, rfl, f1, v1, l1, e1⟩
      obtain ⟨u, hu, rfl⟩ := nats_get hi
      have hun := hms u (List.mem_of_getElem? hu)
      have im := R.im H1 f1
      refine ⟨_, rfl, _, rfl, x, CF, A.dx, _, _, rfl, im.ins, PF.cl, PF.nw, fnf_w _ _ _ _ _, _, rfl, A.wA, _, _, u, rfl, rfl, v1.win, ixN_at (by rw [List.length_map, l1]; exact hun), ?_⟩
      rw [show (wl.map V.int).set u (VN a) = (wl.set u (a : Int)).map V.int by rw [List.map_set]]
      refine ⟨_, wl.set u (a : Int), rfl, f1.trans (Fz.upd fm_w) fun b hb => .inl hb, ((v1.to R f1).setW _).v, by rw [List.length_set]; exact l1, fun p => ?_⟩
      rw [getD_setI (by rw [l1]; exact hun), take_succ' hu]
      by_cases e : p = u
      · subst e; rw [if_pos rfl, if_pos (by simp)]
      · rw [if_neg e, e1]
        congr 1
        simp [e]
    rintro σ H1 ⟨v3, wl, rfl, f1, v1, l1, e1⟩
    rw [List.length_map, List.take_length] at e1
    have eP1 := f1 _ _ nP eP
    refine ⟨_, rfl, pA, _, rfl, .inl (.of eP1), fun Wd nWd => ?_⟩
    generalize hX : upd H1 Wd _ = H2; obtain ⟨sH2, eWd⟩ := nw nWd hX; clear hX
    have nW0 : H Wd = none := by
      cases c : H Wd with
      | none => rfl
      | some o =>
        have := f1 Wd o (fun z => (v1.new nWd) z) c
        rw [this] at nWd; cases nWd
    have f2 := f1.trans (Fz.of (S := []) sH2) fun b hb => absurd hb List.not_mem_nil
    have v2 := v1.same sH2
    have es1 : (⟨s.lf, wl, s.ch⟩ : FSt).f = fun p => if p ∈ ms then (a : Int) else s.f p := funext e1
    -- the search
    refine ⟨fun m σ H' => ∃ (s' : FSt) (ws dn : List Nat) (v3 v5 v6 : Option V), m = uN d.mv.length s'.f + ws.length ∧ σ = [some (.ref x), some (VN a), some (.ref pA), v3, some (.ref Wd), v5, v6] ∧ Fz A.mu H H' ∧ FnV H' A s' ∧ FnL d s' ∧ H' Wd = some (.lst (ws.map VN)) ∧ (∀ p ∈ ms, s'.f p = (a : Int)) ∧ Pm.RI (dG d d.ps) s.f a s'.f s'.c s'.l ws dn, ⟨_, ⟨s.lf, wl, s.ch⟩, ms, [], v3, none, none, rfl, rfl, f2, v2, ⟨L.ll, l1, L.lc⟩, eWd, fun p hp => (congrFun es1 p).trans (if_pos hp), by rw [es1]; exact R0⟩, ?_⟩
    rintro m σ H3 ⟨s3, ws, dn, v3, v5, v6, rfl, rfl, f3, v3', L3, eW3, K3, R3⟩
    refine ⟨_, rfl, Wd, _, rfl, .inl (.of eW3), _, _, rfl, rfl, _, rfl, ite2 (fun cc => ?_) (fun cc => ?_)⟩
    case refine_2 =>
      have cw : ws = [] := by
        cases ws with
        | nil => rfl
        | cons a b => exact absurd (decide_eq_true (by rw [List.length_map, List.length_cons]; omega)) cc
      subst cw
      obtain ⟨h1, h2⟩ := R3.fin (fun p hp q hq => ok.rg p q hq) C0
      exact q H3 s3 f3 (v3'.to R f3) L3 R3.fi h1 h2 R3.old K3
    obtain ⟨ws, t, rfl⟩ : ∃ ws' x, ws = ws' ++ [x] := by
      rcases List.eq_nil_or_concat ws with rfl | ⟨a, b, rfl⟩
      · exact absurd cc (by decide)
      · exact ⟨a, b, List.concat_eq_append⟩
    have ht : t < d.mv.length := ((R3.mem t).mp (by simp)).1
    rw [List.length_append, List.length_singleton]
    refine ⟨fun σ H' => ∃ (s' : FSt) (ws' dn : List Nat) (v3 v5 v6 : Option V), uN d.mv.length s'.f + ws'.length ≤ uN d.mv.length s3.f + ws.length ∧ σ = [some (.ref x), some (VN a), some (.ref pA), v3, some (.ref Wd), v5, v6] ∧ Fz A.mu H H' ∧ FnV H' A s' ∧ FnL d s' ∧ H' Wd = some (.lst (ws'.map VN)) ∧ (∀ p ∈ ms, s'.f p = (a : Int)) ∧ Pm.RI (dG d d.ps) s.f a s'.f s'.c s'.l ws' dn, fun σ' H' ⟨s', ws', dn, v3, v5, v6, h, z⟩ => ⟨_, by omega, s', ws', dn, v3, v5, v6, rfl, z⟩, ?_⟩
    refine ⟨_, rfl, .inl ⟨rfl, _, .of eW3⟩, Wd, _, VN t, rfl, rfl, eW3, by simp, ?_⟩
    rw [show ((ws ++ [t]).map VN).dropLast = ws.map VN by simp]
    have f4 := f3.updN (a := Wd) (o := .lst (ws.map VN)) nW0
    have nWm : Wd ∉ A.mu := R.v.new nW0
    have v4 := v3'.upd (a := Wd) (o := .lst (ws.map VN)) nWm
    have eW4 := upd_same (H := H3) (a := Wd) (o := .lst (ws.map VN))
    generalize upd H3 Wd (.lst (ws.map VN)) = H4 at f4 v4 eW4 ⊢
    have im4 := R.im H4 f4
    obtain ⟨sas, sa, es0, hsa, nS, nsa, esa0⟩ := R.src ht
    refine ⟨_, rfl, x, CF, A.dx, _, _, rfl, im4.ins, PF.cl, PF.ns, fnf_s _ _ _ _ _, _, rfl, A.sA, _, _, .ref sa, rfl, rfl, .of (f4 _ _ nS es0), atN hsa, sa, rfl, ⟨_, .of (f4 _ _ nsa esa0)⟩, ?_⟩
    have und := rv_nd (mv := d.mv) ht
    have umem : ∀ z, z ∈ Gr.row (rvG d.mv) t ↔ z < d.mv.length ∧ t ∈ Gr.row d.mv z := fun z => rv_mem ht
    have GP := R3.pop _ umem
    generalize Gr.row (rvG d.mv) t = us at esa0 und umem GP ⊢
    refine for_list (K := K) (a := sa) (xs := us.map VN) (fun i σ H' => ∃ (s' : FSt) (ws' : List Nat) (v6 : Option V), uN d.mv.length s'.f + ws'.length ≤ uN d.mv.length s3.f + ws.length ∧ σ = [some (.ref x), some (VN a), some (.ref pA), v3, some (.ref Wd), some (VN t), v6] ∧ Fz A.mu H H' ∧ FnV H' A s' ∧ FnL d s' ∧ H' Wd = some (.lst (ws'.map VN)) ∧ (∀ p ∈ ms, s'.f p = (a : Int)) ∧ Pm.RJ (dG d d.ps) s.f a s'.f s'.c s'.l ws' dn t (us.drop i)) ⟨s3, ws, v6, Nat.le_refl _, rfl, f4, v4, L3, eW4, K3, GP⟩ (fun i σ H' _ ⟨_, _, _, _, _, f, _⟩ => .of (f _ _ nsa esa0)) ?_ ?_
    case refine_2 =>
      rintro σ H5 ⟨s5, ws5, v6', h5, rfl, f5, v5', L5, eW5, K5, G5⟩
      rw [List.length_map, List.drop_length] at G5
      exact ⟨s5, ws5, _, _, _, _, h5, rfl, f5, v5', L5, eW5, K5, G5.done⟩
    clear K3 R3 v3' eW3 f3 GP f4 v4 eW4 im4 L3
    rintro i y σ H5 hi ⟨s5, ws5, v6', h5, rfl, f5, v5', L5, eW5, K5, G5⟩
    obtain ⟨z, hz, rfl⟩ := nats_get hi
    have hil := lt_of_get hz
    obtain ⟨hzn, htz⟩ := (umem z).mp (List.mem_of_getElem? hz)
    have edr : us.drop i = z :: us.drop (i + 1) := by
      rw [List.drop_eq_getElem_cons hil]
      rw [List.getElem?_eq_getElem hil] at hz
      rw [Option.some.inj hz]
    have hzd : z ∉ us.drop (i + 1) := fun m => by
      have nd := und.sublist (List.drop_sublist i us)
      rw [edr, List.nodup_cons] at nd
      exact nd.1 m
    rw [edr] at G5
    have im5 := R.im H5 f5
    have hl1 : 1 ≤ s5.l z := by
      have h1 := G5.left z hzn
      rw [if_pos List.mem_cons_self] at h1
      have t0 := (G5.mem t).mp (by simp)
      have tD : t ∉ dn := fun m => by have := List.nodup_append.mp G5.nd; exact this.2.2 t m t (by simp) rfl
      have c1 := Pm.cl_one (g := dG d d.ps) (w0 := s.f) (ok.nd z) htz t0.2.1 tD
      omega
    refine ⟨_, rfl, x, CF, A.dx, _, _, rfl, im5.ins, PF.cl, PF.nl, fnf_l _ _ _ _ _, _, rfl, A.lA, _, (z : Int), VN (s5.l z), rfl, rfl, .of v5'.lef, by omega, atN (getD_n (by rw [L5.ll]; exact hzn)), _, _, rfl, rfl, A.lA, _, _, z, rfl, rfl, v5'.lef, ixN_at (by rw [List.length_map, L5.ll]; exact hzn), ?_⟩
    rw [show ((s5.lf.map VN).set z (V.int ((s5.l z : Int) - 1))) = (s5.lf.set z (s5.l z - 1)).map VN by rw [List.map_set, show ((s5.l z : Int) - 1) = ((s5.l z - 1 : Nat) : Int) by omega]]
    have zll : z < s5.lf.length := by rw [L5.ll]; exact hzn
    have zlw : z < s5.w.length := by rw [L5.lw]; exact hzn
    have zlc : z < s5.ch.length := by rw [L5.lc]; exact hzn
    have f6 : Fz A.mu H (upd H5 A.lA (.lst ((s5.lf.set z (s5.l z - 1)).map VN))) := f5.trans (Fz.upd fm_l) fun b hb => .inl hb
    have v6 : FnV (upd H5 A.lA (.lst ((s5.lf.set z (s5.l z - 1)).map VN))) A ⟨s5.lf.set z (s5.l z - 1), s5.w, s5.ch⟩ := ((v5'.to R f5).setL _).v
    have nl : A.lA ≠ Wd := fun e => nWm (by rw [← e]; exact fm_l)
    have eW6 : (upd H5 A.lA (.lst ((s5.lf.set z (s5.l z - 1)).map VN))) Wd = some (.lst (ws5.map VN)) := by rw [upd_ne nl.symm]; exact eW5
    generalize upd H5 A.lA (.lst ((s5.lf.set z (s5.l z - 1)).map VN)) = H6 at f6 v6 eW6 ⊢
    have im6 := R.im H6 f6
    have hlf : ∀ p, p ≠ z → (⟨s5.lf.set z (s5.l z - 1), s5.w, s5.ch⟩ : FSt).l p = s5.l p := fun p hp => by
      show (s5.lf.set z (s5.l z - 1)).getD p 0 = s5.lf.getD p 0
      rw [getD_set zll, if_neg hp]
    have hlz : (⟨s5.lf.set z (s5.l z - 1), s5.w, s5.ch⟩ : FSt).l z = s5.l z - 1 := by
      show (s5.lf.set z (s5.l z - 1)).getD z 0 = s5.l z - 1
      rw [getD_set zll, if_pos rfl]
    have L6 : FnL d ⟨s5.lf.set z (s5.l z - 1), s5.w, s5.ch⟩ := ⟨by rw [List.length_set]; exact L5.ll, L5.lw, L5.lc⟩
    refine ⟨_, rfl, x, CF, A.dx, _, _, rfl, im6.ins, PF.cl, PF.nw, fnf_w _ _ _ _ _, _, rfl, A.wA, _, _, V.int (s5.f z), rfl, rfl, .of v6.win, atN (getD_i zlw), _, _, rfl, rfl, _, rfl, ite2 (fun k => ?_) (fun k => ?_)⟩
    · have k := of_decide_eq_true k
      exact ⟨⟨s5.lf.set z (s5.l z - 1), s5.w, s5.ch⟩, ws5, _, h5, rfl, f6, v6, L6, eW6, K5, G5.stay (ok.nd z) hzd htz hlf hlz hzn (.inl (show s5.f z ≠ -1 by omega))⟩
    have k : s5.f z = -1 := by
      have h1 : ¬ (0 : Int) ≤ s5.f z := fun q => k (decide_eq_true q)
      have := G5.fi.wv z hzn
      omega
    obtain ⟨gx, ot, pt, rt, g1, g2, g3, g4⟩ := im6.gm
    have how := ok.lo
    have hwsn : ws5.length ≤ d.mv.length := by
      have h1 := nd_len (n := d.mv.length) G5.nd fun p hp => ((G5.mem p).mp hp).1
      rw [List.length_append, List.length_cons] at h1
      omega
    refine ⟨fun σ' H' => ∃ (ch : List Int), σ' = [some (.ref x), some (VN a), some (.ref pA), v3, some (.ref Wd), some (VN t), some (VN z)] ∧ Fz A.mu H H' ∧ FnV H' A ⟨s5.lf.set z (s5.l z - 1), s5.w, ch⟩ ∧ H' Wd = some (.lst (ws5.map VN)) ∧ ch.length = d.mv.length ∧ (∀ x, x ≠ z → ch.getD x (-1) = s5.c x) ∧
      ((d.ow.getD z 0 = a ∧ ch.getD z (-1) = (t : Int)) ∨ (d.ow.getD z 0 ≠ a ∧ ch.getD z (-1) = s5.c z ∧ s5.l z - 1 = 0)), ?_, ?_⟩
    · refine ⟨_, rfl, x, CF, A.dx, _, _, rfl, im6.ins, PF.cl, PF.ng, fnf_g _ _ _ _ _, A.gA, CG, gx, _, _, rfl, g1, PC.cl, PC.no, gf_o _ _ _, _, rfl, ot, _, _, VN (d.ow.getD z 0), rfl, rfl, .of g2, atN (getD_n (by omega)), _, rfl, rfl, _, rfl, ite_eq (fun o => ?_) (fun o => ?_)⟩
      · have o : d.ow.getD z 0 = a := Int.ofNat.inj o
        refine ⟨_, rfl, _, rfl, x, CF, A.dx, _, _, rfl, im6.ins, PF.cl, PF.nc, fnf_c _ _ _ _ _, _, rfl, A.cA, _, _, z, rfl, rfl, v6.cho, ixN_at (by rw [List.length_map, L5.lc]; exact hzn), ?_⟩
        rw [show (s5.ch.map V.int).set z (VN t) = (s5.ch.set z (t : Int)).map V.int by rw [List.map_set]]
        have nc : A.cA ≠ Wd := fun e => nWm (by rw [← e]; exact fm_c)
        exact ⟨s5.ch.set z (t : Int), rfl, f6.trans (Fz.upd fm_c) fun b hb => .inl hb, ((v6.to R f6).setC _).v, by rw [upd_ne nc.symm]; exact eW6, by rw [List.length_set]; exact L5.lc, fun y hy => by rw [getD_setI zlc, if_neg hy]; rfl, .inl ⟨o, by rw [getD_setI zlc, if_pos rfl]⟩⟩
      · have o : d.ow.getD z 0 ≠ a := fun e => o (by rw [e])
        refine ⟨_, rfl, x, CF, A.dx, _, _, rfl, im6.ins, PF.cl, PF.nl, fnf_l _ _ _ _ _, _, rfl, A.lA, _, _, VN (s5.l z - 1), rfl, rfl, .of v6.lef, atN (by have h := getD_n (l := s5.lf.set z (s5.l z - 1)) (p := z) (by rw [List.length_set]; exact zll); rw [getD_set zll, if_pos rfl] at h; exact h), _, _, rfl, rfl, _, rfl, ite2 (fun c => ?_) (fun c => ?_)⟩
        · have c := of_decide_eq_true c
          exact ⟨⟨s5.lf.set z (s5.l z - 1), s5.w, s5.ch⟩, ws5, _, h5, rfl, f6, v6, L6, eW6, K5, G5.stay (ok.nd z) hzd htz hlf hlz hzn (.inr ⟨o, by rw [hlz]; omega⟩)⟩
        · have c : ¬ (0 : Int) < ((s5.l z - 1 : Nat) : Int) := fun q => c (decide_eq_true q)
          exact ⟨s5.ch, rfl, f6, v6, eW6, L5.lc, fun _ _ => rfl, .inr ⟨o, rfl, by omega⟩⟩
    · rintro σ H7 ⟨ch, rfl, f7, v7, eW7, c1, c2, hh⟩
      have im7 := R.im H7 f7
      refine ⟨_, rfl, _, rfl, x, CF, A.dx, _, _, rfl, im7.ins, PF.cl, PF.nw, fnf_w _ _ _ _ _, _, rfl, A.wA, _, _, z, rfl, rfl, v7.win, ixN_at (by rw [List.length_map, L5.lw]; exact hzn), ?_⟩
      rw [show (s5.w.map V.int).set z (VN a) = (s5.w.set z (a : Int)).map V.int by rw [List.map_set]]
      have f8 : Fz A.mu H (upd H7 A.wA (.lst ((s5.w.set z (a : Int)).map V.int))) := f7.trans (Fz.upd fm_w) fun b hb => .inl hb
      have v8 : FnV (upd H7 A.wA (.lst ((s5.w.set z (a : Int)).map V.int))) A ⟨s5.lf.set z (s5.l z - 1), s5.w.set z (a : Int), ch⟩ := ((v7.to R f7).setW _).v
      have nw : A.wA ≠ Wd := fun e => nWm (by rw [← e]; exact fm_w)
      have eW8 : (upd H7 A.wA (.lst ((s5.w.set z (a : Int)).map V.int))) Wd = some (.lst (ws5.map VN)) := by rw [upd_ne nw.symm]; exact eW7
      generalize upd H7 A.wA (.lst ((s5.w.set z (a : Int)).map V.int)) = H8 at f8 v8 eW8 ⊢
      refine ⟨_, rfl, .inl ⟨rfl, _, .of eW8⟩, _, rfl, Wd, _, _, rfl, rfl, eW8, by rw [List.length_map]; exact Nat.lt_of_le_of_lt (show ws5.length ≤ 1000 by omega) (by decide), ?_⟩
      have ew : (⟨s5.lf.set z (s5.l z - 1), s5.w.set z (a : Int), ch⟩ : FSt).f = Pm.upC s5.f z (a : Int) := by
        funext p
        show (s5.w.set z (a : Int)).getD p (-1) = _
        rw [getD_setI zlw]
        by_cases e : p = z
        · rw [if_pos e, e, Pm.upC_eq]
        · rw [if_neg e, Pm.upC_ne e]; rfl
      have J := Pm.RJ.join (lf' := (⟨s5.lf.set z (s5.l z - 1), s5.w.set z (a : Int), ch⟩ : FSt).l) (ch' := fun p => ch.getD p (-1)) a2 (ok.o2 _ (List.mem_of_getElem? (getD_n (by omega)))) (fun q hq => ok.rg z q hq) (ok.nd z) C0 G5 hzd htz hlf hlz hzn k c2 (by
        rcases hh with h | ⟨h1, h2, h3⟩
        · exact .inl h
        · exact .inr ⟨h1, h2, by rw [← h3]; exact hlz⟩)
      have hu := uN_join (w := s5.f) (w' := Pm.upC s5.f z (a : Int)) hzn k (by rw [Pm.upC_eq]; omega) fun p hp => Pm.upC_ne hp
      refine ⟨⟨s5.lf.set z (s5.l z - 1), s5.w.set z (a : Int), ch⟩, ws5 ++ [z], _, by rw [List.length_append, List.length_singleton, ew]; omega, rfl, f8.updN nW0, v8.upd nWm, ⟨L6.ll, by rw [List.length_set]; exact L5.lw, c1⟩, by rw [upd_same, List.map_append]; rfl, fun p hp => ?_, by rw [ew]; exact J⟩
      rw [ew]
      by_cases e : p = z
      · rw [e, Pm.upC_eq]
      · rw [Pm.upC_ne e]; exact K5 p hp
def subD (d : Gd) (ns : List Nat) : Gd := ⟨ns.map fun u => d.ow.getD u 0, ns.map fun u => d.ps.getD u 0, subN d.mv ns⟩
theorem subD_len (d : Gd) (ns : List Nat) : (subD d ns).mv.length = ns.length := subN_len _ _
theorem idx_lt {ns : List Nat} (h : ns.Pairwise (· < ·)) {x y : Nat} (hx : x ∈ ns) (hy : y ∈ ns) (e : x < y) : ns.idxOf x < ns.idxOf y := by
  have ex := idxN hx
  have ey := idxN hy
  obtain ⟨lx, gx⟩ := List.getElem?_eq_some_iff.mp ex
  obtain ⟨ly, gy⟩ := List.getElem?_eq_some_iff.mp ey
  by_cases c : ns.idxOf x < ns.idxOf y
  · exact c
  · exfalso
    by_cases c2 : ns.idxOf x = ns.idxOf y
    · rw [c2] at ex
      rw [ex] at ey
      have := Option.some.inj ey
      omega
    · have := List.pairwise_iff_getElem.mp h _ _ ly lx (by omega)
      rw [gx, gy] at this
      omega
theorem asc_nd {ns : List Nat} (h : ns.Pairwise (· < ·)) : ns.Nodup := h.imp fun e => Nat.ne_of_lt e
theorem subD_get {α : Type} {ns : List Nat} {f : Nat → α} {i u : Nat} (z : α) (h : ns[i]? = some u) : (ns.map f).getD i z = f u := by
  rw [List.getD_eq_getElem?_getD, List.getElem?_map, h]; rfl
theorem subD_ok {d : Gd} {ns : List Nat} (ok : d.Ok) (asc : ns.Pairwise (· < ·)) (lt : ∀ u ∈ ns, u < d.mv.length) (ne : ns ≠ []) (inn : ∀ u ∈ ns, ∃ q ∈ Gr.row d.mv u, q ∈ ns) : (subD d ns).Ok := by
  have hasc : ∀ p, (Gr.row (subD d ns).mv p).Pairwise (· < ·) := fun p => by
    rcases Nat.lt_or_ge p ns.length with c | c
    · show (Gr.row (subN d.mv ns) p).Pairwise _
      rw [row_subN (List.getElem?_eq_getElem c), List.pairwise_map]
      refine (List.Pairwise.and_mem.mp ((ok.asc _).sublist List.filter_sublist)).imp fun ⟨a, b, e⟩ => ?_
      exact idx_lt asc (of_decide_eq_true (List.mem_filter.mp a).2) (of_decide_eq_true (List.mem_filter.mp b).2) e
    · show (Gr.row (subN d.mv ns) p).Pairwise _
      rw [row_ge (by rw [subN_len]; exact c)]; exact .nil
  refine ⟨by rw [subD_len]; exact List.length_map _, by rw [subD_len]; exact List.length_map _, by rw [subD_len]; exact List.length_pos_iff.mpr ne, by rw [subD_len]; exact Nat.le_trans (nd_len (asc_nd asc) lt) ok.n2, fun z hz => ?_, fun p hp => ?_, fun p => asc_nd (hasc p), fun p q hq => subN_ok _ _ p q hq, hasc⟩
  · obtain ⟨u, hu, rfl⟩ := List.mem_map.mp hz
    have := lt u hu
    rw [← ok.lo] at this
    exact ok.o2 _ (List.mem_of_getElem? (getD_n this))
  · rw [subD_len] at hp
    show Gr.row (subN d.mv ns) p ≠ []
    obtain ⟨u, hu⟩ : ∃ u, ns[p]? = some u := ⟨_, List.getElem?_eq_getElem hp⟩
    obtain ⟨q, q1, q2⟩ := inn u (List.mem_of_getElem? hu)
    rw [row_subN hu]
    intro e
    have : q ∈ (Gr.row d.mv u).filter fun v => decide (v ∈ ns) := List.mem_filter.mpr ⟨q1, decide_eq_true q2⟩
    rw [List.map_eq_nil_iff.mp e] at this
    cases this
def zL (l : List Nat) : List Int := l.map fun n : Nat => (n : Int)
theorem vg_of {d : Gd} (ok : d.Ok) : Vg (zL d.ow) (zL d.ps) (cZ d.mv) := by
  have hcl : (cZ d.mv).length = d.mv.length := List.length_map _
  refine ⟨fun z => ?_, by rw [hcl, ← ok.lo]; exact List.length_map _, by rw [hcl, ← ok.lp]; exact List.length_map _, fun z hz => ?_, fun z hz => ?_, fun r hr => ?_⟩
  · have := ok.n1
    rw [← hcl, z] at this
    exact absurd this (by decide)
  · obtain ⟨u, hu, rfl⟩ := List.mem_map.mp hz
    have := ok.o2 u hu
    omega
  · obtain ⟨u, hu, rfl⟩ := List.mem_map.mp hz
    omega
  · obtain ⟨i, hi⟩ := List.mem_iff_getElem?.mp hr
    have hil : i < d.mv.length := by have := lt_of_get hi; rwa [hcl] at this
    have hr' : r = zL (Gr.row d.mv i) := by
      have := cZ_row d.mv i
      rw [List.getD_eq_getElem?_getD, hi] at this
      exact this
    rw [hr']
    refine ⟨fun z => ok.ne i hil (List.map_eq_nil_iff.mp z), ?_, fun x hx => ?_⟩
    · unfold zL
      rw [List.pairwise_map]
      exact (ok.asc i).imp fun e => Int.ofNat_lt.mpr e
    · obtain ⟨q, hq, rfl⟩ := List.mem_map.mp hx
      have := ok.rg i q hq
      rw [hcl]
      omega
theorem gmN_of {C x : Addr} {H : Hp} {d : Gd} (h : GmeAt C H x (zL d.ow) (zL d.ps) (cZ d.mv)) : GmN C H x d := by
  obtain ⟨dx, ot, pt, rt, as, h1, h2, h3, h4, h5⟩ := h
  refine ⟨dx, ot, pt, rt, h1, by rw [nt_int]; exact h2, by rw [nt_int]; exact h3, as, h4, by rw [h5.len]; exact List.length_map _, fun i a ha => ?_⟩
  obtain ⟨row, e1, e2⟩ := h5.get ha
  have := cZ_row d.mv i
  rw [List.getD_eq_getElem?_getD, e1] at this
  have this : row = zL (Gr.row d.mv i) := this
  rw [e2, this, nt_int]; rfl
theorem noF (a b c d e : Addr) : (fnf a b c d e).lookup ("record" : Str) = none := by
  unfold fnf
  rw [lookup_putF, if_neg (by decide +kernel), lookup_putF, if_neg (by decide +kernel), lookup_putF, if_neg (by decide +kernel), lookup_putF, if_neg (by decide +kernel), lookup_putF, if_neg (by decide +kernel)]
  rfl
/-- what the findings hold between two parts -/
structure FnO (d : Gd) (s : FSt) : Prop where
  L : FnL d s
  fi : Pm.FI (dG d d.ps) s.f s.c
  cs : Pm.Cls (dG d d.ps) s.f
  lf : ∀ p, p < d.mv.length → s.l p = Pm.cl (dG d d.ps) s.f [] p
def spSlp (CF CG : Addr) : Sp := fun vs H Q _ => ∃ (g pl x : Addr) (A : FA) (d : Gd) (U ns : List Nat) (s : FSt), vs = [.ref g, .ref pl, .ref x] ∧ GmN CG H g d ∧ d.Ok ∧ (∀ p ∈ d.ps, p ∈ U) ∧ U.length ≤ 63 ∧ H pl = some (.lst (ns.map VN)) ∧ pl ∉ A.mu ∧ ns.Pairwise (· < ·) ∧ (∀ u ∈ ns, u < d.mv.length) ∧ ns ≠ [] ∧ FnAt CF CG H x A d s ∧ FnO d s ∧
  (∀ u ∈ ns, s.f u = -1) ∧ (∀ u ∈ ns, ∀ q ∈ Gr.row d.mv u, s.f q = -1 → q ∈ ns) ∧
  ∀ (H' : Hp) (s' : FSt), Fz A.mu H H' → FnAt CF CG H' x A d s' → FnO d s' → (∀ p, p < d.mv.length → s.f p ≠ -1 → s'.f p = s.f p) → (∃ u ∈ ns, s'.f u ≠ -1) → Q .non H'
theorem cal_slp {CG CF fRe : Addr} {fdRe : FuncData} {cI : Addr} (T : Txt K mg) (PC : GmeC K CG) (PF : FinC K CF) (C_won_part : C8.Cal P w K mg base 4 "won_part" (spWon CG) []) (MK : MakX P w K mg base 2 "Game" CG (spInitG CG cI))
    (ME_record : Meth K CF "record" fRe) (FR : L2.Fun K "record" "Findings.record" s_Findings_record fRe fdRe) (BI_record : Binds K fdRe ["self", "player", "positions"] []) : C8.Cal P w K mg base 5 "solve_part" (spSlp CF CG) [] := by
  have C_part_of : C8.Cal P w K mg base 1 "part_of" spPartT [] := cal_partT T
  have FN_record := ok_rec (P := P) (w := w) (base := base) (CG := CG) T PF PC FR
  obtain ⟨f, fd, F, hm, hb⟩ := T.h_solve_part
  refine ⟨f, fd, _, [], F.ok sc_solve_part (fun vs H Q E h => ?_) (fun cdv A' outer s' H vs Q E hr h => ?_), hm, F.kp, hb, .nil⟩
  · obtain ⟨_, _, _, _, _, _, _, _, rfl, _⟩ := h
    rfl
  · obtain ⟨g, pl, x, A, d, U, ns, s, rfl, hg, ok, hU, hU2, ePl, nPl, asc, hlt, hne, R, O, hun, hin, q⟩ := h
    refine ⟨_, (pss_cons
      (ps_setLc (i := 3) (own := [("place", 9)]) (g := gName 9) (tt := tYes) rfl sc_solve_part.nd rfl rfl (sw_true rfl rfl rfl (by decide +kernel)) (pi_list (pv 1)) (blkOk_by (N := N_solve_part) (sc := defScope s_solve_part) (by decide +kernel)) (fun _ _ _ _ _ => (pg_name (i := 9) sc_solve_part.nd rfl (Or.inl rfl))) (fun _ _ _ _ _ => pts_nil) (fun _ _ _ _ _ => (pe_ix (ix_tupK (K := K) rfl) (pe_fldK (K := K) rfl (pv 0) rfl) (pv 9) (fun _ _ => rfl))))
      (pss_cons
      (ps_setLc (i := 4) (own := [("place", 9)]) (g := gName 9) (tt := tYes) rfl sc_solve_part.nd rfl rfl (sw_true rfl rfl rfl (by decide +kernel)) (pi_list (pv 1)) (blkOk_by (N := N_solve_part) (sc := defScope s_solve_part) (by decide +kernel)) (fun _ _ _ _ _ => (pg_name (i := 9) sc_solve_part.nd rfl (Or.inl rfl))) (fun _ _ _ _ _ => pts_nil) (fun _ _ _ _ _ => (pe_ix (ix_tupK (K := K) rfl) (pe_fldK (K := K) rfl (pv 0) rfl) (pv 9) (fun _ _ => rfl))))
      (pss_cons
      (ps_asg (C8.pe_c C_won_part hr (by decide) (by rfl) (pa_cons (pe_makeN MK hr (by decide) (by rfl) (pa_cons (pv 3) (pa_cons (pv 4) (pa_cons (C8.pe_c C_part_of hr (by decide) (by rfl) (pa_cons (pe_fld (pv 0) rfl) (pa_cons (pv 1) pa_nil))) pa_nil)))) pa_nil)) (pg_tup (by rfl) (pgs_cons (pg_name (i := 5) sc_solve_part.nd rfl (.inl rfl)) (pgs_cons (pg_name (i := 6) sc_solve_part.nd rfl (.inl rfl)) (pgs_cons (pg_name (i := 7) sc_solve_part.nd rfl (.inl rfl)) pgs_nil)))))
      (pss_cons
      (ps_for PassesOwn.never rfl (pi_list (pv 5)) (pg_name (i := 8) sc_solve_part.nd rfl (.inl rfl)) (pss_one
      (ps_if (pt_cmpR op_eq (pe_ix (ix_listK (K := K) rfl) (pv 3) (pv 8) (fun _ _ => rfl)) (pv 7) (nomark _)) (pss_one
      (ps_asg (pe_ix (ix_listK (K := K) rfl) (pv 1) (pe_ix (ix_listK (K := K) rfl) (pv 6) (pv 8) (fun _ _ => rfl)) (fun _ _ => rfl)) (pg_sub (pe_fld (pv 2) rfl) (pe_ix (ix_listK (K := K) rfl) (pv 1) (pv 8) (fun _ _ => rfl)) set_list))) pss_nil)))
      (pss_one
      (ps_expr (pe_meth (pv 2) PF.cl ME_record FN_record (hr.mono (by decide)) BI_record .nil pass0 (pa_cons (pv 7) (pa_cons (pe_lc (own := [("member", 8)]) (g := gName 8) (tt := tYes) rfl sc_solve_part.nd (pi_list (pv 5)) (blkOk_by (N := N_solve_part) (sc := defScope s_solve_part) (by decide +kernel)) (fun _ _ _ _ _ => (pg_name (i := 8) sc_solve_part.nd rfl (Or.inl rfl))) (fun _ _ _ _ _ => pts_nil) (fun _ _ _ _ _ => (pe_ix (ix_listK (K := K) rfl) (pv 1) (pv 8) (fun _ _ => rfl)))) pa_nil))))))))), ?_⟩
    have hn2 := ok.n2
    have how := ok.lo
    have hops := ok.lp
    have nd := asc_nd asc
    have hnl : ns.length ≤ 1000 := by have := nd_len nd hlt; omega
    obtain ⟨gx, ot, pt, rt, g1, g2, g3, g4⟩ := id hg
    -- owners
    refine ⟨_, rfl, pl, rfl, ⟨_, .of ePl⟩, fun D nD => lc_list (K := K) (a := pl) (xs := ns.map VN) (fun i H' => Same H H' ∧ H' D = some (.lst (((ns.take i).map fun u => d.ow.getD u 0).map VN))) ⟨same_new nD, upd_same⟩ (fun i H' _ z => .of (z.1 _ _ ePl)) ?_ ?_⟩
    · rintro i v H1 hi ⟨s1, e1⟩
      obtain ⟨u, hu, rfl⟩ := nats_get hi
      have hun := hlt u (List.mem_of_getElem? hu)
      refine ⟨rfl, _, rfl, g, CG, gx, _, _, rfl, s1 _ _ g1, PC.cl, PC.no, gf_o _ _ _, _, rfl, ot, _, _, VN (d.ow.getD u 0), rfl, rfl, .of (s1 _ _ g2), atN (getD_n (by omega)), _, e1, by rw [List.length_map, List.length_map, List.length_take]; exact Nat.lt_of_le_of_lt (show _ ≤ 1000 by omega) (by decide), fun b o e => by rw [upd_ne (ne_of_none e nD)]; exact s1 b o e, ?_⟩
      rw [upd_same, take_succ' hu, List.map_append, List.map_append]; rfl
    rintro H1 ⟨s1, eO⟩
    rw [List.length_map, List.take_length] at eO
    have g11 := s1 _ _ g1
    -- priorities
    refine ⟨_, rfl, pl, rfl, ⟨_, .of (s1 _ _ ePl)⟩, fun D2 nD2 => lc_list (K := K) (a := pl) (xs := ns.map VN) (fun i H' => Same H1 H' ∧ H' D2 = some (.lst (((ns.take i).map fun u => d.ps.getD u 0).map VN))) ⟨same_new nD2, upd_same⟩ (fun i H' _ z => .of (z.1 _ _ (s1 _ _ ePl))) ?_ ?_⟩
    · rintro i v H2 hi ⟨s2, e2⟩
      obtain ⟨u, hu, rfl⟩ := nats_get hi
      have hun := hlt u (List.mem_of_getElem? hu)
      refine ⟨rfl, _, rfl, g, CG, gx, _, _, rfl, s2 _ _ g11, PC.cl, PC.np, gf_p _ _ _, _, rfl, pt, _, _, VN (d.ps.getD u 0), rfl, rfl, .of (s2 _ _ (s1 _ _ g3)), atN (getD_n (by omega)), _, e2, by rw [List.length_map, List.length_map, List.length_take]; exact Nat.lt_of_le_of_lt (show _ ≤ 1000 by omega) (by decide), fun b o e => by rw [upd_ne (ne_of_none e nD2)]; exact s2 b o e, ?_⟩
      rw [upd_same, take_succ' hu, List.map_append, List.map_append]; rfl
    rintro H2 ⟨s2, eP⟩
    rw [List.length_map, List.take_length] at eP
    have s02 := s1.trans s2
    have eO2 := s2 _ _ eO
    -- the game of this part
    refine ⟨_, rfl, _, rfl, _, rfl, g, CG, gx, _, _, rfl, s02 _ _ g1, PC.cl, PC.nm, gf_m _ _ _, _, rfl, rt, pl, d.mv, ns, rfl, g4.same s02, s02 _ _ ePl, nd, hlt, hn2, fun p => Nat.le_trans (nd_len (ok.nd p) (ok.rg p)) hn2, fun H3 r3 s3 nr3 eS => ?_⟩
    have s03 := s02.trans s3
    have inn : ∀ u ∈ ns, ∃ q ∈ Gr.row d.mv u, q ∈ ns := fun u hu => by
      obtain ⟨_, q', h1, h2⟩ := O.cs u (hlt u hu) (hun u hu)
      exact ⟨q', h1, hin u hu q' h1 h2⟩
    have okS := subD_ok ok asc hlt hne inn
    have hcl : (cZ (subD d ns).mv).length = ns.length := by rw [show (cZ (subD d ns).mv).length = (subD d ns).mv.length from List.length_map _, subD_len]
    obtain ⟨asS, l1, l2, l3⟩ := eS
    refine fun gm dxg hgm hdxg hneg => ?_
    have sm := sameM_fresh (C := CG) hgm hdxg
    refine ⟨gm, D, D2, r3, dxg, zL (subD d ns).ow, zL (subD d ns).ps, asS, cZ (subD d ns).mv, rfl, upd_same, by have := sm _ _ (s3 _ _ eO2); rw [nt_int] at this; exact this, by have := sm _ _ (s3 _ _ eP); rw [nt_int] at this; exact this, ⟨sm _ _ l1, rowsA_of (by rw [hcl, l2, subN_len]) fun i a ha => by rw [cZ_row, ← nt_int]; exact sm _ _ (l3 i a ha)⟩, by rw [show (zL (subD d ns).ow).length = (subD d ns).ow.length from List.length_map _, okS.lo]; exact okS.n2, by rw [show (zL (subD d ns).ps).length = (subD d ns).ps.length from List.length_map _, okS.lp]; exact okS.n2, by rw [hcl]; exact hnl, fun r hr => ?_, fun nv => (nv (vg_of okS)).elim, fun _ H4 k4 gat => ⟨rfl, ?_⟩⟩
    · obtain ⟨i, hi⟩ := List.mem_iff_getElem?.mp hr
      have := cZ_row (subD d ns).mv i
      rw [List.getD_eq_getElem?_getD, hi] at this
      have this : r = zL (Gr.row (subD d ns).mv i) := this
      rw [this, show (zL (Gr.row (subD d ns).mv i)).length = (Gr.row (subD d ns).mv i).length from List.length_map _]
      exact Nat.le_trans (nd_len (okS.nd i) (okS.rg i)) okS.n2
    have s34 := sameM_made hgm hdxg k4
    have s04 := s03.trans s34
    refine ⟨gm, subD d ns, U, rfl, gmN_of gat, okS, fun p hp => ?_, hU2, fun H5 t mA cA ms ch a own s5 nmA ncA et em ec hchl mnd mlt a2 hRk wn => ?_⟩
    · obtain ⟨u, hu, rfl⟩ := List.mem_map.mp hp
      exact hU _ (List.mem_of_getElem? (getD_n (by rw [hops]; exact hlt u hu)))
    rw [subD_len] at hchl mlt
    have s05 := s04.trans s5
    have eO5 := s5 _ _ (s34 _ _ (s3 _ _ eO2))
    have R5 := R.same s05
    have ePl5 := s05 _ _ ePl
    have nO : D ∉ A.mu := R.v.new nD
    have nM : mA ∉ A.mu := R.v.new (s04.free nmA)
    have nC : cA ∉ A.mu := R.v.new (s04.free ncA)
    refine ⟨t, _, rfl, .of et, rfl, _, _, rfl, _, _, rfl, _, _, rfl, rfl, ?_⟩
    have iu : ∀ m ∈ ms, ∃ u, ns[m]? = some u := fun m hm => ⟨_, List.getElem?_eq_getElem (mlt m hm)⟩
    have eow : ∀ m u, ns[m]? = some u → (subD d ns).ow.getD m 0 = d.ow.getD u 0 := fun m u h => subD_get 0 h
    -- the choices in the whole game
    refine ⟨_, rfl, mA, rfl, ⟨_, .of em⟩, for_list (K := K) (a := mA) (xs := ms.map VN) (fun i σ H' => ∃ (v8 v9 : Option V) (cl : List Int), σ = [some (.ref g), some (.ref pl), some (.ref x), some (.ref D), some (.ref D2), some (.ref mA), some (.ref cA), some (VN a), v8, v9] ∧ Fz A.mu H5 H' ∧ FnV H' A ⟨s.lf, s.w, cl⟩ ∧ cl.length = d.mv.length ∧ (∀ m ∈ ms.take i, ∀ u, ns[m]? = some u → d.ow.getD u 0 = a → ∃ j v : Nat, ch.getD m (-1) = (j : Int) ∧ ns[j]? = some v ∧ cl.getD u (-1) = (v : Int)) ∧ (∀ p, (∀ m ∈ ms.take i, ns[m]? = some p → d.ow.getD p 0 ≠ a) → cl.getD p (-1) = s.c p)) ⟨_, _, s.ch, rfl, Fz.refl, R5.v, O.L.lc, by simp, fun _ _ => rfl⟩ (fun i σ H' _ ⟨_, _, _, _, f, _⟩ => .of (f _ _ nM em)) ?_ ?_⟩
    · rintro i v σ H6 hi ⟨v8, v9, cl, rfl, f6, v6, l6, c1, c2⟩
      obtain ⟨m, hm, rfl⟩ := nats_get hi
      have hmm := List.mem_of_getElem? hm
      obtain ⟨u, hu⟩ := iu m hmm
      have hun' := hlt u (List.mem_of_getElem? hu)
      have im := R5.im H6 f6
      refine ⟨_, rfl, _, rfl, D, _, _, VN (d.ow.getD u 0), rfl, rfl, .of (f6 _ _ nO eO5), atN (by rw [List.getElem?_map, hu]; rfl), _, rfl, rfl, _, rfl, ite_eq (fun o => ?_) (fun o => ?_)⟩
      · have o : d.ow.getD u 0 = a := Int.ofNat.inj o
        obtain ⟨j, hj, hjm, hjS⟩ := wn.ow m (by rw [show (dG (subD d ns) own).n = ns.length from subD_len d ns]; exact mlt m hmm) hmm (by rw [show (dG (subD d ns) own).ow m = (subD d ns).ow.getD m 0 from rfl, eow m u hu]; exact o)
        obtain ⟨v, hv⟩ := iu j hjS
        have zll : u < cl.length := by rw [l6]; exact hun'
        refine ⟨_, rfl, _, rfl, _, rfl, cA, _, _, V.int (ch.getD m (-1)), rfl, rfl, .of (f6 _ _ nC ec), atN (getD_i (by rw [hchl]; exact mlt m hmm)), pl, _, _, VN v, rfl, rfl, .of (f6 _ _ nPl ePl5), by rw [hj]; exact atN hv, _, rfl, x, CF, A.dx, _, _, rfl, im.ins, PF.cl, PF.nc, fnf_c _ _ _ _ _, _, rfl, _, rfl, pl, _, _, VN u, rfl, rfl, .of (f6 _ _ nPl ePl5), atN hu, A.cA, _, _, u, rfl, rfl, v6.cho, ixN_at (by rw [List.length_map]; exact zll), ?_⟩
        rw [show (cl.map V.int).set u (VN v) = (cl.set u (v : Int)).map V.int by rw [List.map_set]]
        refine ⟨_, _, cl.set u (v : Int), rfl, f6.trans (Fz.upd fm_c) fun b hb => .inl hb, ((v6.to R5 f6).setC _).v, by rw [List.length_set]; exact l6, fun m' hm' u' hu' o' => ?_, fun p hp => ?_⟩
        · rw [take_succ' hm] at hm'
          rw [getD_setI zll]
          rcases List.mem_append.mp hm' with k | k
          · obtain ⟨j', v', e1, e2, e3⟩ := c1 m' k u' hu' o'
            by_cases c : u' = u
            · subst c
              have := nd_inj nd hu hu'
              subst this
              exact ⟨j, v, hj, hv, if_pos rfl⟩
            · exact ⟨j', v', e1, e2, by rw [if_neg c]; exact e3⟩
          · rw [List.mem_singleton.mp k, hu] at hu'
            have := Option.some.inj hu'
            subst this
            exact ⟨j, v, by rw [List.mem_singleton.mp k]; exact hj, hv, if_pos rfl⟩
        · rw [take_succ' hm] at hp
          have c : p ≠ u := fun z => hp m (by simp) (by rw [z]; exact hu) (by rw [z]; exact o)
          rw [getD_setI zll, if_neg c]
          exact c2 p fun m' hm' => hp m' (List.mem_append_left _ hm')
      · have o : d.ow.getD u 0 ≠ a := fun e => o (by rw [e])
        refine ⟨_, _, cl, rfl, f6, v6, l6, fun m' hm' u' hu' o' => ?_, fun p hp => c2 p fun m' hm' => hp m' (by rw [take_succ' hm]; exact List.mem_append_left _ hm')⟩
        rw [take_succ' hm] at hm'
        rcases List.mem_append.mp hm' with k | k
        · exact c1 m' k u' hu' o'
        · rw [List.mem_singleton.mp k, hu] at hu'
          rw [← Option.some.inj hu'] at o'
          exact absurd o' o
    rintro σ H6 ⟨v8, v9, cl, rfl, f6, v6, l6, c1, c2⟩
    rw [List.length_map, List.take_length] at c1 c2
    have im6 := R5.im H6 f6
    have R6 : FnAt CF CG H6 x A d ⟨s.lf, s.w, cl⟩ := v6.to R5 f6
    refine ⟨_, rfl, x, A.dx, _, rfl, im6.ins, noF _ _ _ _ _, _, rfl, _, rfl, mA, rfl, ⟨_, .of (f6 _ _ nM em)⟩, fun pA npA => lc_list (K := K) (a := mA) (xs := ms.map VN) (fun i H' => Same H6 H' ∧ H' pA = some (.lst (((ms.take i).map fun m => ns.getD m 0).map VN))) ⟨same_new npA, upd_same⟩ (fun i H' _ z => .of (z.1 _ _ (f6 _ _ nM em))) ?_ ?_⟩
    · rintro i v H7 hi ⟨s7, e7⟩
      obtain ⟨m, hm, rfl⟩ := nats_get hi
      have hmm := List.mem_of_getElem? hm
      have hil := lt_of_get hm
      have hml := nd_len mnd mlt
      refine ⟨rfl, _, rfl, _, rfl, pl, _, _, VN (ns.getD m 0), rfl, rfl, .of (s7 _ _ (f6 _ _ nPl ePl5)), atN (getD_n (mlt m hmm)), _, e7, by rw [List.length_map, List.length_map, List.length_take]; exact Nat.lt_of_le_of_lt (show _ ≤ 1000 by omega) (by decide), fun b o e => by rw [upd_ne (ne_of_none e npA)]; exact s7 b o e, ?_⟩
      rw [upd_same, take_succ' hm, List.map_append, List.map_append]; rfl
    rintro H7 ⟨s7, eA⟩
    rw [List.length_map, List.take_length] at eA
    have R7 := R6.same s7
    have nA : pA ∉ A.mu := R6.v.new npA
    have hM : ∀ p, p ∈ (ms.map fun m => ns.getD m 0) ↔ ∃ m, ns[m]? = some p ∧ m ∈ ms := fun p => by
      rw [List.mem_map]
      constructor
      · rintro ⟨m, hm, rfl⟩
        exact ⟨m, getD_n (mlt m hm), hm⟩
      · rintro ⟨m, e, hm⟩
        exact ⟨m, hm, by rw [List.getD_eq_getElem?_getD, e]; rfl⟩
    have hMn : (ms.map fun m => ns.getD m 0).Nodup := by
      unfold List.Nodup
      rw [List.pairwise_map]
      refine (List.Pairwise.and_mem.mp mnd).imp fun ⟨h1, h2, h3⟩ e => h3 ?_
      exact nd_inj nd (getD_n (mlt _ h1)) (by rw [e]; exact getD_n (mlt _ h2))
    have hM1 : ∀ p ∈ (ms.map fun m => ns.getD m 0), p ∈ ns := fun p hp => by
      obtain ⟨m, e, _⟩ := (hM p).mp hp
      exact List.mem_of_getElem? e
    generalize (ms.map fun m => ns.getD m 0) = M at eA hM hMn hM1
    have hnS : (dG (subD d ns) own).n = ns.length := subD_len d ns
    have hps : ∀ m u, ns[m]? = some u → (subD d ns).ps.getD m 0 = d.ps.getD u 0 := fun m u h => subD_get 0 h
    have hpl : (subD d ns).ps.length = ns.length := List.length_map _
    have RI0 : Pm.RI (dG d d.ps) s.f a (fun p => if p ∈ M then (a : Int) else s.f p) (fun p => cl.getD p (-1)) s.l M [] := by
      refine Pm.RI.start a2 (fun p hp => ok.o2 _ (List.mem_of_getElem? (getD_n (by rw [how]; exact hp)))) (fun p _ q hq => ok.rg p q hq) O.fi O.cs O.lf hMn (fun p hp => ⟨hlt p (hM1 p hp), hun p (hM1 p hp)⟩) (fun p hp => if_pos hp) (fun p hp => if_neg hp) (fun p hp h => c2 p fun m hm e => ?_) (fun p hp o => ?_) (fun p hp o q' hq' => ?_) ?_
      · rcases h with h | h
        · exact absurd ((hM p).mpr ⟨m, e, hm⟩) h
        · exact h
      · obtain ⟨m, e, hm⟩ := (hM p).mp hp
        obtain ⟨j, v, e1, e2, e3⟩ := c1 m hm p e o
        obtain ⟨j', hj, hjm, hjS⟩ := wn.ow m (by rw [hnS]; exact mlt m hm) hm (by rw [show (dG (subD d ns) own).ow m = (subD d ns).ow.getD m 0 from rfl, eow m p e]; exact o)
        have : j' = j := by
          have hj : ch.getD m (-1) = (j' : Int) := hj
          omega
        subst this
        exact ⟨v, e3, (subN_E nd e e2).mp hjm, (hM v).mpr ⟨j', e2, hjS⟩⟩
      · obtain ⟨m, e, hm⟩ := (hM p).mp hp
        by_cases c : s.f q' = -1
        · have hq2 := hin p (hM1 p hp) q' hq' c
          have ei := idxN hq2
          have := wn.op m (by rw [hnS]; exact mlt m hm) hm (by rw [show (dG (subD d ns) own).ow m = (subD d ns).ow.getD m 0 from rfl, eow m p e]; exact o) _ ((subN_E nd e ei).mpr hq')
          exact .inl ((hM q').mpr ⟨_, ei, this⟩)
        · exact .inr c
      · rw [show (fun p => p ∈ M) = (fun u => ∃ i, ns[i]? = some u ∧ i ∈ ms) from funext fun u => propext (hM u)]
        refine Pm.nb_part (g := dG d d.ps) (g' := dG (subD d ns) own) nd mlt (fun i j u v hi hj e => (subN_E nd hi hj).mpr e) (fun i u h => eow i u h) (fun i u hi h o => ?_) (fun i j u v hi hj e => ?_) (fun i u hi => ?_) wn.nb hnS
        · exact c1 i hi u h o
        · refine hRk.mono i j (by rw [hpl]; exact lt_of_get hi) (by rw [hpl]; exact lt_of_get hj) ?_
          rw [hps i u hi, hps j v hj]
          exact e
        · have := hRk.par i (by rw [hpl]; exact lt_of_get hi)
          rw [hps i u hi] at this
          exact this
    refine ⟨x, A, d, ⟨s.lf, s.w, cl⟩, a, pA, M, rfl, R7, ⟨O.L.ll, O.L.lw, l6⟩, ok, eA, nA, a2, fun p hp => hlt p (hM1 p hp), O.cs, RI0, fun H8 s8 f8 R8 L8 fi8 cs8 lf8 old8 win8 => ?_⟩
    obtain ⟨m, _, hm⟩ := wn.ne
    obtain ⟨u, hu⟩ := iu m hm
    have huM := (hM u).mpr ⟨m, hu, hm⟩
    refine q H8 s8 ?_ R8 ⟨L8, fi8, cs8, lf8⟩ old8 ⟨u, hM1 u huM, by rw [win8 u huM]; omega⟩
    exact ((Fz.of s05).trans f6 fun b hb => .inl hb).trans ((Fz.of (S := A.mu) s7).trans f8 fun b hb => .inl hb) fun b hb => .inl hb
def spSolve (CS CG : Addr) : Sp := fun vs H Q _ => ∃ (g : Addr) (d : Gd) (U : List Nat), vs = [.ref g] ∧ GmN CG H g d ∧ d.Ok ∧ (∀ p ∈ d.ps, p ∈ U) ∧ U.length ≤ 63 ∧
  ∀ (H' : Hp) (y : Addr) (ws cs : List Int), Same H H' → SolN CS H' y ws cs → ws.length = d.mv.length → cs.length = d.mv.length → Pm.FI (dG d d.ps) (fun p => ws.getD p (-1)) (fun p => cs.getD p (-1)) → (∀ p, p < d.mv.length → ws.getD p (-1) ≠ -1) → Q (.ref y) H'
/-- what is still to be looked at: what stands later is solved first -/
structure SV (d : Gd) (f : Nat → Int) (L : List (List Nat)) : Prop where
  asc : ∀ X ∈ L, X.Pairwise (· < ·)
  lt : ∀ X ∈ L, ∀ u ∈ X, u < d.mv.length
  ne : ∀ X ∈ L, X ≠ []
  sum : lsum L ≤ d.mv.length
  ord : ∀ (i : Nat) (X : List Nat), L[i]? = some X → ∀ u ∈ X, f u = -1 → ∀ q ∈ Gr.row d.mv u, f q = -1 → ∃ (j : Nat) (Y : List Nat), i ≤ j ∧ L[j]? = some Y ∧ q ∈ Y
  cov : ∀ u, u < d.mv.length → f u = -1 → ∃ X ∈ L, u ∈ X
theorem SV.init {d : Gd} (ok : d.Ok) {f : Nat → Int} : SV d f [List.range d.mv.length] := by
  have one : ∀ X ∈ [List.range d.mv.length], X = List.range d.mv.length := fun X h => List.mem_singleton.mp h
  refine ⟨fun X h => by rw [one X h]; exact List.pairwise_lt_range, fun X h u hu => by rw [one X h] at hu; exact List.mem_range.mp hu, fun X h => ?_, ?_, fun i X h u hu _ q hq _ => ?_, fun u hu _ => ⟨_, List.mem_singleton.mpr rfl, List.mem_range.mpr hu⟩⟩
  · rw [one X h]
    intro z
    have := ok.n1
    have h2 := congrArg List.length z
    rw [List.length_range, List.length_nil] at h2
    omega
  · show (List.map List.length [List.range d.mv.length]).sum ≤ _
    rw [List.map_cons, List.map_nil, List.sum_cons, List.sum_nil, List.length_range]
    exact Nat.le_refl _
  · have := lt_of_get h
    exact ⟨0, _, by simp at this; omega, rfl, List.mem_range.mpr (ok.rg u q hq)⟩
theorem SV.step {d : Gd} (ok : d.Ok) {f f' : Nat → Int} {L0 gs : List (List Nat)} {X P : List Nat} (S : SV d f (L0 ++ [X])) (hP : ∀ p, p ∈ P ↔ p ∈ X ∧ f p = -1) (hs : P.Sublist X) (G : Grp d.mv P gs) (hg : ∀ Y ∈ gs, Y.Sublist P) (hf : ∀ p, p < d.mv.length → f' p = -1 → f p = -1) : SV d f' (L0 ++ gs) := by
  have hX : X ∈ L0 ++ [X] := by simp
  have hXi : (L0 ++ [X])[L0.length]? = some X := by rw [List.getElem?_append_right (Nat.le_refl _)]; simp
  have tail : ∀ (j : Nat) (Z : List Nat) (q : Nat), (L0 ++ [X])[j]? = some Z → q ∈ Z → f q = -1 → (∃ (j' : Nat) (Y : List Nat), j ≤ j' ∧ (L0 ++ gs)[j']? = some Y ∧ q ∈ Y) := fun j Z q hj hq hfq => by
    rcases Nat.lt_or_ge j L0.length with c | c
    · exact ⟨j, Z, Nat.le_refl _, by rw [List.getElem?_append_left c] at hj ⊢; exact hj, hq⟩
    · have hl := lt_of_get hj
      rw [List.length_append, List.length_singleton] at hl
      have : j = L0.length := by omega
      subst this
      rw [hXi] at hj
      have := Option.some.inj hj
      subst this
      obtain ⟨B, hB, hqB⟩ := (G.mem q).mp ((hP q).mpr ⟨hq, hfq⟩)
      obtain ⟨k, hk⟩ := List.mem_iff_getElem?.mp hB
      exact ⟨L0.length + k, B, by omega, by rw [List.getElem?_append_right (by omega), show L0.length + k - L0.length = k by omega]; exact hk, hqB⟩
  refine ⟨fun Y h => ?_, fun Y h u hu => ?_, fun Y h => ?_, ?_, fun i Y h u hu hfu q hq hfq => ?_, fun u hu hfu => ?_⟩
  · rcases List.mem_append.mp h with k | k
    · exact S.asc Y (List.mem_append_left _ k)
    · exact (S.asc X hX).sublist ((hg Y k).trans hs)
  · rcases List.mem_append.mp h with k | k
    · exact S.lt Y (List.mem_append_left _ k) u hu
    · exact S.lt X hX u (((hg Y k).trans hs).subset hu)
  · rcases List.mem_append.mp h with k | k
    · exact S.ne Y (List.mem_append_left _ k)
    · exact G.ne Y k
  · have h1 := S.sum
    rw [lsum_append] at h1 ⊢
    rw [G.sum]
    have h2 := hs.length_le
    have h3 : lsum [X] = X.length := by unfold lsum; simp
    omega
  · rcases Nat.lt_or_ge i L0.length with c | c
    · rw [List.getElem?_append_left c] at h
      have hun := S.lt Y (List.mem_append_left _ (List.mem_of_getElem? h)) u hu
      obtain ⟨j, Z, h1, h2, h3⟩ := S.ord i Y (by rw [List.getElem?_append_left c]; exact h) u hu (hf u hun hfu) q hq (hf q (ok.rg u q hq) hfq)
      obtain ⟨j', Y', k1, k2, k3⟩ := tail j Z q h2 h3 (hf q (S.lt Z (List.mem_of_getElem? h2) q h3) hfq)
      exact ⟨j', Y', by omega, k2, k3⟩
    · rw [List.getElem?_append_right c] at h
      have huP : u ∈ P := (hg Y (List.mem_of_getElem? h)).subset hu
      obtain ⟨huX, hfu0⟩ := (hP u).mp huP
      have hfq0 := hf q (ok.rg u q hq) hfq
      obtain ⟨j, Z, h1, h2, h3⟩ := S.ord L0.length X hXi u huX hfu0 q hq hfq0
      have hl := lt_of_get h2
      rw [List.length_append, List.length_singleton] at hl
      have : j = L0.length := by omega
      subst this
      rw [hXi] at h2
      have := Option.some.inj h2
      subst this
      obtain ⟨B, hB, hqB⟩ := (G.mem q).mp ((hP q).mpr ⟨h3, hfq0⟩)
      obtain ⟨k, hk⟩ := List.mem_iff_getElem?.mp hB
      have := G.ed (i - L0.length) k Y B h hk u hu q hqB hq
      exact ⟨L0.length + k, B, by omega, by rw [List.getElem?_append_right (by omega), show L0.length + k - L0.length = k by omega]; exact hk, hqB⟩
  · obtain ⟨X', h1, h2⟩ := S.cov u hu (hf u hu hfu)
    rcases List.mem_append.mp h1 with k | k
    · exact ⟨X', List.mem_append_left _ k, h2⟩
    · rw [List.mem_singleton.mp k] at h2
      obtain ⟨B, hB, hqB⟩ := (G.mem u).mp ((hP u).mpr ⟨h2, hf u hu hfu⟩)
      exact ⟨B, List.mem_append_right _ hB, hqB⟩
theorem len_lsum {L : List (List Nat)} (h : ∀ X ∈ L, X ≠ []) : L.length ≤ lsum L := by
  induction L with
  | nil => exact Nat.zero_le _
  | cons X L ih =>
    have h1 := ih fun Y hY => h Y (List.mem_cons_of_mem _ hY)
    have h2 := List.length_pos_iff.mpr (h X List.mem_cons_self)
    rw [lsum_cons, List.length_cons]
    omega
theorem uN_lt {n : Nat} {f f' : Nat → Int} (h : ∀ p, p < n → f' p = -1 → f p = -1) {u : Nat} (hu : u < n) (h1 : f u = -1) (h2 : f' u ≠ -1) : uN n f' < uN n f := by
  unfold uN
  rw [Pm.flt_drop (P := fun p => decide (f p = -1)) List.nodup_range (List.mem_range.mpr hu) (decide_eq_true h1)]
  refine Nat.lt_succ_of_le ?_
  have e : ((List.range n).filter fun p => decide (f' p = -1)) = ((List.range n).filter fun p => decide (f p = -1) && decide (p ≠ u)).filter fun p => decide (f' p = -1) := by
    rw [List.filter_filter]
    refine List.filter_congr fun p hp => ?_
    have hp := List.mem_range.mp hp
    by_cases c : f' p = -1
    · have : p ≠ u := fun z => h2 (z ▸ c)
      simp [c, h p hp c, this]
    · simp [c]
  rw [e]
  exact List.length_filter_le _ _
/-- the stack in the heap -/
structure Stk (H : Hp) (A : FA) (Wd : Addr) (was : List Addr) (L : List (List Nat)) : Prop where
  d : H Wd = some (.lst (was.map V.ref))
  len : was.length = L.length
  get : ∀ i a, was[i]? = some a → H a = some (.lst ((Gr.row L i).map VN))
  nm : Wd ∉ A.mu ∧ ∀ a ∈ was, a ∉ A.mu ∧ a ≠ Wd
theorem Stk.fz {H H' : Hp} {A : FA} {Wd : Addr} {was : List Addr} {L : List (List Nat)} (k : Stk H A Wd was L) (f : Fz A.mu H H') : Stk H' A Wd was L :=
  ⟨f _ _ k.nm.1 k.d, k.len, fun i a h => f _ _ (k.nm.2 a (List.mem_of_getElem? h)).1 (k.get i a h), k.nm⟩
theorem Stk.same {H H' : Hp} {A : FA} {Wd : Addr} {was : List Addr} {L : List (List Nat)} (k : Stk H A Wd was L) (f : Same H H') : Stk H' A Wd was L := k.fz (.of f)
theorem row_left {L M : List (List Nat)} {i : Nat} (h : i < L.length) : Gr.row (L ++ M) i = Gr.row L i := by
  unfold Gr.row
  rw [List.getD_eq_getElem?_getD, List.getD_eq_getElem?_getD, List.getElem?_append_left h]
theorem row_right {L M : List (List Nat)} {i : Nat} (h : L.length ≤ i) : Gr.row (L ++ M) i = Gr.row M (i - L.length) := by
  unfold Gr.row
  rw [List.getD_eq_getElem?_getD, List.getD_eq_getElem?_getD, List.getElem?_append_right h]
theorem Stk.pop {H : Hp} {A : FA} {Wd a : Addr} {was : List Addr} {L : List (List Nat)} {X : List Nat} (k : Stk H A Wd (was ++ [a]) (L ++ [X])) : Stk (upd H Wd (.lst (was.map V.ref))) A Wd was L := by
  have hl := k.len
  rw [List.length_append, List.length_append, List.length_singleton, List.length_singleton] at hl
  refine ⟨upd_same, by omega, fun i b h => ?_, k.nm.1, fun b hb => k.nm.2 b (List.mem_append_left _ hb)⟩
  have hil := lt_of_get h
  rw [upd_ne (k.nm.2 b (List.mem_append_left _ (List.mem_of_getElem? h))).2, k.get i b (by rw [List.getElem?_append_left hil]; exact h), row_left (by omega)]
theorem Stk.push {H : Hp} {A : FA} {Wd : Addr} {was bs : List Addr} {L gs : List (List Nat)} (k : Stk H A Wd was L) (hl : bs.length = gs.length) (hg : ∀ i a, bs[i]? = some a → H a = some (.lst ((Gr.row gs i).map VN))) (hb : ∀ a ∈ bs, a ∉ A.mu ∧ a ≠ Wd) : Stk (upd H Wd (.lst (was.map V.ref ++ bs.map V.ref))) A Wd (was ++ bs) (L ++ gs) := by
  refine ⟨by rw [upd_same, List.map_append], by rw [List.length_append, List.length_append, hl, k.len], fun i a h => ?_, k.nm.1, fun a ha => (List.mem_append.mp ha).elim (k.nm.2 a) (hb a)⟩
  have hkl := k.len
  rcases Nat.lt_or_ge i was.length with c | c
  · rw [List.getElem?_append_left c] at h
    rw [upd_ne (k.nm.2 a (List.mem_of_getElem? h)).2, row_left (by omega)]
    exact k.get i a h
  · rw [List.getElem?_append_right c] at h
    rw [upd_ne (hb a (List.mem_of_getElem? h)).2, row_right (by omega), ← hkl]
    exact hg _ a h
theorem same_fz {S : List Addr} {H H1 H2 : Hp} (s : Same H H1) (f : Fz S H1 H2) (h : ∀ b ∈ S, H b = none) : Same H H2 := fun b o e => f b o (fun z => by rw [h b z] at e; cases e) (s b o e)
theorem rg_nt (n : Nat) : rgV 0 (n : Int) = (List.range n).map VN := by
  unfold rgV
  rw [show ((n : Int) - 0).toNat = n by omega]
  refine List.map_congr_left fun k _ => ?_
  show V.int _ = V.int _
  rw [Int.zero_add]
theorem cal_solve {CG CF CS fFI fSI : Addr} {fdFI fdSI : FuncData} (T : Txt K mg) (PC : GmeC K CG) (PF : FinC K CF) (PS : SolC K CS) (C_solve_part : C8.Cal P w K mg base 5 "solve_part" (spSlp CF CG) []) 
    (MKF : Mk K CF fFI) (gCF : mg "Findings" = some (.ref CF)) (FF : L2.Fun K "__init__" "Findings.__init__" s_Findings_init fFI fdFI) (BIF : Binds K fdFI ["self", "game"] [])
    (MKS : Mk K CS fSI) (gCS : mg "Solution" = some (.ref CS)) (FS : L2.Fun K "__init__" "Solution.__init__" s_Solution_init fSI fdSI) (BIS : Binds K fdSI ["self", "winners", "choices"] []) : C8.Cal P w K mg base 6 "solve" (spSolve CS CG) [] := by
  have C_component_lists : C8.Cal P w K mg base 3 "component_lists" spCLT [] := cal_clT T
  have FIF := ok_initF (P := P) (w := w) (base := base) (CG := CG) T PF PC FF
  have FIS := ok_initS (P := P) (w := w) (base := base) T PS FS
  obtain ⟨f, fd, F, hm, hb⟩ := T.h_solve
  refine ⟨f, fd, _, [], F.ok sc_solve (fun vs H Q E h => ?_) (fun cdv A' outer s' H vs Q E hr h => ?_), hm, F.kp, hb, .nil⟩
  · obtain ⟨_, _, _, rfl, _⟩ := h
    rfl
  · obtain ⟨g, d, U, rfl, hg, ok, hU, hU2, q⟩ := h
    refine ⟨_, (pss_cons
      (ps_set (i := 1) sc_solve.nd rfl (Or.inr rfl) (pe_make MKF FIF (hr.mono (by decide)) (by rfl) gCF BIF .nil pass0 (pa_cons (pv 0) pa_nil)))
      (pss_cons
      (ps_set (i := 2) sc_solve.nd rfl (Or.inl rfl) (pe_lst (pa_cons (pe_listRg rfl (by rfl) T.z_list (prg_1 (by rfl) T.z_range (pe_callB (call_lenK (K := K) rfl) (by rfl) T.z_len PySem.boot_len (pa_cons (pe_fld (pv 0) rfl) pa_nil)))) pa_nil)))
      (C8.pss_cut
      (ps_while PassesOwn.never (pt_cmpR op_gt (pe_callB (call_lenK (K := K) rfl) (by rfl) T.z_len PySem.boot_len (pa_cons (pv 2) pa_nil)) pe_int (nomark _)) (pss_cons
      (ps_setLc (i := 3) (own := [("place", 5)]) (g := gName 5) rfl sc_solve.nd rfl rfl (sw_true rfl rfl rfl (by decide +kernel)) (pi_list (pe_bm0 PySem.F.plainAttrs_list PySem.F.slot_list_pop PySem.F.type_list_pop mt_pop (pv 2))) (blkOk_by (N := N_solve) (sc := defScope s_solve) (by decide +kernel)) (fun _ _ _ _ _ => (pg_name (i := 5) sc_solve.nd rfl (Or.inl rfl))) (fun _ _ _ _ _ => (pts_one (pt_cmpR op_lt (pe_ix (ix_listK (K := K) rfl) (pe_fldK (K := K) rfl (pv 1) rfl) (pv 5) (fun _ _ => rfl)) pe_int (nomark _)))) (fun _ _ _ _ _ => (pv 5)))
      (pss_cons
      (ps_set (i := 4) sc_solve.nd rfl (Or.inl rfl) (C8.pe_c C_component_lists hr (by decide) (by rfl) (pa_cons (pe_fld (pv 0) rfl) (pa_cons (pv 3) pa_nil))))
      (pss_one
      (ps_if (pt_cmpR op_gt (pe_callB (call_lenK (K := K) rfl) (by rfl) T.z_len PySem.boot_len (pa_cons (pv 4) pa_nil)) pe_int (nomark _)) (pss_one
      (ps_expr (pe_bm PySem.F.plainAttrs_list PySem.F.slot_list_extend PySem.F.type_list_extend mt_extend (pv 2) (pa_cons (pv 4) pa_nil)))) (pss_one
      (ps_if (pt_cmpR op_eq (pe_callB (call_lenK (K := K) rfl) (by rfl) T.z_len PySem.boot_len (pa_cons (pv 4) pa_nil)) pe_int (nomark _)) (pss_cons
      (ps_expr (C8.pe_c C_solve_part hr (by decide) (by rfl) (pa_cons (pv 0) (pa_cons (pe_ix (ix_listK (K := K) rfl) (pv 4) pe_int (fun _ _ => rfl)) (pa_cons (pv 1) pa_nil)))))
      (pss_one
      (ps_expr (pe_bm PySem.F.plainAttrs_list PySem.F.slot_list_append PySem.F.type_list_append mt_append (pv 2) (pa_cons (pe_ix (ix_listK (K := K) rfl) (pv 4) pe_int (fun _ _ => rfl)) pa_nil))))) pss_nil)))))))
      (pss_one
      (ps_ret (pe_make MKS FIS (hr.mono (by decide)) (by rfl) gCS BIS .nil pass0 (pa_cons (pe_fld (pv 1) rfl) (pa_cons (pe_fld (pv 1) rfl) pa_nil)))))))), ?_⟩
    have hn2 := ok.n2
    refine ⟨_, rfl, fun x dx hx hdx hne => ?_⟩
    have s1 := sameM_fresh (C := CF) hx hdx
    refine ⟨x, g, dx, d, rfl, upd_same, hg.same s1, ok, fun H1 A k1 fr1 _ R1 => ⟨rfl, ?_⟩⟩
    have s01 : Same H H1 := sameM_made hx hdx k1
    have fr0 : ∀ b ∈ A.mu, H b = none := fun b hb => s1.free (fr1 b hb)
    obtain ⟨gx, ot, pt, rt, g1, g2, g3, g4⟩ := id hg
    obtain ⟨as, t1, t2, t3⟩ := id g4
    refine ⟨_, rfl, g, CG, gx, _, _, rfl, s01 _ _ g1, PC.cl, PC.nm, gf_m _ _ _, rt, _, rfl, .inr (.inl (.of (s01 _ _ t1))), ?_⟩
    have hal : (as.map V.ref).length = d.mv.length := by rw [List.length_map, t2]
    rw [hal]
    refine ⟨_, rfl, .of_le (Int.le_refl _) (by omega) (by omega) (by omega), fun la nla => ?_⟩
    rw [rg_nt]
    generalize hX : upd H1 la _ = H2; obtain ⟨sH2, ela⟩ := nw nla hX; clear hX
    refine ⟨by show 1 ≤ sizeLine; decide, fun Wd nWd => ?_⟩
    generalize hX : upd H2 Wd _ = H3; obtain ⟨sH3, eWd⟩ := nw nWd hX; clear hX
    have s02 := s01.trans sH2
    have s03 := s02.trans sH3
    have R3 := (R1.same sH2).same sH3
    have nW0 := s02.free nWd
    have nla' : la ∉ A.mu := R1.v.new nla
    have K3 : Stk H3 A Wd [la] [List.range d.mv.length] := by
      refine ⟨eWd, rfl, fun i a h => ?_, (R1.same sH2).v.new nWd, fun a ha => ?_⟩
      · have := lt_of_get h
        rw [List.length_singleton] at this
        have : i = 0 := by omega
        subst this
        cases h
        exact sH3 _ _ ela
      · rw [List.mem_singleton.mp ha]
        exact ⟨nla', fun z => by rw [z, nWd] at ela; (cases ela)⟩
    have f0 : (fs0 d).f = fun _ => -1 := by
      funext p
      show (List.replicate d.mv.length (-1 : Int)).getD p (-1) = -1
      rw [List.getD_eq_getElem?_getD, List.getElem?_replicate]
      split <;> rfl
    have O0 : FnO d (fs0 d) := by
      refine ⟨⟨List.length_map _, List.length_replicate, List.length_replicate⟩, ?_, ?_, fun p hp => ?_⟩
      · rw [show (fs0 d).c = (fs0 d).f from rfl, f0]
        exact Pm.FI.init
      · rw [f0]
        exact Pm.cls_init ok.ne
      · rw [f0]
        show (d.mv.map List.length).getD p 0 = ((Gr.row d.mv p).filter fun q => decide ((-1 : Int) = -1 ∧ q ∉ [])).length
        rw [List.filter_eq_self.mpr (fun q _ => by simp), List.getD_eq_getElem?_getD, List.getElem?_map, Gr.row, List.getD_eq_getElem?_getD, List.getElem?_eq_getElem hp]
        rfl
    refine ⟨fun σ H' => ∃ (s : FSt) (v2 v3 v4 v5 : Option V), σ = [some (.ref g), some (.ref x), v2, v3, v4, v5] ∧ Same H H' ∧ FnAt CF CG H' x A d s ∧ FnO d s ∧ ∀ p, p < d.mv.length → s.f p ≠ -1, ?_, ?_⟩
    · refine ⟨fun m σ H' => ∃ (s : FSt) (was : List Addr) (L : List (List Nat)) (v3 v4 v5 : Option V), m = uN d.mv.length s.f + (2 * lsum L - L.length) ∧ σ = [some (.ref g), some (.ref x), some (.ref Wd), v3, v4, v5] ∧ Fz A.mu H1 H' ∧ FnAt CF CG H' x A d s ∧ FnO d s ∧ Stk H' A Wd was L ∧ SV d s.f L, ⟨_, fs0 d, [la], _, none, none, none, rfl, rfl, .of (sH2.trans sH3), R3, O0, K3, SV.init ok⟩, ?_⟩
      rintro m σ H4 ⟨s, was, L, v3, v4, v5, rfl, rfl, f4, R4, O, K4, S⟩
      have s04 := same_fz s01 f4 fr0
      refine ⟨_, rfl, Wd, _, rfl, .inl (.of K4.d), _, _, rfl, rfl, _, rfl, ite2 (fun cc => ?_) (fun cc => ?_)⟩
      case refine_2 =>
        have cw : L = [] := by
          cases L with
          | nil => rfl
          | cons a b => exact absurd (decide_eq_true (by rw [List.length_map, K4.len, List.length_cons]; omega)) cc
        subst cw
        refine ⟨s, _, v3, v4, v5, rfl, s04, R4, O, fun p hp hz => ?_⟩
        obtain ⟨X, hX, _⟩ := S.cov p hp hz
        cases hX
      obtain ⟨L, X, rfl⟩ : ∃ L' X, L = L' ++ [X] := by
        rcases List.eq_nil_or_concat L with rfl | ⟨a, b, rfl⟩
        · rw [List.length_map, K4.len] at cc
          exact absurd cc (by decide)
        · exact ⟨a, b, List.concat_eq_append⟩
      obtain ⟨was, xa, rfl⟩ : ∃ w' a, was = w' ++ [a] := by
        rcases List.eq_nil_or_concat was with rfl | ⟨a, b, rfl⟩
        · have := K4.len
          rw [List.length_append] at this
          simp at this
        · exact ⟨a, b, List.concat_eq_append⟩
      have hkl := K4.len
      rw [List.length_append, List.length_append, List.length_singleton, List.length_singleton] at hkl
      have exa : H4 xa = some (.lst (X.map VN)) := by
        have := K4.get was.length xa (by rw [List.getElem?_append_right (Nat.le_refl _)]; simp)
        rw [this, row_right (by omega), show was.length - L.length = 0 by omega]
        rfl
      obtain ⟨nxa, nxW⟩ := K4.nm.2 xa (by simp)
      have hXl : X ∈ L ++ [X] := by simp
      have hX := S.lt X hXl
      have hXn := nd_len (asc_nd (S.asc X hXl)) hX
      refine ⟨fun σ H' => ∃ (s' : FSt) (was' : List Addr) (L' : List (List Nat)) (v3 v4 v5 : Option V), uN d.mv.length s'.f + (2 * lsum L' - L'.length) < uN d.mv.length s.f + (2 * lsum (L ++ [X]) - (L ++ [X]).length) ∧ σ = [some (.ref g), some (.ref x), some (.ref Wd), v3, v4, v5] ∧ Fz A.mu H1 H' ∧ FnAt CF CG H' x A d s' ∧ FnO d s' ∧ Stk H' A Wd was' L' ∧ SV d s'.f L', fun σ' H' ⟨s', was', L', v3, v4, v5, h, z⟩ => ⟨_, h, s', was', L', v3, v4, v5, rfl, z⟩, ?_⟩
      refine ⟨_, rfl, .inl ⟨rfl, _, .of K4.d⟩, Wd, _, .ref xa, rfl, rfl, K4.d, by simp, ?_⟩
      rw [show ((was ++ [xa]).map V.ref).dropLast = was.map V.ref by simp]
      have nWm := K4.nm.1
      have K5 := K4.pop
      have f5 : Fz A.mu H1 (upd H4 Wd (.lst (was.map V.ref))) := f4.updN (sH2.free nWd)
      have s05 := same_fz s01 f5 fr0
      have R5 : FnAt CF CG (upd H4 Wd (.lst (was.map V.ref))) x A d s := (R4.v.upd nWm).to R1 (f4.updN (sH2.free nWd))
      have exa5 : (upd H4 Wd (.lst (was.map V.ref))) xa = some (.lst (X.map VN)) := by rw [upd_ne nxW]; exact exa
      generalize upd H4 Wd (.lst (was.map V.ref)) = H5 at K5 f5 s05 R5 exa5 ⊢
      clear K4 R4 f4
      -- the places that have no winner yet
      refine ⟨xa, rfl, ⟨_, .of exa5⟩, fun D nD => lc_list (K := K) (a := xa) (xs := X.map VN) (fun i H' => Same H5 H' ∧ H' D = some (.lst (((X.take i).filter fun p => decide (s.f p < 0)).map VN))) ⟨same_new nD, upd_same⟩ (fun i H' _ z => .of (z.1 _ _ exa5)) ?_ ?_⟩
      · rintro i v H6 hi ⟨s6, e6⟩
        obtain ⟨u, hu, rfl⟩ := nats_get hi
        have hun := hX u (List.mem_of_getElem? hu)
        refine ⟨rfl, _, rfl, x, CF, A.dx, _, _, rfl, s6 _ _ R5.i.ins, PF.cl, PF.nw, fnf_w _ _ _ _ _, _, rfl, A.wA, _, _, V.int (s.f u), rfl, rfl, .of (s6 _ _ R5.win), atN (getD_i (by rw [O.L.lw]; exact hun)), _, _, rfl, rfl, _, rfl, ?_⟩
        rw [take_succ' hu, List.filter_append]
        by_cases c : s.f u < 0
        · refine iteB_t (decide_eq_true c) ⟨_, rfl, _, e6, ?_, fun b o hb => by rw [upd_ne (ne_of_none hb nD)]; exact s6 _ _ hb, ?_⟩
          · rw [List.length_map]
            have h1 := List.length_filter_le (fun p => decide (s.f p < 0)) (X.take i)
            rw [List.length_take] at h1
            exact Nat.lt_of_le_of_lt (show _ ≤ 1000 by omega) (by decide)
          · rw [upd_same, List.filter_cons_of_pos (by simpa using c), List.filter_nil, List.map_append]
            rfl
        · refine iteB_f (decide_eq_false c) ⟨s6, ?_⟩
          rw [List.filter_cons_of_neg (by simpa using c), List.filter_nil, List.append_nil]
          exact e6
      rintro H6 ⟨s6, eD⟩
      rw [List.length_map, List.take_length] at eD
      have hP : ∀ p, p ∈ X.filter (fun p => decide (s.f p < 0)) ↔ p ∈ X ∧ s.f p = -1 := fun p => by
        rw [List.mem_filter, decide_eq_true_iff]
        refine ⟨fun ⟨a, b⟩ => ⟨a, ?_⟩, fun ⟨a, b⟩ => ⟨a, by omega⟩⟩
        have := O.fi.wv p (hX p a)
        omega
      have hPs : (X.filter fun p => decide (s.f p < 0)).Sublist X := List.filter_sublist
      generalize (X.filter fun p => decide (s.f p < 0)) = Pl at eD hP hPs ⊢
      have s06 := s05.trans s6
      have R6 := R5.same s6
      have K6 := K5.same s6
      have nDm : D ∉ A.mu := R5.v.new nD
      have hPasc := (S.asc X hXl).sublist hPs
      have hPlt : ∀ u ∈ Pl, u < d.mv.length := fun u hu => hX u (hPs.subset hu)
      refine ⟨_, rfl, g, CG, gx, _, _, rfl, s06 _ _ g1, PC.cl, PC.nm, gf_m _ _ _, _, rfl, rt, D, d.mv, Pl, rfl, g4.same s06, eD, asc_nd hPasc, hPlt, hn2, fun p => Nat.le_trans (nd_len (ok.nd p) (ok.rg p)) hn2, fun H7 y bs gs s7 nl ny G hsub => ?_⟩
      have s07 := s06.trans s7
      have f7 : Fz A.mu H1 H7 := f5.trans (.of (S := A.mu) (s6.trans s7)) fun b hb => .inl hb
      have R7 := R6.same s7
      have K7 := K6.same s7
      have nym : y ∉ A.mu := R6.v.new ny
      have nW6 : ∃ o, H6 Wd = some o := ⟨_, K6.d⟩
      have hbs : ∀ b ∈ bs, b ∉ A.mu ∧ b ≠ Wd := fun b hb => ⟨R6.v.new (nl.fr b hb).1, fun z => by have := (nl.fr b hb).1; rw [z, K6.d] at this; (cases this)⟩
      have hLS := len_lsum fun Y hY => S.ne Y (List.mem_append_left _ hY)
      have hGS := len_lsum G.ne
      have hsumG := G.sum
      have hPlen := hPs.length_le
      have hsum := S.sum
      have e1 : lsum (L ++ [X]) = lsum L + X.length := by
        rw [lsum_append]
        show lsum L + (List.map List.length [X]).sum = _
        rw [List.map_cons, List.map_nil, List.sum_cons, List.sum_nil]
        omega
      have hX1 := List.length_pos_iff.mpr (S.ne X hXl)
      have hbl := nl.len
      have hXi : (L ++ [X])[L.length]? = some X := by rw [List.getElem?_append_right (Nat.le_refl _)]; simp
      rw [e1] at hsum
      refine ⟨_, rfl, y, _, rfl, .inl (.of nl.d), _, _, rfl, rfl, _, rfl, ite2 (fun c => ?_) (fun c => ?_)⟩
      · have c := of_decide_eq_true c
        rw [List.length_map, hbl] at c
        refine ⟨_, rfl, .inl ⟨rfl, _, .of K7.d⟩, _, rfl, Wd, y, _, _, rfl, rfl, K7.d, nl.d, by rw [List.length_map, List.length_map, K7.len, hbl]; exact Nat.le_trans (show _ ≤ 2000 by omega) (by decide), ?_⟩
        refine ⟨s, was ++ bs, L ++ gs, _, _, _, ?_, rfl, f7.updN (sH2.free nWd), (R7.v.upd nWm).to R1 (f7.updN (sH2.free nWd)), O, K7.push hbl nl.get hbs, S.step ok hP hPs G hsub fun _ _ h => h⟩
        rw [e1, lsum_append, List.length_append, List.length_append, List.length_singleton]
        omega
      have c : gs.length ≤ 1 := by
        have h1 : ¬ (1 : Int) < ((bs.map V.ref).length : Int) := fun q => c (decide_eq_true q)
        rw [List.length_map, hbl] at h1
        omega
      refine ⟨_, rfl, y, _, rfl, .inl (.of nl.d), rfl, _, rfl, ite_eq (fun c2 => ?_) (fun c2 => ?_)⟩
      · rw [List.length_map, hbl] at c2
        obtain ⟨G0, rfl⟩ : ∃ G0, gs = [G0] := by
          cases gs with
          | nil => exact absurd c2 (by decide)
          | cons a b =>
            cases b with
            | nil => exact ⟨a, rfl⟩
            | cons a' b' => simp at c
        obtain ⟨b0, rfl⟩ : ∃ b0, bs = [b0] := by
          rw [List.length_singleton] at hbl
          exact List.length_eq_one_iff.mp hbl
        have eb0 : H7 b0 = some (.lst (G0.map VN)) := nl.get 0 b0 rfl
        obtain ⟨nb0, nbW⟩ := hbs b0 (List.mem_singleton.mpr rfl)
        have hG0 : G0 ∈ [G0] := List.mem_singleton.mpr rfl
        have hG0s := hsub G0 hG0
        have in0 : ∀ q, q ∈ Pl → q ∈ G0 := fun q hq => by
          obtain ⟨B, hB, h⟩ := (G.mem q).mp hq
          rw [List.mem_singleton.mp hB] at h
          exact h
        refine ⟨_, rfl, _, rfl, y, _, _, .ref b0, rfl, rfl, .of nl.d, atN (i := 0) rfl, _, rfl, g, b0, x, A, d, U, G0, s, rfl, hg.same s07, ok, hU, hU2, eb0, nb0, hPasc.sublist hG0s, fun u hu => hPlt u (hG0s.subset hu), G.ne G0 hG0, R7, O, fun u hu => ((hP u).mp (hG0s.subset hu)).2, fun u hu q' hq' hfq => ?_, fun H8 s8 f8 R8 O8 old8 ⟨u, hu, hu8⟩ => ?_⟩
        · obtain ⟨huX, hfu⟩ := (hP u).mp (hG0s.subset hu)
          obtain ⟨j, Z, h1, h2, h3⟩ := S.ord L.length X hXi u huX hfu q' hq' hfq
          have hl := lt_of_get h2
          rw [List.length_append, List.length_singleton] at hl
          have : j = L.length := by omega
          subst this
          rw [hXi] at h2
          have := Option.some.inj h2
          subst this
          exact in0 q' ((hP q').mpr ⟨h3, hfq⟩)
        · have K8 := K7.fz f8
          have f18 : Fz A.mu H1 H8 := f7.trans f8 fun b hb => .inl hb
          have hf8 : ∀ p, p < d.mv.length → s8.f p = -1 → s.f p = -1 := fun p hp h => Classical.byContradiction fun z => by rw [old8 p hp z] at h; exact z h
          refine ⟨_, rfl, .inl ⟨rfl, _, .of K8.d⟩, _, rfl, y, _, _, .ref b0, rfl, rfl, .of (f8 _ _ nym nl.d), atN (i := 0) rfl, Wd, _, _, rfl, rfl, K8.d, by rw [List.length_map, K8.len]; exact Nat.lt_of_le_of_lt (show _ ≤ 1000 by omega) (by decide), ?_⟩
          refine ⟨s8, was ++ [b0], L ++ [G0], _, _, _, ?_, rfl, f18.updN (sH2.free nWd), (R8.v.upd nWm).to R1 (f18.updN (sH2.free nWd)), O8, K8.push (bs := [b0]) rfl (fun i a h => f8 _ _ (hbs a (List.mem_of_getElem? h)).1 (nl.get i a h)) hbs, S.step ok hP hPs G hsub hf8⟩
          have hu2 := uN_lt hf8 (hPlt u (hG0s.subset hu)) ((hP u).mp (hG0s.subset hu)).2 hu8
          rw [e1, lsum_append, List.length_append, List.length_append, List.length_singleton, List.length_singleton]
          omega
      · have : gs = [] := by
          cases gs with
          | nil => rfl
          | cons a b =>
            cases b with
            | nil => exact absurd (by rw [List.length_map, hbl]; rfl) c2
            | cons a' b' => simp at c
        subst this
        have S' := S.step ok hP hPs G hsub (f' := s.f) fun _ _ h => h
        rw [List.append_nil] at S'
        refine ⟨s, was, L, _, _, _, ?_, rfl, f7, R7, O, K7, S'⟩
        rw [e1, List.length_append, List.length_singleton]
        omega
    · rintro σ H4 ⟨s, v2, v3, v4, v5, rfl, s04, R4, O, hall⟩
      refine ⟨_, rfl, x, CF, A.dx, _, _, rfl, R4.i.ins, PF.cl, PF.nw, fnf_w _ _ _ _ _, _, rfl, x, CF, A.dx, _, _, rfl, R4.i.ins, PF.cl, PF.nc, fnf_c _ _ _ _ _, fun y dy hy hdy hne2 => ?_⟩
      have sy := sameM_fresh (C := CS) hy hdy
      refine ⟨y, A.wA, A.cA, dy, s.w, s.ch, rfl, upd_same, sy _ _ R4.win, sy _ _ R4.cho, by rw [O.L.lw]; exact hn2, by rw [O.L.lc]; exact hn2, fun H5 k5 so => ⟨rfl, ?_⟩⟩
      exact q H5 y s.w s.ch (s04.trans (sameM_made hy hdy k5)) so O.L.lw O.L.lc O.fi hall
theorem cr_sortedK {X : Cx} {K : PySem.W.Frag} (h : X.K = K) : CallR X (.builtin "sorted") (rSorted K) := by
  subst h
  exact cr_sorted
theorem op_isnotB {X : Cx} : OpR X (compareOp .IsNot) (fun x y H Q => ∃ b c, x = .bl b ∧ y = .bl c ∧ Q (.bl (!decide (b = c))) H) := by
  intro pins s σ H x y v u Q I rx ry h
  obtain ⟨b, c, rfl, rfl, q⟩ := h
  cases rx
  cases ry
  show wpAny _ _ ((isSame (Value.bool b) (Value.bool c)) >>= fun z => pure (Value.bool (!z))) _ _ s
  exact wpAny_bind (wpAny_isSame_plain (by cases b <;> cases c <;> rfl) (wpAny_pure (fin_bl I q (by cases b <;> cases c <;> rfl))))
theorem pe_cN {X : Cx} {k j : Nat} {x : Str} {sp : Sp} {p pos : Pos} {e : Expr} {es : List Expr} {t : TA} (c : CalX X.prog X.w X.K X.mg X.base k x sp) (hr : Room j X.A) (hk : k ≤ j) (hg : Gl X x) (ha : PA X (e :: es) t)
    (hdb : (x == ("__debug__" : Str)) = false := by decide) (he : starEach (e :: es) X.env = (false, eval e X.env) :: starEach es X.env := by rfl) (hpl : (backTo pos (starEach es X.env)).any (·.1) = false := by rfl) :
    PE X (.Call (.Name x p) (e :: es) [] pos) (tCallS sp (fun _ => fun _ _ _ => False) t) := by
  obtain ⟨f, fd, ps, F, hm, kp, b⟩ := c.ex
  exact pe_callS F (hr.mono hk) hg hm kp b (fun σ => fun pins G v e v' J q => passF pins σ G v e v' J q) ha hdb he hpl
theorem zL_get {l : List Nat} {p : Nat} : (zL l).getD p 0 = (l.getD p 0 : Int) := by
  unfold zL
  rw [List.getD_eq_getElem?_getD, List.getD_eq_getElem?_getD, List.getElem?_map]
  cases l[p]? <;> rfl
theorem gcz_row {d : Gd} {a p : Nat} {cs : List Int} (hp : p < d.mv.length) : Gr.row (gcw (zL d.ow) (cZ d.mv) (a : Int) cs) p = if d.ow.getD p 0 = a then (if 0 ≤ cs.getD p 0 then [(cs.getD p 0).toNat] else []) else Gr.row d.mv p := by
  rw [row_gcw (by rw [show (cZ d.mv).length = d.mv.length from List.length_map _]; exact hp), zL_get, cZ_row]
  by_cases e : d.ow.getD p 0 = a
  · rw [if_pos e, if_pos (by rw [e])]
  · rw [if_neg e, if_neg (show ¬ ((d.ow.getD p 0 : Int) = (a : Int)) from fun z => e (by omega)), List.map_map]
    conv => rhs; rw [← List.map_id (Gr.row d.mv p)]
    exact List.map_congr_left fun q _ => Int.toNat_natCast q
theorem getD_0 {cs : List Int} {p : Nat} (h : p < cs.length) : cs.getD p 0 = cs.getD p (-1) := by
  rw [List.getD_eq_getElem?_getD, List.getD_eq_getElem?_getD, List.getElem?_eq_getElem h]; rfl
open Relation (TransGen) in
theorem tg_of_rs {g : Gr.G} {S : Nat → Prop} {R : Nat → Nat → Prop} (h : ∀ x y, S x → S y → Gr.E g x y → R x y) {v x : Nat} (r : RS g S v x) : ∀ {u : Nat}, S u → Gr.E g u v → TransGen R u x := by
  induction r with
  | refl hv => exact fun hu e => .single (h _ _ hu hv e)
  | step hv e2 r ih => exact fun hu e => (TransGen.single (h _ _ hu hv e)).trans (ih hv e2)
open Relation (TransGen) in
theorem rs_of_tg {g : Gr.G} {S : Nat → Prop} {R : Nat → Nat → Prop} (h : ∀ x y, R x y → S x ∧ S y ∧ Gr.E g x y) {u x : Nat} (t : TransGen R u x) : ∃ v, Gr.E g u v ∧ RS g S v x := by
  induction t with
  | single e => exact ⟨_, (h _ _ e).2.2, .refl (h _ _ e).2.1⟩
  | tail _ e ih =>
    obtain ⟨v, h1, h2⟩ := ih
    exact ⟨v, h1, h2.trans (.step (h _ _ e).1 (h _ _ e).2.2 (.refl (h _ _ e).2.1))⟩
theorem win_of_FI {d : Gd} {ws cs : List Int} (ok : d.Ok) (hl : cs.length = d.mv.length) (F : Pm.FI (dG d d.ps) (fun p => ws.getD p (-1)) (fun p => cs.getD p (-1))) {a k : Nat} (hk : k < d.mv.length) (hw : ws.getD k (-1) = (a : Int)) : WinC (gcw (zL d.ow) (cZ d.mv) (a : Int) cs) (prF (zL d.ps)) (1 - (a : Int)) k := by
  have a2 : a < 2 := by have := F.wv k hk; omega
  -- the steps stay where a wins
  have st : ∀ x y, x < d.mv.length → ws.getD x (-1) = (a : Int) → Gr.E (gcw (zL d.ow) (cZ d.mv) (a : Int) cs) x y → y < d.mv.length ∧ ws.getD y (-1) = (a : Int) ∧ Pm.Cm (dG d d.ps) (fun p => cs.getD p (-1)) a x y := fun x y hx ex e => by
    have e : y ∈ Gr.row _ x := e
    rw [gcz_row hx] at e
    obtain ⟨f1, f2⟩ := F.f1 x hx a ex
    split at e
    · rename_i o
      obtain ⟨q, q1, q2, q3⟩ := f1 o
      have q1 : cs.getD x (-1) = (q : Int) := q1
      rw [getD_0 (by rw [hl]; exact hx), q1, if_pos (by omega), Int.toNat_natCast] at e
      rw [List.mem_singleton.mp e]
      exact ⟨ok.rg x q q2, q3, q2, fun _ => q1⟩
    · rename_i o
      exact ⟨ok.rg x y e, f2 o y e, e, fun z => absurd z o⟩
  have rc : ∀ {x y}, Gr.Rc (gcw (zL d.ow) (cZ d.mv) (a : Int) cs) x y → x < d.mv.length → ws.getD x (-1) = (a : Int) → y < d.mv.length ∧ ws.getD y (-1) = (a : Int) := by
    intro x y r
    induction r with
    | refl _ => exact fun h1 h2 => ⟨h1, h2⟩
    | step e _ ih => exact fun h1 h2 => ih (st _ _ h1 h2 e).1 (st _ _ h1 h2 e).2.1
  refine ⟨fun u hu => ?_, ?_⟩
  · obtain ⟨h1, h2⟩ := rc hu hk hw
    rw [gcz_row h1]
    obtain ⟨f1, f2⟩ := F.f1 u h1 a h2
    split
    · rename_i o
      obtain ⟨q, q1, q2, q3⟩ := f1 o
      have q1 : cs.getD u (-1) = (q : Int) := q1
      rw [getD_0 (by rw [hl]; exact h1), q1, if_pos (by omega)]
      exact fun z => by cases z
    · exact ok.ne u h1
  · rintro ⟨k', v, h1, h2, h3, h4⟩
    obtain ⟨p1, p2⟩ := rc h1 hk hw
    refine F.nb a k' ?_ (tg_of_rs (fun x y hx hy e => ?_) h4 ⟨h1, Int.le_refl _⟩ h3)
    · have h2 : prF (zL d.ps) k' % 2 = 1 - (a : Int) := h2
      unfold prF at h2
      rw [zL_get] at h2
      show d.ps.getD k' 0 % 2 ≠ a
      omega
    · obtain ⟨x1, x2⟩ := rc hx.1 hk hw
      obtain ⟨y1, y2, y3⟩ := st x y x1 x2 e
      have px := hx.2
      have py := hy.2
      unfold prF at px py
      rw [zL_get, zL_get] at px py
      exact ⟨⟨⟨x1, x2⟩, ⟨y1, y2⟩, y3⟩, Int.ofNat_le.mp px, Int.ofNat_le.mp py⟩
theorem pigeon {n : Nat} {f : Nat → Nat} (h : ∀ i, f i < n) : ∃ i j, i < j ∧ f i = f j := by
  refine Classical.byContradiction fun no => ?_
  have nd : ((List.range (n + 1)).map f).Nodup := by
    unfold List.Nodup
    rw [List.pairwise_map]
    exact List.pairwise_lt_range.imp fun {a b} hab e => no ⟨a, b, hab, e⟩
  have := nd_len (n := n) nd fun x hx => by
    obtain ⟨i, _, rfl⟩ := List.mem_map.mp hx
    exact h i
  rw [List.length_map, List.length_range] at this
  omega
theorem max_at (pr : Nat → Nat) (i : Nat) : ∀ m : Nat, ∃ t, i ≤ t ∧ t < i + (m + 1) ∧ ∀ s, i ≤ s → s < i + (m + 1) → pr s ≤ pr t
  | 0 => ⟨i, Nat.le_refl _, by omega, fun s h1 h2 => by rw [show s = i by omega]; exact Nat.le_refl _⟩
  | m + 1 => by
    obtain ⟨t, h1, h2, h3⟩ := max_at pr i m
    by_cases c : pr (i + (m + 1)) ≤ pr t
    · refine ⟨t, h1, by omega, fun s k1 k2 => ?_⟩
      by_cases e : s = i + (m + 1)
      · rw [e]; exact c
      · exact h3 s k1 (by omega)
    · refine ⟨i + (m + 1), by omega, by omega, fun s k1 k2 => ?_⟩
      by_cases e : s = i + (m + 1)
      · rw [e]; exact Nat.le_refl _
      · have := h3 s k1 (by omega); omega
open Relation (TransGen) in
theorem seg {R : Nat → Nat → Prop} {f : Nat → Nat} {i : Nat} : ∀ {m : Nat}, (∀ s, i ≤ s → s < i + (m + 1) → R (f s) (f (s + 1))) → TransGen R (f i) (f (i + (m + 1)))
  | 0, h => .single (h i (Nat.le_refl _) (by omega))
  | m + 1, h => (seg (m := m) fun s h1 h2 => h s h1 (by omega)).tail (h (i + (m + 1)) (by omega) (by omega))
open Relation (TransGen) in
/-- a function without end, on finitely many places, has a cycle: with its greatest priority -/
theorem cyc_max {n : Nat} {f : Nat → Nat} (pr : Nat → Nat) {R : Nat → Nat → Prop} (h : ∀ i, f i < n) (hs : ∀ i, R (f i) (f (i + 1))) : ∃ t, TransGen (fun x y => R x y ∧ pr x ≤ pr (f t) ∧ pr y ≤ pr (f t)) (f t) (f t) := by
  obtain ⟨i, j, hij, e⟩ := pigeon h
  obtain ⟨m, hm⟩ : ∃ m, j = i + (m + 1) := ⟨j - i - 1, by omega⟩
  subst hm
  obtain ⟨t, h1, h2, h3⟩ := max_at (fun s => pr (f s)) i m
  have h3' : ∀ s, i ≤ s → s ≤ i + (m + 1) → pr (f s) ≤ pr (f t) := fun s k1 k2 => by
    by_cases c : s = i + (m + 1)
    · rw [c, ← e]; exact h3 i (Nat.le_refl _) (by omega)
    · exact h3 s k1 (by omega)
  have A : TransGen (fun x y => R x y ∧ pr x ≤ pr (f t) ∧ pr y ≤ pr (f t)) (f t) (f (i + (m + 1))) := by
    have := seg (f := f) (i := t) (m := i + m - t) (R := fun x y => R x y ∧ pr x ≤ pr (f t) ∧ pr y ≤ pr (f t)) fun s k1 k2 => ⟨hs s, h3' s (by omega) (by omega), h3' (s + 1) (by omega) (by omega)⟩
    rw [show t + (i + m - t + 1) = i + (m + 1) by omega] at this
    exact this
  refine ⟨t, ?_⟩
  rw [← e] at A
  by_cases c : i = t
  · subst c; exact A
  · have B := seg (f := f) (i := i) (m := t - i - 1) (R := fun x y => R x y ∧ pr x ≤ pr (f t) ∧ pr y ≤ pr (f t)) fun s k1 k2 => ⟨hs s, h3' s (by omega) (by omega), h3' (s + 1) (by omega) (by omega)⟩
    rw [show i + (t - i - 1 + 1) = t by omega] at B
    exact A.trans B
theorem lose_of_FI {d : Gd} {ws cs dr : List Int} (ok : d.Ok) (F : Pm.FI (dG d d.ps) (fun p => ws.getD p (-1)) (fun p => cs.getD p (-1))) {a l k : Nat} (hk : k < d.mv.length) (hw : ws.getD k (-1) = (a : Int)) (hal : a + l = 1)
    (hdr : ∀ p, p < d.mv.length → ∃ q : Nat, dr.getD p 0 = (q : Int) ∧ q ∈ Gr.row d.mv p) : ¬ WinC (gcw (zL d.ow) (cZ d.mv) (l : Int) dr) (prF (zL d.ps)) (1 - (l : Int)) k := by
  rintro ⟨_, nb⟩
  -- the play where a keeps its choices
  obtain ⟨σ, hσ⟩ : ∃ σ : Nat → Nat, ∀ p, p < d.mv.length → ws.getD p (-1) = (a : Int) → (σ p < d.mv.length ∧ ws.getD (σ p) (-1) = (a : Int)) ∧ Pm.Cm (dG d d.ps) (fun p => cs.getD p (-1)) a p (σ p) ∧ Gr.E (gcw (zL d.ow) (cZ d.mv) (l : Int) dr) p (σ p) := by
    refine ⟨fun p => if d.ow.getD p 0 = a then (cs.getD p (-1)).toNat else (dr.getD p 0).toNat, fun p hp e => ?_⟩
    obtain ⟨f1, f2⟩ := F.f1 p hp a e
    by_cases o : d.ow.getD p 0 = a
    · obtain ⟨q, q1, q2, q3⟩ := f1 o
      have q1 : cs.getD p (-1) = (q : Int) := q1
      show (_ ∧ _) ∧ _ ∧ _
      simp only [if_pos o]
      rw [q1, Int.toNat_natCast]
      refine ⟨⟨ok.rg p q q2, q3⟩, ⟨q2, fun _ => q1⟩, ?_⟩
      show q ∈ Gr.row _ p
      rw [gcz_row hp, if_neg (by omega)]
      exact q2
    · obtain ⟨q, q1, q2⟩ := hdr p hp
      show (_ ∧ _) ∧ _ ∧ _
      simp only [if_neg o]
      rw [q1, Int.toNat_natCast]
      refine ⟨⟨ok.rg p q q2, f2 o q q2⟩, ⟨q2, fun z => absurd z o⟩, ?_⟩
      show q ∈ Gr.row _ p
      have o2 := ok.o2 _ (List.mem_of_getElem? (getD_n (l := d.ow) (p := p) (by rw [ok.lo]; exact hp)))
      rw [gcz_row hp, if_pos (by omega), q1, if_pos (by omega), Int.toNat_natCast]
      exact List.mem_singleton.mpr rfl
  obtain ⟨f, hf⟩ : ∃ f : Nat → Nat, f = fun i => Nat.rec k (fun _ x => σ x) i := ⟨_, rfl⟩
  have f0 : f 0 = k := by rw [hf]; rfl
  have fs : ∀ i, f (i + 1) = σ (f i) := fun i => by rw [hf]
  have fin : ∀ i, (f i < d.mv.length ∧ ws.getD (f i) (-1) = (a : Int)) ∧ Gr.Rc (gcw (zL d.ow) (cZ d.mv) (l : Int) dr) k (f i) := by
    intro i
    induction i with
    | zero => rw [f0]; exact ⟨⟨hk, hw⟩, .refl _⟩
    | succ i ih =>
      rw [fs]
      obtain ⟨h1, _, h3⟩ := hσ (f i) ih.1.1 ih.1.2
      exact ⟨h1, ih.2.snoc h3⟩
  obtain ⟨t, T⟩ := cyc_max (fun p => d.ps.getD p 0) (R := fun x y => (x < d.mv.length ∧ ws.getD x (-1) = (a : Int) ∧ Gr.Rc (gcw (zL d.ow) (cZ d.mv) (l : Int) dr) k x) ∧ (y < d.mv.length ∧ ws.getD y (-1) = (a : Int) ∧ Gr.Rc (gcw (zL d.ow) (cZ d.mv) (l : Int) dr) k y) ∧ y = σ x) (fun i => (fin i).1.1) (fun i => ⟨⟨(fin i).1.1, (fin i).1.2, (fin i).2⟩, ⟨(fin (i + 1)).1.1, (fin (i + 1)).1.2, (fin (i + 1)).2⟩, fs i⟩)
  have par : d.ps.getD (f t) 0 % 2 = a := by
    refine Classical.byContradiction fun c => F.nb a (f t) c ?_
    refine Pm.tg_mono (fun x y => ?_) T
    rintro ⟨⟨⟨x1, x2, x3⟩, ⟨y1, y2, y3⟩, rfl⟩, l1, l2⟩
    exact ⟨⟨⟨x1, x2⟩, ⟨y1, y2⟩, (hσ x x1 x2).2.1⟩, l1, l2⟩
  refine nb ?_
  obtain ⟨v, h1, h2⟩ := rs_of_tg (g := gcw (zL d.ow) (cZ d.mv) (l : Int) dr) (S := fun x => Gr.Rc (gcw (zL d.ow) (cZ d.mv) (l : Int) dr) k x ∧ prF (zL d.ps) x ≤ prF (zL d.ps) (f t)) (fun x y => by
    rintro ⟨⟨⟨x1, x2, x3⟩, ⟨y1, y2, y3⟩, rfl⟩, l1, l2⟩
    unfold prF
    rw [zL_get, zL_get, zL_get]
    exact ⟨⟨x3, Int.ofNat_le.mpr l1⟩, ⟨y3, Int.ofNat_le.mpr l2⟩, (hσ x x1 x2).2.2⟩) T
  refine ⟨f t, v, (fin t).2, ?_, h1, h2⟩
  unfold prF
  rw [zL_get]
  omega
theorem gd_of {ow ps : List Int} {c : List (List Int)} (V : Vg ow ps c) (h : c.length ≤ 1000) : ∃ d : Gd, ow = zL d.ow ∧ ps = zL d.ps ∧ c = cZ d.mv ∧ d.Ok := by
  have tz : ∀ {l : List Int}, (∀ z ∈ l, 0 ≤ z) → l = zL (l.map Int.toNat) := fun {l} hl => by
    unfold zL
    rw [List.map_map]
    conv => lhs; rw [← List.map_id l]
    exact List.map_congr_left fun z hz => (Int.toNat_of_nonneg (hl z hz)).symm
  have hrow : ∀ r ∈ c, r = zL (r.map Int.toNat) := fun r hr => tz fun z hz => ((V.mv r hr).2.2 z hz).1
  have gr : ∀ i, Gr.row (c.map fun r => r.map Int.toNat) i = (c.getD i []).map Int.toNat := fun i => by
    unfold Gr.row
    rw [List.getD_eq_getElem?_getD, List.getD_eq_getElem?_getD, List.getElem?_map]
    cases c[i]? <;> rfl
  have hlen : (c.map fun r => r.map Int.toNat).length = c.length := List.length_map _
  have hasc : ∀ p, (Gr.row (c.map fun r => r.map Int.toNat) p).Pairwise (· < ·) := fun p => by
    rw [gr]
    rcases Nat.lt_or_ge p c.length with l | l
    · have hm := List.getElem_mem l
      rw [getD_at (List.getElem?_eq_getElem l), List.pairwise_map]
      refine (List.Pairwise.and_mem.mp (V.mv _ hm).2.1).imp fun ⟨a, b, e⟩ => ?_
      have := ((V.mv _ hm).2.2 _ a).1
      omega
    · rw [List.getD_eq_getElem?_getD, List.getElem?_eq_none l]; exact .nil
  refine ⟨⟨ow.map Int.toNat, ps.map Int.toNat, c.map fun r => r.map Int.toNat⟩, tz fun z hz => (V.ow1 z hz).1, tz V.pr, ?_, ⟨by rw [hlen, List.length_map, V.lo], by rw [hlen, List.length_map, V.lp], by rw [hlen]; exact List.length_pos_iff.mpr V.ne, by rw [hlen]; exact h, fun z hz => ?_, fun p hp => ?_, fun p => asc_nd (hasc p), fun p q hq => ?_, hasc⟩⟩
  · unfold cZ
    rw [List.map_map]
    conv => lhs; rw [← List.map_id c]
    exact List.map_congr_left fun r hr => hrow r hr
  · obtain ⟨u, hu, rfl⟩ := List.mem_map.mp hz
    have := V.ow1 u hu
    omega
  · rw [hlen] at hp
    rw [gr, getD_at (List.getElem?_eq_getElem hp)]
    exact fun z => (V.mv _ (List.getElem_mem hp)).1 (List.map_eq_nil_iff.mp z)
  · rw [gr] at hq
    rw [hlen]
    rcases Nat.lt_or_ge p c.length with l | l
    · rw [getD_at (List.getElem?_eq_getElem l)] at hq
      obtain ⟨z, hz, rfl⟩ := List.mem_map.mp hq
      have := (V.mv _ (List.getElem_mem l)).2.2 z hz
      omega
    · rw [List.getD_eq_getElem?_getD, List.getElem?_eq_none l] at hq
      cases hq
/-- the winners are determined -/
theorem uniq {g : Pm.G} {w1 c1 w2 c2 : Nat → Int} (o2 : ∀ p, p < g.n → g.ow p < 2) (ok : ∀ p, p < g.n → ∀ q ∈ g.mv p, q < g.n) (F1 : Pm.FI g w1 c1) (F2 : Pm.FI g w2 c2) {p a b : Nat} (hp : p < g.n) (h1 : w1 p = (a : Int)) (h2 : w2 p = (b : Int)) (a2 : a < 2) (b2 : b < 2) : a = b := by
  refine Classical.byContradiction fun ne => ?_
  obtain ⟨σ, hσ⟩ : ∃ σ : Nat → Nat, ∀ x, x < g.n → w1 x = (a : Int) → w2 x = (b : Int) → (σ x < g.n ∧ w1 (σ x) = (a : Int) ∧ w2 (σ x) = (b : Int)) ∧ Pm.Cm g c1 a x (σ x) ∧ Pm.Cm g c2 b x (σ x) := by
    refine ⟨fun x => if g.ow x = a then (c1 x).toNat else if g.ow x = b then (c2 x).toNat else (g.mv x).headD 0, fun x hx e1 e2 => ?_⟩
    obtain ⟨f1, f2⟩ := F1.f1 x hx a e1
    obtain ⟨k1, k2⟩ := F2.f1 x hx b e2
    by_cases o : g.ow x = a
    · obtain ⟨q, q1, q2, q3⟩ := f1 o
      have ob : g.ow x ≠ b := fun z => ne (by omega)
      simp only [if_pos o]
      rw [q1, Int.toNat_natCast]
      exact ⟨⟨ok x hx q q2, q3, k2 ob q q2⟩, ⟨q2, fun _ => q1⟩, ⟨q2, fun z => absurd z ob⟩⟩
    · by_cases ob : g.ow x = b
      · obtain ⟨q, q1, q2, q3⟩ := k1 ob
        simp only [if_neg o, if_pos ob]
        rw [q1, Int.toNat_natCast]
        exact ⟨⟨ok x hx q q2, f2 o q q2, q3⟩, ⟨q2, fun z => absurd z o⟩, ⟨q2, fun _ => q1⟩⟩
      · exfalso
        have h := o2 x hx
        clear f1 f2 k1 k2 F1 F2
        generalize g.ow x = u at h o ob
        omega
  obtain ⟨f, hf⟩ : ∃ f : Nat → Nat, f = fun i => Nat.rec p (fun _ x => σ x) i := ⟨_, rfl⟩
  have f0 : f 0 = p := by rw [hf]; rfl
  have fs : ∀ i, f (i + 1) = σ (f i) := fun i => by rw [hf]
  have fin : ∀ i, f i < g.n ∧ w1 (f i) = (a : Int) ∧ w2 (f i) = (b : Int) := by
    intro i
    induction i with
    | zero => rw [f0]; exact ⟨hp, h1, h2⟩
    | succ i ih => rw [fs]; exact (hσ (f i) ih.1 ih.2.1 ih.2.2).1
  obtain ⟨t, T⟩ := cyc_max g.pr (R := fun x y => (x < g.n ∧ w1 x = (a : Int) ∧ w2 x = (b : Int)) ∧ (y < g.n ∧ w1 y = (a : Int) ∧ w2 y = (b : Int)) ∧ y = σ x) (fun i => (fin i).1) (fun i => ⟨fin i, fin (i + 1), fs i⟩)
  have pa : g.pr (f t) % 2 = a := by
    refine Classical.byContradiction fun c => F1.nb a (f t) c (Pm.tg_mono (fun x y => ?_) T)
    rintro ⟨⟨⟨x1, x2, x3⟩, ⟨y1, y2, y3⟩, rfl⟩, l1, l2⟩
    exact ⟨⟨⟨x1, x2⟩, ⟨y1, y2⟩, (hσ x x1 x2 x3).2.1⟩, l1, l2⟩
  have pb : g.pr (f t) % 2 = b := by
    refine Classical.byContradiction fun c => F2.nb b (f t) c (Pm.tg_mono (fun x y => ?_) T)
    rintro ⟨⟨⟨x1, x2, x3⟩, ⟨y1, y2, y3⟩, rfl⟩, l1, l2⟩
    exact ⟨⟨⟨x1, x3⟩, ⟨y1, y3⟩, (hσ x x1 x2 x3).2.2⟩, l1, l2⟩
  exact ne (by omega)
/-- the same play in another dress: places ρ, players τ -/
theorem FI_map {g g' : Pm.G} {ρ τ : Nat → Nat} {w c : Nat → Int} (hn : g'.n = g.n) (r1 : ∀ p, p < g.n → ρ p < g.n) (r2 : ∀ p, p < g.n → ρ (ρ p) = p) (t1 : ∀ a, a < 2 → τ a < 2) (t2 : ∀ a, a < 2 → τ (τ a) = a)
    (rg : ∀ p, p < g.n → ∀ q ∈ g.mv p, q < g.n) (rg' : ∀ p, p < g.n → ∀ q ∈ g'.mv p, q < g.n) (hm : ∀ p, p < g.n → ∀ q, q < g.n → (q ∈ g'.mv p ↔ ρ q ∈ g.mv (ρ p))) (ho : ∀ p, p < g.n → g'.ow p = τ (g.ow (ρ p))) (o2 : ∀ p, p < g.n → g.ow p < 2)
    (hp : ∀ p, p < g.n → ∀ q, q < g.n → (g'.pr p ≤ g'.pr q ↔ g.pr (ρ p) ≤ g.pr (ρ q))) (hpar : ∀ p, p < g.n → g'.pr p % 2 = τ (g.pr (ρ p) % 2)) (F : Pm.FI g w c) :
    Pm.FI g' (fun p => if w (ρ p) = -1 then -1 else (τ (w (ρ p)).toNat : Int)) (fun p => if c (ρ p) < 0 then -1 else (ρ (c (ρ p)).toNat : Int)) := by
  have eqa : ∀ p, p < g.n → ∀ b : Nat, (if w (ρ p) = -1 then (-1 : Int) else (τ (w (ρ p)).toNat : Int)) = (b : Int) → b < 2 ∧ w (ρ p) = (τ b : Int) := fun p hpn b h => by
    have hv := F.wv (ρ p) (r1 p hpn)
    split at h
    · omega
    · have hlt : (w (ρ p)).toNat < 2 := by omega
      have hb : b = τ (w (ρ p)).toNat := by omega
      have := t1 _ hlt
      have h3 := t2 _ hlt
      rw [← hb] at h3
      exact ⟨by omega, by rw [h3]; omega⟩
  have eqb : ∀ p, p < g.n → ∀ b : Nat, b < 2 → w (ρ p) = (τ b : Int) → (if w (ρ p) = -1 then (-1 : Int) else (τ (w (ρ p)).toNat : Int)) = (b : Int) := fun p _ b b2 h => by
    rw [if_neg (by omega), h, Int.toNat_natCast, t2 b b2]
  have tinj : ∀ x y, x < 2 → y < 2 → τ x = τ y → x = y := fun x y hx hy e => by rw [← t2 x hx, ← t2 y hy, e]
  refine ⟨fun p hpn => ?_, fun p hpn b hb => ?_, fun b => ?_, fun p hpn hne => ?_⟩
  · rw [hn] at hpn
    have hv := F.wv (ρ p) (r1 p hpn)
    show (if w (ρ p) = -1 then (-1 : Int) else (τ (w (ρ p)).toNat : Int)) = -1 ∨ (if w (ρ p) = -1 then (-1 : Int) else (τ (w (ρ p)).toNat : Int)) = 0 ∨ (if w (ρ p) = -1 then (-1 : Int) else (τ (w (ρ p)).toNat : Int)) = 1
    split
    · exact .inl rfl
    · have := t1 (w (ρ p)).toNat (by omega)
      omega
  · rw [hn] at hpn
    obtain ⟨b2, e⟩ := eqa p hpn b hb
    obtain ⟨f1, f2⟩ := F.f1 (ρ p) (r1 p hpn) (τ b) e
    refine ⟨fun o => ?_, fun o q hq => ?_⟩
    · rw [ho p hpn] at o
      have o' : g.ow (ρ p) = τ b := by rw [← o, t2 _ (o2 _ (r1 p hpn))]
      obtain ⟨q, q1, q2, q3⟩ := f1 o'
      have hq := rg _ (r1 p hpn) q q2
      refine ⟨ρ q, ?_, (hm p hpn (ρ q) (r1 q hq)).mpr (by rw [r2 q hq]; exact q2), eqb (ρ q) (r1 q hq) b b2 (by rw [r2 q hq]; exact q3)⟩
      show (if c (ρ p) < 0 then (-1 : Int) else (ρ (c (ρ p)).toNat : Int)) = _
      rw [q1, if_neg (by omega), Int.toNat_natCast]
    · have hqn := rg' p hpn q hq
      refine eqb q hqn b b2 (f2 (fun z => o ?_) (ρ q) ((hm p hpn q hqn).mp hq))
      rw [ho p hpn, z, t2 b b2]
  · intro k hk tg
    obtain ⟨d, e⟩ := Pm.tg_last tg
    have kn : k < g.n := by have := e.1.2.1.1; rwa [hn] at this
    have b2 := (eqa k kn b e.1.2.1.2).1
    refine F.nb (τ b) (ρ k) (fun z => hk ?_) ?_
    · rw [hpar k kn, z, t2 b b2]
    · have main : ∀ {x y}, Relation.TransGen (fun x y => ((x < g'.n ∧ (if w (ρ x) = -1 then (-1 : Int) else (τ (w (ρ x)).toNat : Int)) = (b : Int)) ∧ (y < g'.n ∧ (if w (ρ y) = -1 then (-1 : Int) else (τ (w (ρ y)).toNat : Int)) = (b : Int)) ∧ Pm.Cm g' (fun p => if c (ρ p) < 0 then (-1 : Int) else (ρ (c (ρ p)).toNat : Int)) b x y) ∧ g'.pr x ≤ g'.pr k ∧ g'.pr y ≤ g'.pr k) x y → Relation.TransGen (fun x y => ((x < g.n ∧ w x = (τ b : Int)) ∧ (y < g.n ∧ w y = (τ b : Int)) ∧ Pm.Cm g c (τ b) x y) ∧ g.pr x ≤ g.pr (ρ k) ∧ g.pr y ≤ g.pr (ρ k)) (ρ x) (ρ y) := by
        have one : ∀ {x y}, (((x < g'.n ∧ (if w (ρ x) = -1 then (-1 : Int) else (τ (w (ρ x)).toNat : Int)) = (b : Int)) ∧ (y < g'.n ∧ (if w (ρ y) = -1 then (-1 : Int) else (τ (w (ρ y)).toNat : Int)) = (b : Int)) ∧ Pm.Cm g' (fun p => if c (ρ p) < 0 then (-1 : Int) else (ρ (c (ρ p)).toNat : Int)) b x y) ∧ g'.pr x ≤ g'.pr k ∧ g'.pr y ≤ g'.pr k) → ((ρ x < g.n ∧ w (ρ x) = (τ b : Int)) ∧ (ρ y < g.n ∧ w (ρ y) = (τ b : Int)) ∧ Pm.Cm g c (τ b) (ρ x) (ρ y)) ∧ g.pr (ρ x) ≤ g.pr (ρ k) ∧ g.pr (ρ y) ≤ g.pr (ρ k) := by
          rintro x y ⟨⟨⟨x1, x2⟩, ⟨y1, y2⟩, m1, m2⟩, l1, l2⟩
          rw [hn] at x1 y1
          obtain ⟨_, ex⟩ := eqa x x1 b x2
          obtain ⟨_, ey⟩ := eqa y y1 b y2
          refine ⟨⟨⟨r1 x x1, ex⟩, ⟨r1 y y1, ey⟩, (hm x x1 y y1).mp m1, fun o => ?_⟩, (hp x x1 k kn).mp l1, (hp y y1 k kn).mp l2⟩
          obtain ⟨q, q1, q2, q3⟩ := (F.f1 (ρ x) (r1 x x1) (τ b) ex).1 o
          have := m2 (by rw [ho x x1, o, t2 b b2])
          have this : (if c (ρ x) < 0 then (-1 : Int) else (ρ (c (ρ x)).toNat : Int)) = (y : Int) := this
          rw [q1, if_neg (by omega), Int.toNat_natCast] at this
          have hqy : ρ q = y := by omega
          rw [q1, ← hqy, r2 q (rg _ (r1 x x1) q q2)]
        intro x y t
        induction t with
        | single e => exact .single (one e)
        | tail _ e ih => exact .tail ih (one e)
      exact main tg
  · rw [hn] at hpn
    have hne : (if w (ρ p) = -1 then (-1 : Int) else (τ (w (ρ p)).toNat : Int)) ≠ (g'.ow p : Int) := hne
    have hc := F.c1 (ρ p) (r1 p hpn) fun z => hne (by
      rw [ho p hpn, z, if_neg (by omega), Int.toNat_natCast])
    show (if c (ρ p) < 0 then (-1 : Int) else (ρ (c (ρ p)).toNat : Int)) = -1
    rw [hc, if_pos (by omega)]
theorem win_eq {g g' : Pm.G} {ρ τ : Nat → Nat} {w c w' c' : Nat → Int} (hn : g'.n = g.n) (r1 : ∀ p, p < g.n → ρ p < g.n) (r2 : ∀ p, p < g.n → ρ (ρ p) = p) (t1 : ∀ a, a < 2 → τ a < 2) (t2 : ∀ a, a < 2 → τ (τ a) = a)
    (rg : ∀ p, p < g.n → ∀ q ∈ g.mv p, q < g.n) (rg' : ∀ p, p < g.n → ∀ q ∈ g'.mv p, q < g.n) (hm : ∀ p, p < g.n → ∀ q, q < g.n → (q ∈ g'.mv p ↔ ρ q ∈ g.mv (ρ p))) (ho : ∀ p, p < g.n → g'.ow p = τ (g.ow (ρ p))) (o2 : ∀ p, p < g.n → g.ow p < 2)
    (hp : ∀ p, p < g.n → ∀ q, q < g.n → (g'.pr p ≤ g'.pr q ↔ g.pr (ρ p) ≤ g.pr (ρ q))) (hpar : ∀ p, p < g.n → g'.pr p % 2 = τ (g.pr (ρ p) % 2)) (F : Pm.FI g w c) (F' : Pm.FI g' w' c') (al : ∀ p, p < g.n → w p ≠ -1) (al' : ∀ p, p < g'.n → w' p ≠ -1) {p : Nat} (hpn : p < g.n) :
    ∃ a : Nat, a < 2 ∧ w (ρ p) = (a : Int) ∧ w' p = (τ a : Int) := by
  have M := FI_map hn r1 r2 t1 t2 rg rg' hm ho o2 hp hpar F
  have h1 := F.wv (ρ p) (r1 p hpn)
  have h2 := al (ρ p) (r1 p hpn)
  have h3 := F'.wv p (by rw [hn]; exact hpn)
  have h4 := al' p (by rw [hn]; exact hpn)
  obtain ⟨a, ha⟩ : ∃ a : Nat, w (ρ p) = (a : Int) := ⟨(w (ρ p)).toNat, by omega⟩
  obtain ⟨b, hb⟩ : ∃ b : Nat, w' p = (b : Int) := ⟨(w' p).toNat, by omega⟩
  have a2 : a < 2 := by omega
  refine ⟨a, a2, ha, ?_⟩
  have := uniq (a := τ a) (b := b) (fun p hp => by rw [ho p (by rw [← hn]; exact hp)]; exact t1 _ (o2 _ (r1 p (by rw [← hn]; exact hp)))) (fun p hp => by rw [hn] at hp ⊢; exact rg' p hp) M F' (p := p) (by rw [hn]; exact hpn) (by rw [if_neg (by omega), ha, Int.toNat_natCast]) hb (t1 a a2) (by omega)
  rw [hb, this]
theorem ext_getD {l1 l2 : List Int} {n : Nat} (h1 : l1.length = n) (h2 : l2.length = n) (h : ∀ p, p < n → l1.getD p (-1) = l2.getD p (-1)) : l1 = l2 := by
  refine List.ext_getElem? fun i => ?_
  rcases Nat.lt_or_ge i n with c | c
  · rw [getD_i (by omega), getD_i (by omega), h i c]
  · rw [List.getElem?_eq_none (by omega), List.getElem?_eq_none (by omega)]
theorem map_getD {α β : Type} {l : List α} {f : α → β} {p : Nat} (x : α) (y : β) (h : p < l.length) : (l.map f).getD p y = f (l.getD p x) := by
  rw [List.getD_eq_getElem?_getD, List.getD_eq_getElem?_getD, List.getElem?_map, List.getElem?_eq_getElem h]; rfl
theorem rev_getD {α : Type} {l : List α} {p : Nat} (x : α) (h : p < l.length) : l.reverse.getD p x = l.getD (l.length - 1 - p) x := by
  rw [List.getD_eq_getElem?_getD, List.getD_eq_getElem?_getD, List.getElem?_reverse h]
/-- the sides exchanged -/
def gdT (d : Gd) : Gd := ⟨d.ow.map fun u => 1 - u, d.ps.map fun u => u + 1, d.mv⟩
theorem gdT_ok {d : Gd} (ok : d.Ok) : (gdT d).Ok := ⟨(List.length_map _).trans ok.lo, (List.length_map _).trans ok.lp, ok.n1, ok.n2, fun z hz => by
  obtain ⟨u, hu, rfl⟩ := List.mem_map.mp hz
  omega, ok.ne, ok.nd, ok.rg, ok.asc⟩
theorem winT {d : Gd} {ws cs wsT csT : List Int} (ok : d.Ok) (l1 : ws.length = d.mv.length) (l2 : wsT.length = d.mv.length) (F : Pm.FI (dG d d.ps) (fun p => ws.getD p (-1)) (fun p => cs.getD p (-1))) (F' : Pm.FI (dG (gdT d) (gdT d).ps) (fun p => wsT.getD p (-1)) (fun p => csT.getD p (-1)))
    (al : ∀ p, p < d.mv.length → ws.getD p (-1) ≠ -1) (al' : ∀ p, p < d.mv.length → wsT.getD p (-1) ≠ -1) : ws.map (fun z => 1 - z) = wsT := by
  refine ext_getD (n := d.mv.length) (by rw [List.length_map]; exact l1) l2 fun p hp => ?_
  obtain ⟨a, a2, e1, e2⟩ := win_eq (g := dG d d.ps) (g' := dG (gdT d) (gdT d).ps) (ρ := id) (τ := fun a => 1 - a) rfl (fun p h => h) (fun p h => rfl) (fun a h => by omega) (fun a h => by omega) (fun p _ q hq => ok.rg p q hq) (fun p _ q hq => ok.rg p q hq) (fun p _ q _ => Iff.rfl)
    (fun p h => map_getD 0 0 (by rw [ok.lo]; exact h)) (fun p h => ok.o2 _ (List.mem_of_getElem? (getD_n (by rw [ok.lo]; exact h)))) (fun p h q k => by
      show (d.ps.map fun u => u + 1).getD p 0 ≤ (d.ps.map fun u => u + 1).getD q 0 ↔ d.ps.getD p 0 ≤ d.ps.getD q 0
      rw [map_getD 0 0 (by rw [ok.lp]; exact h), map_getD 0 0 (by rw [ok.lp]; exact k)]
      omega) (fun p h => by
      show (d.ps.map fun u => u + 1).getD p 0 % 2 = 1 - d.ps.getD p 0 % 2
      rw [map_getD 0 0 (by rw [ok.lp]; exact h)]
      omega) F F' al al' hp
  have e1 : ws.getD p (-1) = (a : Int) := e1
  have e2 : wsT.getD p (-1) = ((1 - a : Nat) : Int) := e2
  rw [map_getD (-1) (-1) (by rw [l1]; exact hp), e1, e2]
  omega
/-- all priorities raised -/
def gdR (d : Gd) (e : Nat) : Gd := ⟨d.ow, d.ps.map fun u => u + e, d.mv⟩
theorem gdR_ok {d : Gd} {e : Nat} (ok : d.Ok) : (gdR d e).Ok := ⟨ok.lo, (List.length_map _).trans ok.lp, ok.n1, ok.n2, ok.o2, ok.ne, ok.nd, ok.rg, ok.asc⟩
theorem winR {d : Gd} {e : Nat} {ws cs wsT csT : List Int} (he : e % 2 = 0) (ok : d.Ok) (l1 : ws.length = d.mv.length) (l2 : wsT.length = d.mv.length) (F : Pm.FI (dG d d.ps) (fun p => ws.getD p (-1)) (fun p => cs.getD p (-1))) (F' : Pm.FI (dG (gdR d e) (gdR d e).ps) (fun p => wsT.getD p (-1)) (fun p => csT.getD p (-1)))
    (al : ∀ p, p < d.mv.length → ws.getD p (-1) ≠ -1) (al' : ∀ p, p < d.mv.length → wsT.getD p (-1) ≠ -1) : wsT = ws := by
  refine ext_getD (n := d.mv.length) l2 l1 fun p hp => ?_
  obtain ⟨a, a2, e1, e2⟩ := win_eq (g := dG d d.ps) (g' := dG (gdR d e) (gdR d e).ps) (ρ := id) (τ := id) rfl (fun p h => h) (fun p h => rfl) (fun a h => h) (fun a h => rfl) (fun p _ q hq => ok.rg p q hq) (fun p _ q hq => ok.rg p q hq) (fun p _ q _ => Iff.rfl)
    (fun p h => rfl) (fun p h => ok.o2 _ (List.mem_of_getElem? (getD_n (by rw [ok.lo]; exact h)))) (fun p h q k => by
      show (d.ps.map fun u => u + e).getD p 0 ≤ (d.ps.map fun u => u + e).getD q 0 ↔ d.ps.getD p 0 ≤ d.ps.getD q 0
      rw [map_getD 0 0 (by rw [ok.lp]; exact h), map_getD 0 0 (by rw [ok.lp]; exact k)]
      omega) (fun p h => by
      show (d.ps.map fun u => u + e).getD p 0 % 2 = d.ps.getD p 0 % 2
      rw [map_getD 0 0 (by rw [ok.lp]; exact h)]
      omega) F F' al al' hp
  have e1 : ws.getD p (-1) = (a : Int) := e1
  have e2 : wsT.getD p (-1) = (a : Int) := e2
  rw [e1, e2]
/-- the places counted from the end -/
theorem winB {d b : Gd} {ws cs wsT csT : List Int} (ok : d.Ok) (okb : b.Ok) (hn : b.mv.length = d.mv.length) (ho : b.ow = d.ow.reverse) (hps : b.ps = d.ps.reverse) (hm : ∀ p, p < d.mv.length → ∀ q, q < d.mv.length → (q ∈ Gr.row b.mv p ↔ (d.mv.length - 1 - q) ∈ Gr.row d.mv (d.mv.length - 1 - p)))
    (l1 : ws.length = d.mv.length) (l2 : wsT.length = d.mv.length) (F : Pm.FI (dG d d.ps) (fun p => ws.getD p (-1)) (fun p => cs.getD p (-1))) (F' : Pm.FI (dG b b.ps) (fun p => wsT.getD p (-1)) (fun p => csT.getD p (-1)))
    (al : ∀ p, p < d.mv.length → ws.getD p (-1) ≠ -1) (al' : ∀ p, p < d.mv.length → wsT.getD p (-1) ≠ -1) : wsT.reverse = ws := by
  refine ext_getD (n := d.mv.length) (by rw [List.length_reverse]; exact l2) l1 fun p hp => ?_
  have gr : ∀ {l : List Nat} {p : Nat}, l.length = d.mv.length → p < d.mv.length → l.reverse.getD p 0 = l.getD (d.mv.length - 1 - p) 0 := fun {l p} hl h => by rw [rev_getD 0 (by omega), hl]
  obtain ⟨a, a2, e1, e2⟩ := win_eq (g := dG d d.ps) (g' := dG b b.ps) (ρ := fun p => d.mv.length - 1 - p) (τ := id) hn (fun p h => by have h : p < d.mv.length := h; show d.mv.length - 1 - p < d.mv.length; omega) (fun p h => by have h : p < d.mv.length := h; omega) (fun a h => h) (fun a h => rfl) (fun p _ q hq => ok.rg p q hq) (fun p _ q hq => by
      have := okb.rg p q hq
      rw [hn] at this
      exact this) hm
    (fun p h => by show b.ow.getD p 0 = d.ow.getD (d.mv.length - 1 - p) 0; rw [ho]; exact gr ok.lo h) (fun p h => ok.o2 _ (List.mem_of_getElem? (getD_n (by rw [ok.lo]; exact h)))) (fun p h q k => by
      show b.ps.getD p 0 ≤ b.ps.getD q 0 ↔ d.ps.getD (d.mv.length - 1 - p) 0 ≤ d.ps.getD (d.mv.length - 1 - q) 0
      rw [hps, gr ok.lp h, gr ok.lp k]) (fun p h => by
      show b.ps.getD p 0 % 2 = d.ps.getD (d.mv.length - 1 - p) 0 % 2
      rw [hps, gr ok.lp h]) F F' al (fun p h => al' p (by have h : p < b.mv.length := h; omega)) (p := d.mv.length - 1 - p) (show d.mv.length - 1 - p < d.mv.length by omega)
  have e1 : ws.getD (d.mv.length - 1 - (d.mv.length - 1 - p)) (-1) = (a : Int) := e1
  have e2 : wsT.getD (d.mv.length - 1 - p) (-1) = (a : Int) := e2
  rw [show d.mv.length - 1 - (d.mv.length - 1 - p) = p by omega] at e1
  rw [rev_getD (-1) (by omega), l2, e1, e2]
theorem spInit_app {C cI x dx a1 a2 r2 : Addr} {H : Hp} {d : Gd} {as2 : List Addr} {Q : VK} {E : XK} (ok : d.Ok) (hx : H x = none) (hdx : H dx = none) (h1 : H a1 = some (.lst (d.ow.map VN))) (h2 : H a2 = some (.lst (d.ps.map VN))) (hL : LL H r2 as2 (cZ d.mv)) (q : ∀ H', Same H H' → GmN C H' x d → Q .non H') :
    spInitG C cI [.ref x, .ref a1, .ref a2, .ref r2] (upd (upd H dx (.own x)) x (.ins C dx [])) Q E := by
  have s := sameM_fresh (C := C) hx hdx
  have hcl : (cZ d.mv).length = d.mv.length := List.length_map _
  have hn := ok.n2
  refine ⟨x, a1, a2, r2, dx, zL d.ow, zL d.ps, as2, cZ d.mv, rfl, upd_same, s _ _ (by rw [nt_int] at h1; exact h1), s _ _ (by rw [nt_int] at h2; exact h2), hL.same s, by rw [show (zL d.ow).length = d.ow.length from List.length_map _, ok.lo]; exact hn, by rw [show (zL d.ps).length = d.ps.length from List.length_map _, ok.lp]; exact hn, by rw [hcl]; exact hn, fun r hr => ?_, fun z => absurd (vg_of ok) z, fun _ H' k g => q H' (sameM_made hx hdx k) (gmN_of g)⟩
  obtain ⟨i, hi⟩ := List.mem_iff_getElem?.mp hr
  have := cZ_row d.mv i
  rw [List.getD_eq_getElem?_getD, hi] at this
  have this : r = zL (Gr.row d.mv i) := this
  rw [this, show (zL (Gr.row d.mv i)).length = (Gr.row d.mv i).length from List.length_map _]
  exact Nat.le_trans (nd_len (ok.nd i) (ok.rg i)) hn
theorem gmN_kp {H H' : Hp} {C dr x : Addr} {d : Gd} (hd : Drw H dr) (k : Kp dr H H') (h : GmN C H x d) : GmN C H' x d := by
  obtain ⟨dx, ot, pt, rt, e1, e2, e3, as, e4, e5, e6⟩ := h
  obtain ⟨ds, ed⟩ := hd
  have nt : ∀ {b : Addr} {xs : List V}, H b = some (.tup xs) → b ≠ dr := fun e z => by rw [z, ed] at e; cases e
  exact ⟨dx, ot, pt, rt, k _ _ (fun z => by rw [z, ed] at e1; cases e1) e1, k _ _ (nt e2) e2, k _ _ (nt e3) e3, as, k _ _ (nt e4) e4, e5, fun i a h => k _ _ (nt (e6 i a h)) (e6 i a h)⟩
theorem zL_inj {a b : List Nat} (h : zL a = zL b) : a = b := (List.map_inj_right fun x y e => Int.ofNat.inj e).mp h
theorem gmAt_of {C x : Addr} {H : Hp} {d : Gd} (h : GmN C H x d) : GmeAt C H x (zL d.ow) (zL d.ps) (cZ d.mv) := by
  obtain ⟨dx, ot, pt, rt, e1, e2, e3, as, e4, e5, e6⟩ := h
  exact ⟨dx, ot, pt, rt, as, e1, by rw [nt_int] at e2; exact e2, by rw [nt_int] at e3; exact e3, e4, rowsA_of (by rw [show (cZ d.mv).length = d.mv.length from List.length_map _]; exact e5) fun i a ha => by rw [cZ_row, ← nt_int]; exact e6 i a ha⟩
theorem back_ok {d : Gd} {c : List (List Int)} (ok : d.Ok) (hl : c.length = d.mv.length) (h : ∀ (j : Nat) (row : List Int), c[j]? = some row → row.Perm ((Gr.row d.mv (d.mv.length - 1 - j)).map fun t : Nat => (d.mv.length : Int) - 1 - (t : Int)) ∧ row.Pairwise (· ≤ ·)) :
    Vg (zL d.ow.reverse) (zL d.ps.reverse) c ∧ ∀ b : Gd, c = cZ b.mv → ∀ p, p < d.mv.length → ∀ q, q < d.mv.length → (q ∈ Gr.row b.mv p ↔ (d.mv.length - 1 - q) ∈ Gr.row d.mv (d.mv.length - 1 - p)) := by
  have hn := ok.n1
  have mem : ∀ (j : Nat) (row : List Int), c[j]? = some row → ∀ z : Int, z ∈ row ↔ ∃ t ∈ Gr.row d.mv (d.mv.length - 1 - j), z = (d.mv.length : Int) - 1 - (t : Int) := fun j row hj z => by
    rw [(h j row hj).1.mem_iff, List.mem_map]
    exact ⟨fun ⟨t, a, b⟩ => ⟨t, a, b.symm⟩, fun ⟨t, a, b⟩ => ⟨t, a, b.symm⟩⟩
  refine ⟨⟨fun z => by rw [z] at hl; simp at hl; omega, ?_, ?_, fun z hz => ?_, fun z hz => ?_, fun row hr => ?_⟩, fun b hb p hp q hq => ?_⟩
  · rw [hl, ← ok.lo, show (zL d.ow.reverse).length = d.ow.reverse.length from List.length_map _, List.length_reverse]
  · rw [hl, ← ok.lp, show (zL d.ps.reverse).length = d.ps.reverse.length from List.length_map _, List.length_reverse]
  · obtain ⟨u, hu, rfl⟩ := List.mem_map.mp hz
    have := ok.o2 u (List.mem_reverse.mp hu)
    omega
  · obtain ⟨u, hu, rfl⟩ := List.mem_map.mp hz
    omega
  · obtain ⟨j, hj⟩ := List.mem_iff_getElem?.mp hr
    have hjl := lt_of_get hj
    have hk : d.mv.length - 1 - j < d.mv.length := by omega
    obtain ⟨hp, hs⟩ := h j row hj
    have hlen := hp.length_eq
    rw [List.length_map] at hlen
    refine ⟨fun z => ok.ne _ hk (List.length_eq_zero_iff.mp (by rw [← hlen, z]; rfl)), ?_, fun z hz => ?_⟩
    · have hnd : row.Nodup := hp.nodup_iff.mpr (by
        unfold List.Nodup
        rw [List.pairwise_map]
        exact (ok.nd _).imp fun {a b} e z => e (by omega))
      exact (hs.and hnd).imp fun ⟨a, b⟩ => by omega
    · obtain ⟨t, ht, e⟩ := (mem j row hj z).mp hz
      have := ok.rg _ t ht
      rw [hl]
      omega
  · obtain ⟨row, hrow⟩ : ∃ row, c[p]? = some row := ⟨_, List.getElem?_eq_getElem (by omega)⟩
    have e := cZ_row b.mv p
    rw [← hb, List.getD_eq_getElem?_getD, hrow] at e
    have e : row = zL (Gr.row b.mv p) := e
    have e2 : (q ∈ Gr.row b.mv p) ↔ ((q : Int) ∈ row) := by rw [e]; exact mem_cast.symm
    rw [e2, mem p row hrow]
    constructor
    · rintro ⟨t, ht, e⟩
      rw [show d.mv.length - 1 - q = t by omega]
      exact ht
    · intro hm
      exact ⟨_, hm, by omega⟩
theorem ok_law {f : Addr} {fd : FuncData} (F : L2.Fun K "law" "law" s_law f fd) (T : Txt K mg) : FnOk P w K mg base CX0 8 f fd ["script"] (spLaw K) := by
  obtain ⟨cI, cL, C, fI, fdI, eI, eL, PC, hM, gC, F0, hB, cR, fRI, fR0, fR1, fR2, fR3, fR4, fR5, fR6, fR7, cF, fFI, fF0, cS, fSI, fdRI, fdR0, fdR1, fdR2, fdR3, fdR4, fdR5, fdR6, fdR7, fdFI, fdF0, fdSI, PR, MKR, gCR, FRI, BIR, M0, F0m, B0, M1, F1m, B1, M2, F2m, B2, M3, F3m, B3, M4, F4m, B4, M5, F5m, B5, M6, F6m, B6, M7, F7m, B7, PF, MKF, gCF, FFI, BIF, Mre, Fre, Bre, PS, MKS, gCS, FSI, BIS⟩ := T.er
  have MK : MakX P w K mg base 2 "Game" C (spInitG C cI) := ⟨fI, fdI, _, hM, ok_initG T eI PC F0, gC, hB⟩
  have C_won_part : C8.Cal P w K mg base 4 "won_part" (spWon C) [] := cal_won T PR PC MKR gCR FRI BIR M0 F0m B0 M1 F1m B1 M2 F2m B2 M3 F3m B3 M4 F4m B4 M5 F5m B5 M6 F6m B6 M7 F7m B7
  have C_solve_part : C8.Cal P w K mg base 5 "solve_part" (spSlp cF C) [] := cal_slp T PC PF C_won_part MK Mre Fre Bre
  have C_solve : C8.Cal P w K mg base 6 "solve" (spSolve cS C) [] := cal_solve T PC PF PS C_solve_part MKF gCF FFI BIF MKS gCS FSI BIS
  have C_law_draws : C8.Cal P w K mg base 1 "_law_draws" (spDraws K) [] := cal_draws T
  have C_law_take : C8.Cal P w K mg base 1 "_law_take" spTake [] := cal_take T
  have C_law_game : C8.Cal P w K mg base 3 "_law_game" spGame [] := cal_game T
  have C_law_flat : C8.Cal P w K mg base 1 "_law_flat" spFlat [] := cal_flat T
  have X_choices_win : CalX P w K mg base 5 "choices_win" (spCW C cL) := cal_cw T eL PC
  clear MKR gCR FRI BIR M0 F0m B0 M1 F1m B1 M2 F2m B2 M3 F3m B3 M4 F4m B4 M5 F5m B5 M6 F6m B6 M7 F7m B7 C_won_part C_solve_part PR PF MKF gCF FFI BIF Mre Fre Bre MKS gCS FSI BIS
  refine F.ok sc_law (fun vs H Q E h => ?_) (fun cdv A outer s H vs Q E hr h => ?_)
  · obtain ⟨a, ns, rfl, _⟩ := h
    rfl
  · obtain ⟨sa, ns, rfl, hS, hlen, q⟩ := h
    refine ⟨_, (pss_cons
      (ps_set (i := 1) sc_law.nd rfl (Or.inl rfl) (C8.pe_c C_law_draws hr (by decide) (by rfl) (pa_cons (pv 0) (pa_cons pe_int pa_nil))))
      (pss_cons
      (ps_asg (C8.pe_c C_law_game hr (by decide) (by rfl) (pa_cons (pv 1) (pa_cons pe_int pa_nil))) (pg_tup (by rfl) (pgs_cons (pg_name (i := 2) sc_law.nd rfl (.inl rfl)) (pgs_cons (pg_name (i := 3) sc_law.nd rfl (.inl rfl)) (pgs_cons (pg_name (i := 4) sc_law.nd rfl (.inl rfl)) pgs_nil)))))
      (pss_cons
      (ps_set (i := 5) sc_law.nd rfl (Or.inr rfl) (pe_callB (call_lenK (K := K) rfl) (by rfl) T.z_len PySem.boot_len (pa_cons (pv 4) pa_nil)))
      (pss_cons
      (ps_set (i := 6) sc_law.nd rfl (Or.inl rfl) (pe_makeN MK hr (by decide) (by rfl) (pa_cons (pe_callTy (call_list_ofK (K := K) rfl) (by rfl) T.z_list (by decide +kernel) (pa_cons (pv 2) pa_nil)) (pa_cons (pe_callTy (call_list_ofK (K := K) rfl) (by rfl) T.z_list (by decide +kernel) (pa_cons (pv 3) pa_nil)) (pa_cons (C8.pe_c C_law_flat hr (by decide) (by rfl) (pa_cons (pv 4) pa_nil)) pa_nil)))))
      (pss_cons
      (ps_set (i := 7) sc_law.nd rfl (Or.inl rfl) (C8.pe_c C_solve hr (by decide) (by rfl) (pa_cons (pv 6) pa_nil)))
      (pss_cons
      (ps_set (i := 8) sc_law.nd rfl (Or.inl rfl) (C8.pe_c C_solve hr (by decide) (by rfl) (pa_cons (pe_makeN MK hr (by decide) (by rfl) (pa_cons (pe_lc (own := [("owner", 14)]) (g := gName 14) (tt := tYes) rfl sc_law.nd (pi_list (pv 2)) (blkOk_by (N := N_law) (sc := defScope s_law) (by decide +kernel)) (fun _ _ _ _ _ => (pg_name (i := 14) sc_law.nd rfl (Or.inl rfl))) (fun _ _ _ _ _ => pts_nil) (fun _ _ _ _ _ => (pe_op op_sub pe_int (pv 14)))) (pa_cons (pe_lc (own := [("priority", 15)]) (g := gName 15) (tt := tYes) rfl sc_law.nd (pi_list (pv 3)) (blkOk_by (N := N_law) (sc := defScope s_law) (by decide +kernel)) (fun _ _ _ _ _ => (pg_name (i := 15) sc_law.nd rfl (Or.inl rfl))) (fun _ _ _ _ _ => pts_nil) (fun _ _ _ _ _ => (pe_op op_add (pv 15) pe_int))) (pa_cons (C8.pe_c C_law_flat hr (by decide) (by rfl) (pa_cons (pv 4) pa_nil)) pa_nil)))) pa_nil)))
      (pss_cons
      (ps_if (pt_cmpR (op_neDK (K := K) rfl hr.units) (pe_lc (own := [("winner", 16)]) (g := gName 16) (tt := tYes) rfl sc_law.nd (pi_tup (pe_fld (pv 7) rfl)) (blkOk_by (N := N_law) (sc := defScope s_law) (by decide +kernel)) (fun _ _ _ _ _ => (pg_name (i := 16) sc_law.nd rfl (Or.inl rfl))) (fun _ _ _ _ _ => pts_nil) (fun _ _ _ _ _ => (pe_op op_sub pe_int (pv 16)))) (pe_callTy (call_list_ofK (K := K) rfl) (by rfl) T.z_list (by decide +kernel) (pa_cons (pe_fld (pv 8) rfl) pa_nil)) (nomark _)) (pss_one
      (ps_ret pe_bl)) pss_nil)
      (pss_cons
      (ps_set (i := 9) sc_law.nd rfl (Or.inr rfl) (pe_op op_mul pe_int (pe_op op_add pe_int (C8.pe_c C_law_take hr (by decide) (by rfl) (pa_cons (pv 1) (pa_cons pe_int pa_nil))))))
      (pss_cons
      (ps_set (i := 10) sc_law.nd rfl (Or.inl rfl) (C8.pe_c C_solve hr (by decide) (by rfl) (pa_cons (pe_makeN MK hr (by decide) (by rfl) (pa_cons (pe_callTy (call_list_ofK (K := K) rfl) (by rfl) T.z_list (by decide +kernel) (pa_cons (pv 2) pa_nil)) (pa_cons (pe_lc (own := [("priority", 15)]) (g := gName 15) (tt := tYes) rfl sc_law.nd (pi_list (pv 3)) (blkOk_by (N := N_law) (sc := defScope s_law) (by decide +kernel)) (fun _ _ _ _ _ => (pg_name (i := 15) sc_law.nd rfl (Or.inl rfl))) (fun _ _ _ _ _ => pts_nil) (fun _ _ _ _ _ => (pe_op op_add (pv 15) (pv 9)))) (pa_cons (C8.pe_c C_law_flat hr (by decide) (by rfl) (pa_cons (pv 4) pa_nil)) pa_nil)))) pa_nil)))
      (pss_cons
      (ps_if (pt_cmpR (op_neDK (K := K) rfl hr.units) (pe_fld (pv 10) rfl) (pe_fld (pv 7) rfl) (nomark _)) (pss_one
      (ps_ret pe_bl)) pss_nil)
      (pss_cons
      (ps_set (i := 11) sc_law.nd rfl (Or.inl rfl) (pe_lst pa_nil))
      (pss_cons
      (ps_for PassesOwn.never rfl (pi_range1 (by rfl) T.z_range (pa_cons (pv 5) pa_nil)) (pg_name (i := 12) sc_law.nd rfl (.inl rfl)) (pss_one
      (ps_expr (pe_bm PySem.F.plainAttrs_list PySem.F.slot_list_append PySem.F.type_list_append mt_append (pv 11) (pa_cons (pe_callB (cr_sortedK (K := K) rfl) (by rfl) T.z_sorted (by decide +kernel) (pa_cons (pe_lc (own := [("target", 17)]) (g := gName 17) (tt := tYes) rfl sc_law.nd (pi_list (pe_ix (ix_listK (K := K) rfl) (pv 4) (pe_op op_sub (pe_op op_sub (pv 5) pe_int) (pv 12)) (fun _ _ => rfl))) (blkOk_by (N := N_law) (sc := defScope s_law) (by decide +kernel)) (fun _ _ _ _ _ => (pg_name (i := 17) sc_law.nd rfl (Or.inl rfl))) (fun _ _ _ _ _ => pts_nil) (fun _ _ _ _ _ => (pe_op op_sub (pe_op op_sub (pv 5) pe_int) (pv 17)))) pa_nil)) pa_nil)))))
      (pss_cons
      (ps_set (i := 13) sc_law.nd rfl (Or.inl rfl) (C8.pe_c C_solve hr (by decide) (by rfl) (pa_cons (pe_makeN MK hr (by decide) (by rfl) (pa_cons (pe_revLK (K := K) rfl (pe_callTy (call_list_ofK (K := K) rfl) (by rfl) T.z_list (by decide +kernel) (pa_cons (pv 2) pa_nil))) (pa_cons (pe_revLK (K := K) rfl (pe_callTy (call_list_ofK (K := K) rfl) (by rfl) T.z_list (by decide +kernel) (pa_cons (pv 3) pa_nil))) (pa_cons (pv 11) pa_nil)))) pa_nil)))
      (pss_cons
      (ps_if (pt_cmpR (op_neDK (K := K) rfl hr.units) (pe_revLK (K := K) rfl (pe_callTy (call_list_ofK (K := K) rfl) (by rfl) T.z_list (by decide +kernel) (pa_cons (pe_fld (pv 13) rfl) pa_nil))) (pe_callTy (call_list_ofK (K := K) rfl) (by rfl) T.z_list (by decide +kernel) (pa_cons (pe_fld (pv 7) rfl) pa_nil)) (nomark _)) (pss_one
      (ps_ret pe_bl)) pss_nil)
      (pss_cons
      (ps_for PassesOwn.never rfl (pi_range1 (by rfl) T.z_range (pa_cons (pv 5) pa_nil)) (pg_name (i := 12) sc_law.nd rfl (.inl rfl)) (pss_one
      (ps_if (pt_cmpR op_isnotB (pe_cN X_choices_win hr (by decide) (by rfl) (pa_cons (pv 6) (pa_cons (pe_ix (ix_tupK (K := K) rfl) (pe_fld (pv 7) rfl) (pv 12) (fun _ _ => rfl)) (pa_cons (pe_callTy (call_list_ofK (K := K) rfl) (by rfl) T.z_list (by decide +kernel) (pa_cons (pe_fld (pv 7) rfl) pa_nil)) (pa_cons (pv 12) pa_nil))))) pe_bl (nomark _)) (pss_one
      (ps_ret pe_bl)) pss_nil)))
      (pss_one
      (ps_ret pe_bl))))))))))))))))), ?_⟩
    refine ⟨_, rfl, sa, ns, 150, rfl, hS, by decide, fun H1 dr s1 hd0 d1 => ?_⟩
    refine ⟨_, rfl, dr, 7, rfl, d1, by decide, by decide, fun H2 t o p r as ow ps c k2 d2 et ho hp hL n1 n2 n3 n4 hV hc => ?_⟩
    refine ⟨t, _, rfl, .of et, rfl, _, _, rfl, _, _, rfl, _, _, rfl, rfl, ?_⟩
    clear k2 et d1 s1 hd0
    have hc7 : c.length ≤ 7 := by omega
    obtain ⟨gd, rfl, rfl, rfl, ok⟩ := gd_of hV (by omega)
    have hcl : (cZ gd.mv).length = gd.mv.length := List.length_map _
    rw [hcl] at hc7
    have hl2 : (as.map V.ref).length = gd.mv.length := by rw [List.length_map, hL.2.len, hcl]
    have lo := ok.lo
    have lp := ok.lp
    have hn1 := ok.n1
    have ho : H2 o = some (.lst (gd.ow.map VN)) := by rw [nt_int]; exact ho
    have hp : H2 p = some (.lst (gd.ps.map VN)) := by rw [nt_int]; exact hp
    refine ⟨_, rfl, r, _, rfl, .inl (.of hL.1), ?_⟩
    rw [hl2]
    -- the game
    refine ⟨_, rfl, o, _, rfl, .inl (.of ho), fun a1 na1 => ?_⟩
    generalize hX : upd H2 a1 _ = H3; obtain ⟨sH3, ea1⟩ := nw na1 hX; clear hX
    refine ⟨_, rfl, p, _, rfl, .inl (.of (sH3 _ _ hp)), fun a2 na2 => ?_⟩
    generalize hX : upd H3 a2 _ = H4; obtain ⟨sH4, ea2⟩ := nw na2 hX; clear hX
    have s4 := sH3.trans sH4
    refine ⟨_, rfl, r, as, cZ gd.mv, rfl, hL.same s4, by omega, fun H5 r2 as2 hcpy => ?_⟩
    obtain ⟨s5, hL5, _, _, _⟩ := hcpy
    refine fun x dx hx hdx hne => spInit_app ok hx hdx (s5 _ _ (sH4 _ _ ea1)) (s5 _ _ ea2) hL5 fun H7 s6 hG => ⟨rfl, ?_⟩
    have s7 := (s4.trans s5).trans s6
    clear hL5 hne hdx hx s6 s5 s4 ea1 ea2 na1 na2 sH3 sH4
    refine ⟨_, rfl, x, gd, gd.ps, rfl, hG, ok, fun _ h => h, by omega, fun H8 y ws cs s8 so wl cl FI hall => ?_⟩
    have s78 := s7.trans s8
    have d8 := d2.same s78
    have ho8 := s78 _ _ ho
    have hp8 := s78 _ _ hp
    have hL8 := hL.same s78
    have hG8 := hG.same s8
    clear ho hp hL d2 s8 s78 s7 hG
    -- the sides exchanged
    refine ⟨_, rfl, o, rfl, ⟨_, .of ho8⟩, fun D1 nD1 => lc_list (K := K) (a := o) (xs := gd.ow.map VN) (fun i H' => Same H8 H' ∧ H' D1 = some (.lst (((gd.ow.take i).map fun u => 1 - u).map VN))) ⟨same_new nD1, upd_same⟩ (fun i H' _ z => .of (z.1 _ _ ho8)) ?_ ?_⟩
    · rintro i v HA hi ⟨sA, eA⟩
      obtain ⟨u, hu, rfl⟩ := nats_get hi
      have hil := lt_of_get hu
      have u2 := ok.o2 u (List.mem_of_getElem? hu)
      refine ⟨rfl, _, rfl, _, _, rfl, rfl, _, eA, by rw [List.length_map, List.length_map, List.length_take]; exact Nat.lt_of_le_of_lt (show _ ≤ 1000 by omega) (by decide), fun b o e => by rw [upd_ne (ne_of_none e nD1)]; exact sA b o e, ?_⟩
      rw [upd_same, take_succ' hu, List.map_append, List.map_append]
      have e1 : V.int (1 - (u : Int)) = VN (1 - u) := congrArg V.int (by omega)
      show some (HO.lst (_ ++ [V.int (1 - (u : Int))])) = _
      rw [e1]
      rfl
    rintro HA ⟨sA, eA⟩
    rw [List.length_map, List.take_length] at eA
    refine ⟨_, rfl, p, rfl, ⟨_, .of (sA _ _ hp8)⟩, fun D2 nD2 => lc_list (K := K) (a := p) (xs := gd.ps.map VN) (fun i H' => Same HA H' ∧ H' D2 = some (.lst (((gd.ps.take i).map fun u => u + 1).map VN))) ⟨same_new nD2, upd_same⟩ (fun i H' _ z => .of (z.1 _ _ (sA _ _ hp8))) ?_ ?_⟩
    · rintro i v HB hi ⟨sB, eB⟩
      obtain ⟨u, hu, rfl⟩ := nats_get hi
      have hil := lt_of_get hu
      refine ⟨rfl, _, rfl, _, _, rfl, rfl, _, eB, by rw [List.length_map, List.length_map, List.length_take]; exact Nat.lt_of_le_of_lt (show _ ≤ 1000 by omega) (by decide), fun b o e => by rw [upd_ne (ne_of_none e nD2)]; exact sB b o e, ?_⟩
      rw [upd_same, take_succ' hu, List.map_append, List.map_append]
      rfl
    rintro HB ⟨sB, eB⟩
    rw [List.length_map, List.take_length] at eB
    have s8B := sA.trans sB
    refine ⟨_, rfl, r, as, cZ gd.mv, rfl, hL8.same s8B, by omega, fun HC r2 as2 hcpy => ?_⟩
    obtain ⟨sC, hLC, _, _, _⟩ := hcpy
    refine fun xT dx hx hdx hne => spInit_app (gdT_ok ok) hx hdx (sC _ _ (sB _ _ eA)) (sC _ _ eB) hLC fun HD sD hGT => ⟨rfl, ?_⟩
    refine ⟨xT, gdT gd, (gdT gd).ps, rfl, hGT, gdT_ok ok, fun _ h => h, by have : (gdT gd).ps.length = gd.ps.length := List.length_map _; omega, fun HE yU wsT csT sE soT wlT clT FIT hallT => ?_⟩
    have s8E := ((s8B.trans sC).trans sD).trans sE
    have hwT := winT ok wl wlT FI FIT hall hallT
    clear hLC hne hdx hx eA eB sA sB sC sD sE s8B hGT nD1 nD2
    obtain ⟨sx, wt, ct, y1, y2, y3⟩ := so
    obtain ⟨sxT, wtT, ctT, z1, z2, z3⟩ := soT
    have y1E := s8E _ _ y1
    have y2E := s8E _ _ y2
    refine ⟨_, rfl, y, cS, sx, _, _, rfl, y1E, PS.cl, PS.nw, slf_w _ _, wt, rfl, ⟨_, .of y2E⟩, fun D nD => lc_tup (K := K) (a := wt) (xs := ws.map V.int) (fun i H' => Same HE H' ∧ H' D = some (.lst (((ws.take i).map fun z => 1 - z).map V.int))) ⟨same_new nD, upd_same⟩ (fun i H' _ z => .of (z.1 _ _ y2E)) ?_ ?_⟩
    · rintro i v HF hi ⟨sF, eF⟩
      obtain ⟨z, hz, rfl⟩ := ints_get hi
      have hil := lt_of_get hz
      refine ⟨rfl, _, rfl, _, _, rfl, rfl, _, eF, by rw [List.length_map, List.length_map, List.length_take]; exact Nat.lt_of_le_of_lt (show _ ≤ 1000 by omega) (by decide), fun b o e => by rw [upd_ne (ne_of_none e nD)]; exact sF b o e, ?_⟩
      rw [upd_same, take_get hz, List.map_append, List.map_append]
      rfl
    rintro HF ⟨sF, eF⟩
    rw [List.length_map, List.take_length, hwT] at eF
    have s8F := s8E.trans sF
    refine ⟨_, rfl, yU, cS, sxT, _, _, rfl, sF _ _ z1, PS.cl, PS.nw, slf_w _ _, wtT, _, rfl, .inr (.of (sF _ _ z2)), fun Lw nLw => ?_⟩
    generalize hX : upd HF Lw _ = HG; obtain ⟨sHG, eLw⟩ := nw nLw hX; clear hX
    have s8G := s8F.trans sHG
    refine ⟨_, _, dp_lst (sHG _ _ eF), dp_lst eLw, shaped_lst _, shaped_lst _, _, rfl, iteB_f (by rw [eqv_lst, decide_eq_true rfl]; rfl) ?_⟩
    -- an even number
    refine ⟨_, rfl, dr, 50, rfl, d8.same s8G, by decide, fun ev us ev0 ev1 => ?_⟩
    obtain ⟨en, rfl⟩ : ∃ n : Nat, ev = (n : Int) := ⟨ev.toNat, by omega⟩
    have kH : Kp dr H8 (upd HG dr (.lst (us.map V.int))) := (Same.kp s8G).trans Kp.own
    generalize upd HG dr (.lst (us.map V.int)) = HH at kH ⊢
    refine ⟨_, _, rfl, rfl, _, _, rfl, rfl, .inl ⟨by decide, by decide⟩, ?_⟩
    have ee : V.int (2 * (1 + (en : Int))) = VN (2 * (1 + en)) := congrArg V.int (by omega)
    show gName 9 (V.int (2 * (1 + (en : Int)))) _ _ _
    rw [ee]
    clear ee eF eLw nLw nD sF sHG s8F s8G s8E y1E y2E z1 z2 z3 FIT hallT hwT
    obtain ⟨d0, ed0⟩ := id d8
    have hG9 := gmN_kp d8 kH hG8
    have ho9 := kH _ _ n1 ho8
    have hp9 := kH _ _ n2 hp8
    have hL9 : LL HH r as (cZ gd.mv) := ⟨kH _ _ n3 hL8.1, RowsA.keep (fun b o hb hx => kH _ _ (n4 b hb) hx) hL8.2⟩
    have y19 := kH _ _ (fun z => by rw [z, ed0] at y1; cases y1) y1
    have y29 := kH _ _ (fun z => by rw [z, ed0] at y2; cases y2) y2
    have y39 := kH _ _ (fun z => by rw [z, ed0] at y3; cases y3) y3
    clear kH hG8 ho8 hp8 hL8 y1 y2 y3 ed0 d8 n1 n2 n3 n4
    -- all priorities raised
    refine ⟨_, rfl, o, _, rfl, .inl (.of ho9), fun a1 na1 => ?_⟩
    generalize hX : upd HH a1 _ = HI; obtain ⟨sHI, ea1⟩ := nw na1 hX; clear hX
    refine ⟨_, rfl, p, rfl, ⟨_, .of (sHI _ _ hp9)⟩, fun D2 nD2 => lc_list (K := K) (a := p) (xs := gd.ps.map VN) (fun i H' => Same HI H' ∧ H' D2 = some (.lst (((gd.ps.take i).map fun u => u + 2 * (1 + en)).map VN))) ⟨same_new nD2, upd_same⟩ (fun i H' _ z => .of (z.1 _ _ (sHI _ _ hp9))) ?_ ?_⟩
    · rintro i v HB hi ⟨sB, eB⟩
      obtain ⟨u, hu, rfl⟩ := nats_get hi
      have hil := lt_of_get hu
      refine ⟨rfl, _, rfl, _, rfl, _, _, rfl, rfl, _, eB, by rw [List.length_map, List.length_map, List.length_take]; exact Nat.lt_of_le_of_lt (show _ ≤ 1000 by omega) (by decide), fun b o e => by rw [upd_ne (ne_of_none e nD2)]; exact sB b o e, ?_⟩
      rw [upd_same, take_succ' hu, List.map_append, List.map_append]
      rfl
    rintro HB ⟨sB, eB⟩
    rw [List.length_map, List.take_length] at eB
    have s9B := sHI.trans sB
    refine ⟨_, rfl, r, as, cZ gd.mv, rfl, hL9.same s9B, by omega, fun HC r2 as2 hcpy => ?_⟩
    obtain ⟨sC, hLC, _, _, _⟩ := hcpy
    refine fun xT dx hx hdx hne => spInit_app (gdR_ok ok) hx hdx (sC _ _ (sB _ _ ea1)) (sC _ _ eB) hLC fun HD sD hGT => ⟨rfl, ?_⟩
    refine ⟨xT, gdR gd (2 * (1 + en)), (gdR gd (2 * (1 + en))).ps, rfl, hGT, gdR_ok ok, fun _ h => h, by have : (gdR gd (2 * (1 + en))).ps.length = gd.ps.length := List.length_map _; omega, fun HE yT wsT csT sE soT wlT clT FIT hallT => ?_⟩
    have s9E := ((s9B.trans sC).trans sD).trans sE
    have hwT := winR (by omega) ok wl wlT FI FIT hall hallT
    clear hLC hne hdx hx ea1 na1 eB sHI sB sC sD sE s9B hGT nD2
    obtain ⟨sxT, wtT, ctT, z1, z2, z3⟩ := soT
    refine ⟨_, rfl, yT, cS, sxT, _, _, rfl, z1, PS.cl, PS.nw, slf_w _ _, _, rfl, y, cS, sx, _, _, rfl, s9E _ _ y19, PS.cl, PS.nw, slf_w _ _, _, _, dp_tup z2, dp_tup (s9E _ _ y29), shaped_tup _, shaped_tup _, _, rfl, iteB_f (by rw [eqv_tup, decide_eq_true hwT]; rfl) ?_⟩
    have hget : ∀ k, k < gd.mv.length → ∃ b, as[k]? = some b ∧ HH b = some (.lst ((Gr.row gd.mv k).map VN)) := fun k hk => by
      obtain ⟨b, hb⟩ : ∃ b, as[k]? = some b := ⟨_, List.getElem?_eq_getElem (by rw [List.length_map] at hl2; omega)⟩
      obtain ⟨row, h1, h2⟩ := hL9.2.get hb
      have := cZ_row gd.mv k
      rw [List.getD_eq_getElem?_getD, h1] at this
      have this : row = zL (Gr.row gd.mv k) := this
      exact ⟨b, hb, by rw [h2, this, nt_int]; rfl⟩
    have hrow : ∀ i, (Gr.row gd.mv i).length ≤ 7 := fun i => Nat.le_trans (nd_len (ok.nd i) (ok.rg i)) hc7
    clear z1 z2 z3 FIT hallT hwT
    -- the places counted from the end
    refine ⟨Nat.zero_le _, fun Bk nBk => ?_⟩
    have nBk9 := s9E.free nBk
    generalize hX : upd HE Bk _ = HF; obtain ⟨sHF, eBk⟩ := nw nBk hX; clear hX
    have s9F := s9E.trans sHF
    refine ⟨_, rfl, _, rfl, by omega, by omega, ?_⟩
    rw [Int.toNat_natCast]
    refine for_range (lo := 0) (n := gd.mv.length) (fun i σ H' => ∃ (v12 : Option V) (bs : List Addr) (c : List (List Int)), σ = [some (.ref sa), some (.ref dr), some (.ref o), some (.ref p), some (.ref r), some (VN gd.mv.length), some (.ref x), some (.ref y), some (.ref yU), some (VN (2 * (1 + en))), some (.ref yT), some (.ref Bk), v12, none, none, none, none, none] ∧ Same HH H' ∧ LL H' Bk bs c ∧ Bk ∉ bs ∧ c.length = i ∧ ∀ (j : Nat) (row : List Int), c[j]? = some row → row.Perm ((Gr.row gd.mv (gd.mv.length - 1 - j)).map fun t : Nat => (gd.mv.length : Int) - 1 - (t : Int)) ∧ row.Pairwise (· ≤ ·)) ⟨none, [], [], rfl, s9F, ⟨eBk, True.intro⟩, by simp, rfl, fun j row h => by (cases h)⟩ ?_ ?_
    · rintro i σ HG hi ⟨v12, bs, c, rfl, sG, hLB, nBb, cll, hrows⟩
      rw [Int.zero_add]
      have him : gd.mv.length - 1 - i < gd.mv.length := by omega
      obtain ⟨b, hb, eb⟩ := hget _ him
      have hbl : bs.length = c.length := hLB.2.len
      refine ⟨_, rfl, .inl ⟨rfl, _, .of hLB.1⟩, _, rfl, _, rfl, _, _, rfl, rfl, _, rfl, _, _, rfl, rfl, r, _, _, .ref b, rfl, rfl, .of (sG _ _ hL9.1), by rw [show ((gd.mv.length : Int) - 1 - (i : Int)) = ((gd.mv.length - 1 - i : Nat) : Int) by omega]; exact atN hb, b, rfl, ⟨_, .of (sG _ _ eb)⟩, fun D nD => ?_⟩
      have hr7 := hrow (gd.mv.length - 1 - i)
      refine lc_list (K := K) (a := b) (xs := (Gr.row gd.mv (gd.mv.length - 1 - i)).map VN) (fun j H' => Same HG H' ∧ H' D = some (.lst ((((Gr.row gd.mv (gd.mv.length - 1 - i)).take j).map fun t : Nat => (gd.mv.length : Int) - 1 - (t : Int)).map V.int))) ⟨same_new nD, upd_same⟩ (fun j H' _ z => .of (z.1 _ _ (sG _ _ eb))) ?_ ?_
      · rintro j v HK hj ⟨sK, eK⟩
        obtain ⟨u, hu, rfl⟩ := nats_get hj
        refine ⟨rfl, _, rfl, _, _, rfl, rfl, _, rfl, _, _, rfl, rfl, _, eK, by rw [List.length_map, List.length_map, List.length_take]; exact Nat.lt_of_le_of_lt (show _ ≤ 1000 by omega) (by decide), fun b o e => by rw [upd_ne (ne_of_none e nD)]; exact sK b o e, ?_⟩
        rw [upd_same, take_succ' hu, List.map_append, List.map_append]
        rfl
      rintro HK ⟨sK, eK⟩
      rw [List.length_map, List.take_length] at eK
      refine ⟨D, _, rfl, .of eK, by rw [List.length_map]; omega, fun ns' pS hperm hsort npS => ?_⟩
      have npB : pS ≠ Bk := fun z => by have := sK _ _ hLB.1; rw [← z, npS] at this; cases this
      generalize hX : upd HK pS _ = HM; obtain ⟨sHM, epS⟩ := nw npS hX; clear hX
      have sGM := sK.trans sHM
      have hLM := hLB.same sGM
      refine ⟨Bk, _, _, rfl, rfl, hLM.1, by rw [List.length_map]; exact Nat.lt_of_le_of_lt (show bs.length ≤ 1000 by omega) (by decide), ?_⟩
      refine ⟨_, bs ++ [pS], c ++ [ns'], rfl, fun b' o' e => by rw [upd_ne (ne_of_none e nBk9)]; exact (sG.trans sGM) _ _ e, ⟨by rw [upd_same, List.map_append]; rfl, RowsA.snoc (by rw [upd_ne npB]; exact epS) (RowsA.keep (fun b' o' hb' h => by rw [upd_ne (fun z => nBb (by rw [← z]; exact hb'))]; exact h) hLM.2)⟩, ?_, by rw [List.length_append, cll]; rfl, fun j row hj => ?_⟩
      · rw [List.mem_append, List.mem_singleton]
        exact fun z => z.elim nBb fun z => npB z.symm
      · rcases snocg hj with ⟨_, k⟩ | ⟨k1, k2⟩
        · exact hrows j row k
        · rw [k1, k2, cll]
          exact ⟨hperm, hsort⟩
    rintro σ HG ⟨v12, bs, c, rfl, sG, hLB, nBb, cll, hrows⟩
    obtain ⟨okB', hmB⟩ := back_ok ok cll hrows
    obtain ⟨dB, eo, ep, rfl, okB⟩ := gd_of okB' (by omega)
    have eo := zL_inj eo
    have ep := zL_inj ep
    have hBn : dB.mv.length = gd.mv.length := by rw [← cll]; exact (List.length_map _).symm
    have ho10 := sG _ _ ho9
    refine ⟨_, rfl, o, _, rfl, .inl (.of ho10), fun a1 na1 => ?_⟩
    generalize hX : upd HG a1 _ = HM; obtain ⟨sHM, ea1⟩ := nw na1 hX; clear hX
    refine ⟨a1, _, rfl, .of ea1, fun q1 nq1 => ?_⟩
    generalize hX : upd HM q1 _ = HN; obtain ⟨sHN, eq1⟩ := nw nq1 hX; clear hX
    have s10N := sHM.trans sHN
    refine ⟨_, rfl, p, _, rfl, .inl (.of (s10N _ _ (sG _ _ hp9))), fun a2 na2 => ?_⟩
    generalize hX : upd HN a2 _ = HO; obtain ⟨sHO, ea2⟩ := nw na2 hX; clear hX
    refine ⟨a2, _, rfl, .of ea2, fun q2 nq2 => ?_⟩
    generalize hX : upd HO q2 _ = HP; obtain ⟨sHP, eq2⟩ := nw nq2 hX; clear hX
    have sNP := sHO.trans sHP
    have s10P := s10N.trans sNP
    refine ⟨_, rfl, ?_⟩
    refine fun xB dx hx hdx hne => spInit_app okB hx hdx (by rw [sNP _ _ eq1, ← eo, List.map_reverse]) (by rw [eq2, ← ep, List.map_reverse]) (hLB.same s10P) fun HQ sQ hGB => ⟨rfl, ?_⟩
    refine ⟨xB, dB, dB.ps, rfl, hGB, okB, fun _ h => h, by rw [← ep, List.length_reverse]; omega, fun HR yB wsB csB sR soB wlB clB FIB hallB => ?_⟩
    rw [hBn] at wlB clB hallB
    have s9R := ((sG.trans s10P).trans sQ).trans sR
    have hwB := winB ok okB hBn eo.symm ep.symm (fun p hp q hq => (hmB dB rfl p hp q hq)) wl wlB FI FIB hall hallB
    clear hx hdx hne sQ sR hGB sNP s10P s10N eq1 eq2 ea1 ea2 na1 na2 nq1 nq2 sHM sHN sHO sHP
    obtain ⟨sxB, wtB, ctB, z1, z2, z3⟩ := soB
    refine ⟨_, rfl, yB, cS, sxB, _, _, rfl, z1, PS.cl, PS.nw, slf_w _ _, wtB, _, rfl, .inr (.of z2), fun L1 nL1 => ?_⟩
    generalize hX : upd HR L1 _ = HM; obtain ⟨sHM, eL1⟩ := nw nL1 hX; clear hX
    refine ⟨L1, _, rfl, .of eL1, fun Lq nLq => ?_⟩
    generalize hX : upd HM Lq _ = HN; obtain ⟨sHN, eLq⟩ := nw nLq hX; clear hX
    have sRN := sHM.trans sHN
    have s9N := s9R.trans sRN
    refine ⟨_, rfl, y, cS, sx, _, _, rfl, s9N _ _ y19, PS.cl, PS.nw, slf_w _ _, wt, _, rfl, .inr (.of (s9N _ _ y29)), fun L3 nL3 => ?_⟩
    generalize hX : upd HN L3 _ = HO; obtain ⟨sHO, eL3⟩ := nw nL3 hX; clear hX
    refine ⟨_, _, dp_lst (xs := wsB.reverse) (by rw [sHO _ _ eLq, List.map_reverse]), dp_lst eL3, shaped_lst _, shaped_lst _, _, rfl, iteB_f (by rw [eqv_lst, decide_eq_true hwB]; rfl) ?_⟩
    have s9O := s9N.trans sHO
    clear nL1 nLq nL3 eL1 eLq eL3 sHM sHN sHO sRN s9N s9R z1 z2 z3
    have hcv : ∀ (k : Nat) (z : Int), cs[k]? = some z → z < (gd.mv.length : Int) := fun k z hz => by
      have hk : k < gd.mv.length := by rw [← cl]; exact lt_of_get hz
      have hzz : cs.getD k (-1) = z := by rw [List.getD_eq_getElem?_getD, hz]; rfl
      obtain ⟨a, e⟩ : ∃ a : Nat, ws.getD k (-1) = (a : Int) := by
        have h1 := FI.wv k hk
        have h2 := hall k hk
        have h1 : ws.getD k (-1) = -1 ∨ ws.getD k (-1) = 0 ∨ ws.getD k (-1) = 1 := h1
        exact ⟨(ws.getD k (-1)).toNat, by omega⟩
      by_cases o : gd.ow.getD k 0 = a
      · obtain ⟨q', q1, q2, _⟩ := (FI.f1 k hk a e).1 o
        have q1 : cs.getD k (-1) = (q' : Int) := q1
        have := ok.rg k q' q2
        omega
      · have h := FI.c1 k hk
        have h : ws.getD k (-1) ≠ (gd.ow.getD k 0 : Int) → cs.getD k (-1) = -1 := h
        have := h (by omega)
        omega
    -- the choices win
    refine ⟨_, rfl, _, rfl, by omega, by omega, ?_⟩
    rw [Int.toNat_natCast]
    refine for_range (lo := 0) (n := gd.mv.length) (fun i σ H' => ∃ v12 : Option V, σ = [some (.ref sa), some (.ref dr), some (.ref o), some (.ref p), some (.ref r), some (VN gd.mv.length), some (.ref x), some (.ref y), some (.ref yU), some (VN (2 * (1 + en))), some (.ref yT), some (.ref Bk), v12, some (.ref yB), none, none, none, none] ∧ Same HH H') ⟨_, rfl, s9O⟩ ?_ ?_
    · rintro i σ HA hi ⟨v12, rfl, sA⟩
      rw [Int.zero_add]
      obtain ⟨a, ha⟩ : ∃ a : Nat, ws.getD i (-1) = (a : Int) := by
        have h1 := FI.wv i hi
        have h2 := hall i hi
        have h1 : ws.getD i (-1) = -1 ∨ ws.getD i (-1) = 0 ∨ ws.getD i (-1) = 1 := h1
        exact ⟨(ws.getD i (-1)).toNat, by omega⟩
      have hwi : ws[i]? = some (a : Int) := by rw [getD_i (by rw [wl]; exact hi), ha]
      refine ⟨_, rfl, _, rfl, y, cS, sx, _, _, rfl, sA _ _ y19, PS.cl, PS.nw, slf_w _ _, _, rfl, wt, _, _, V.int (a : Int), rfl, rfl, .of (sA _ _ y29), atN hwi, _, rfl, y, cS, sx, _, _, rfl, sA _ _ y19, PS.cl, PS.nc, slf_c _ _, ct, _, rfl, .inr (.of (sA _ _ y39)), fun Lc nLc => ?_⟩
      generalize hX : upd HA Lc _ = HB; obtain ⟨sHB, eLc⟩ := nw nLc hX; clear hX
      refine ⟨_, rfl, x, Lc, (a : Int), (i : Int), zL gd.ow, zL gd.ps, cs, cZ gd.mv, rfl, gmAt_of ((hG9.same sA).same sHB), hV, by omega, eLc, by rw [hcl]; exact cl, fun k z hz => by rw [hcl]; exact hcv k z hz, fun z => absurd ⟨by omega, by omega⟩ z, fun _ _ HC b sC hb => ?_⟩
      rw [Int.toNat_natCast] at hb
      rw [hb.mpr (win_of_FI ok cl FI hi ha)]
      exact ⟨true, true, rfl, rfl, _, rfl, iteB_f rfl ⟨_, rfl, (sA.trans sHB).trans sC⟩⟩
    rintro σ HA ⟨v12, rfl, sA⟩
    exact q _
end

theorem all_mk {l : PySem.W.OpenLaw} {w : World} {K : PySem.W.Frag} {h : Heap} {mg : Str → Option Value} {fa : Addr} {f0 f1 f2 f3 f4 f5 f6 f7 f8 f9 f10 f11 f12 f13 f14 f15 f16 f17 f18 f19 cI cL C fI cR fRI fR0 fR1 fR2 fR3 fR4 fR5 fR6 fR7 cF fFI fF0 cS fSI : Addr} (X : K.In h) (G : h.Ns mainGlobals mg) (hfa : mg "law" = some (.ref fa))
    {od0 an0 od1 an1 od2 an2 od3 an3 od4 an4 od5 an5 od6 an6 od7 an7 od8 an8 od9 an9 od10 an10 od11 an11 od12 an12 od13 an13 od14 an14 od15 an15 od16 an16 od17 an17 od18 an18 od19 an19 : Option Addr} {sl0 sl1 sl2 sl3 sl4 sl5 sl6 sl7 sl8 sl9 sl10 sl11 sl12 sl13 sl14 sl15 sl16 sl17 sl18 sl19 : Array (Option Value)} {oc0 kV0 dc0 pm0 cd0 ct0 oc1 kV1 dc1 pm1 cd1 ct1 oc2 kV2 dc2 pm2 cd2 ct2 oc3 kV3 dc3 pm3 cd3 ct3 oc4 kV4 dc4 pm4 cd4 ct4 oc5 kV5 dc5 pm5 cd5 ct5 oc6 kV6 dc6 pm6 cd6 ct6 oc7 kV7 dc7 pm7 cd7 ct7 oc8 kV8 dc8 pm8 cd8 ct8 oc9 kV9 dc9 pm9 cd9 ct9 oc10 kV10 dc10 pm10 cd10 ct10 oc11 kV11 dc11 pm11 cd11 ct11 oc12 kV12 dc12 pm12 cd12 ct12 oc13 kV13 dc13 pm13 cd13 ct13 oc14 kV14 dc14 pm14 cd14 ct14 oc15 kV15 dc15 pm15 cd15 ct15 oc16 kV16 dc16 pm16 cd16 ct16 oc17 kV17 dc17 pm17 cd17 ct17 oc18 kV18 dc18 pm18 cd18 ct18 oc19 kV19 dc19 pm19 cd19 ct19 : Value} {odI anI : Option Addr} {slI : Array (Option Value)} {ocI kVI dcI pmI cdI ctI : Value} {odRI anRI : Option Addr} {slRI : Array (Option Value)} {ocRI kVRI dcRI pmRI cdRI ctRI : Value} {odR0 anR0 : Option Addr} {slR0 : Array (Option Value)} {ocR0 kVR0 dcR0 pmR0 cdR0 ctR0 : Value} {odR1 anR1 : Option Addr} {slR1 : Array (Option Value)} {ocR1 kVR1 dcR1 pmR1 cdR1 ctR1 : Value} {odR2 anR2 : Option Addr} {slR2 : Array (Option Value)} {ocR2 kVR2 dcR2 pmR2 cdR2 ctR2 : Value} {odR3 anR3 : Option Addr} {slR3 : Array (Option Value)} {ocR3 kVR3 dcR3 pmR3 cdR3 ctR3 : Value} {odR4 anR4 : Option Addr} {slR4 : Array (Option Value)} {ocR4 kVR4 dcR4 pmR4 cdR4 ctR4 : Value} {odR5 anR5 : Option Addr} {slR5 : Array (Option Value)} {ocR5 kVR5 dcR5 pmR5 cdR5 ctR5 : Value} {odR6 anR6 : Option Addr} {slR6 : Array (Option Value)} {ocR6 kVR6 dcR6 pmR6 cdR6 ctR6 : Value} {odR7 anR7 : Option Addr} {slR7 : Array (Option Value)} {ocR7 kVR7 dcR7 pmR7 cdR7 ctR7 : Value} {odFI anFI : Option Addr} {slFI : Array (Option Value)} {ocFI kVFI dcFI pmFI cdFI ctFI : Value} {odF0 anF0 : Option Addr} {slF0 : Array (Option Value)} {ocF0 kVF0 dcF0 pmF0 cdF0 ctF0 : Value} {odSI anSI : Option Addr} {slSI : Array (Option Value)} {ocSI kVSI dcSI pmSI cdSI ctSI : Value} 
    (a0 : PySem.W.nsIn K mainGlobals "reachable" = some (some (.ref f0))) (l0 : K.lookup f0 = some ⟨oc0, od0, .func (PySem.W.fnOf "reachable" "reachable" (defArgs s_reachable) (defBody s_reachable) (defScope s_reachable) .none kV0 dc0 pm0 an0 cd0 ct0), sl0⟩) (c0 : PySem.W.codeIn K cd0 "reachable" = true) (k0 : PySem.W.keepIn K (.ref f0) = true)
    (a1 : PySem.W.nsIn K mainGlobals "reversed_graph" = some (some (.ref f1))) (l1 : K.lookup f1 = some ⟨oc1, od1, .func (PySem.W.fnOf "reversed_graph" "reversed_graph" (defArgs s_reversed_graph) (defBody s_reversed_graph) (defScope s_reversed_graph) .none kV1 dc1 pm1 an1 cd1 ct1), sl1⟩) (c1 : PySem.W.codeIn K cd1 "reversed_graph" = true) (k1 : PySem.W.keepIn K (.ref f1) = true)
    (a2 : PySem.W.nsIn K mainGlobals "finishing_order" = some (some (.ref f2))) (l2 : K.lookup f2 = some ⟨oc2, od2, .func (PySem.W.fnOf "finishing_order" "finishing_order" (defArgs s_finishing_order) (defBody s_finishing_order) (defScope s_finishing_order) .none kV2 dc2 pm2 an2 cd2 ct2), sl2⟩) (c2 : PySem.W.codeIn K cd2 "finishing_order" = true) (k2 : PySem.W.keepIn K (.ref f2) = true)
    (a3 : PySem.W.nsIn K mainGlobals "components" = some (some (.ref f3))) (l3 : K.lookup f3 = some ⟨oc3, od3, .func (PySem.W.fnOf "components" "components" (defArgs s_components) (defBody s_components) (defScope s_components) .none kV3 dc3 pm3 an3 cd3 ct3), sl3⟩) (c3 : PySem.W.codeIn K cd3 "components" = true) (k3 : PySem.W.keepIn K (.ref f3) = true)
    (a4 : PySem.W.nsIn K mainGlobals "part_of" = some (some (.ref f4))) (l4 : K.lookup f4 = some ⟨oc4, od4, .func (PySem.W.fnOf "part_of" "part_of" (defArgs s_part_of) (defBody s_part_of) (defScope s_part_of) .none kV4 dc4 pm4 an4 cd4 ct4), sl4⟩) (c4 : PySem.W.codeIn K cd4 "part_of" = true) (k4 : PySem.W.keepIn K (.ref f4) = true)
    (a5 : PySem.W.nsIn K mainGlobals "component_lists" = some (some (.ref f5))) (l5 : K.lookup f5 = some ⟨oc5, od5, .func (PySem.W.fnOf "component_lists" "component_lists" (defArgs s_component_lists) (defBody s_component_lists) (defScope s_component_lists) .none kV5 dc5 pm5 an5 cd5 ct5), sl5⟩) (c5 : PySem.W.codeIn K cd5 "component_lists" = true) (k5 : PySem.W.keepIn K (.ref f5) = true)
    (a6 : PySem.W.nsIn K mainGlobals "check_moves" = some (some (.ref f6))) (l6 : K.lookup f6 = some ⟨oc6, od6, .func (PySem.W.fnOf "check_moves" "check_moves" (defArgs s_check_moves) (defBody s_check_moves) (defScope s_check_moves) .none kV6 dc6 pm6 an6 cd6 ct6), sl6⟩) (c6 : PySem.W.codeIn K cd6 "check_moves" = true) (k6 : PySem.W.keepIn K (.ref f6) = true)
    (a7 : PySem.W.nsIn K mainGlobals "check_position" = some (some (.ref f7))) (l7 : K.lookup f7 = some ⟨oc7, od7, .func (PySem.W.fnOf "check_position" "check_position" (defArgs s_check_position) (defBody s_check_position) (defScope s_check_position) .none kV7 dc7 pm7 an7 cd7 ct7), sl7⟩) (c7 : PySem.W.codeIn K cd7 "check_position" = true) (k7 : PySem.W.keepIn K (.ref f7) = true)
    (a8 : PySem.W.nsIn K mainGlobals "choices_win" = some (some (.ref f8))) (l8 : K.lookup f8 = some ⟨oc8, od8, .func (PySem.W.fnOf "choices_win" "choices_win" (defArgs s_choices_win) (defBody s_choices_win) (defScope s_choices_win) .none kV8 dc8 pm8 an8 cd8 ct8), sl8⟩) (c8 : PySem.W.codeIn K cd8 "choices_win" = true) (k8 : PySem.W.keepIn K (.ref f8) = true)
    (a9 : PySem.W.nsIn K mainGlobals "winning_group" = some (some (.ref f9))) (l9 : K.lookup f9 = some ⟨oc9, od9, .func (PySem.W.fnOf "winning_group" "winning_group" (defArgs s_winning_group) (defBody s_winning_group) (defScope s_winning_group) .none kV9 dc9 pm9 an9 cd9 ct9), sl9⟩) (c9 : PySem.W.codeIn K cd9 "winning_group" = true) (k9 : PySem.W.keepIn K (.ref f9) = true)
    (a10 : PySem.W.nsIn K mainGlobals "ranked" = some (some (.ref f10))) (l10 : K.lookup f10 = some ⟨oc10, od10, .func (PySem.W.fnOf "ranked" "ranked" (defArgs s_ranked) (defBody s_ranked) (defScope s_ranked) .none kV10 dc10 pm10 an10 cd10 ct10), sl10⟩) (c10 : PySem.W.codeIn K cd10 "ranked" = true) (k10 : PySem.W.keepIn K (.ref f10) = true)
    (a11 : PySem.W.nsIn K mainGlobals "won_part" = some (some (.ref f11))) (l11 : K.lookup f11 = some ⟨oc11, od11, .func (PySem.W.fnOf "won_part" "won_part" (defArgs s_won_part) (defBody s_won_part) (defScope s_won_part) .none kV11 dc11 pm11 an11 cd11 ct11), sl11⟩) (c11 : PySem.W.codeIn K cd11 "won_part" = true) (k11 : PySem.W.keepIn K (.ref f11) = true)
    (a12 : PySem.W.nsIn K mainGlobals "solve" = some (some (.ref f12))) (l12 : K.lookup f12 = some ⟨oc12, od12, .func (PySem.W.fnOf "solve" "solve" (defArgs s_solve) (defBody s_solve) (defScope s_solve) .none kV12 dc12 pm12 an12 cd12 ct12), sl12⟩) (c12 : PySem.W.codeIn K cd12 "solve" = true) (k12 : PySem.W.keepIn K (.ref f12) = true)
    (a13 : PySem.W.nsIn K mainGlobals "solve_part" = some (some (.ref f13))) (l13 : K.lookup f13 = some ⟨oc13, od13, .func (PySem.W.fnOf "solve_part" "solve_part" (defArgs s_solve_part) (defBody s_solve_part) (defScope s_solve_part) .none kV13 dc13 pm13 an13 cd13 ct13), sl13⟩) (c13 : PySem.W.codeIn K cd13 "solve_part" = true) (k13 : PySem.W.keepIn K (.ref f13) = true)
    (a14 : PySem.W.nsIn K mainGlobals "_law_draws" = some (some (.ref f14))) (l14 : K.lookup f14 = some ⟨oc14, od14, .func (PySem.W.fnOf "_law_draws" "_law_draws" (defArgs s_law_draws) (defBody s_law_draws) (defScope s_law_draws) .none kV14 dc14 pm14 an14 cd14 ct14), sl14⟩) (c14 : PySem.W.codeIn K cd14 "_law_draws" = true) (k14 : PySem.W.keepIn K (.ref f14) = true)
    (a15 : PySem.W.nsIn K mainGlobals "_law_take" = some (some (.ref f15))) (l15 : K.lookup f15 = some ⟨oc15, od15, .func (PySem.W.fnOf "_law_take" "_law_take" (defArgs s_law_take) (defBody s_law_take) (defScope s_law_take) .none kV15 dc15 pm15 an15 cd15 ct15), sl15⟩) (c15 : PySem.W.codeIn K cd15 "_law_take" = true) (k15 : PySem.W.keepIn K (.ref f15) = true)
    (a16 : PySem.W.nsIn K mainGlobals "_law_ascending" = some (some (.ref f16))) (l16 : K.lookup f16 = some ⟨oc16, od16, .func (PySem.W.fnOf "_law_ascending" "_law_ascending" (defArgs s_law_ascending) (defBody s_law_ascending) (defScope s_law_ascending) .none kV16 dc16 pm16 an16 cd16 ct16), sl16⟩) (c16 : PySem.W.codeIn K cd16 "_law_ascending" = true) (k16 : PySem.W.keepIn K (.ref f16) = true)
    (a17 : PySem.W.nsIn K mainGlobals "_law_flat" = some (some (.ref f17))) (l17 : K.lookup f17 = some ⟨oc17, od17, .func (PySem.W.fnOf "_law_flat" "_law_flat" (defArgs s_law_flat) (defBody s_law_flat) (defScope s_law_flat) .none kV17 dc17 pm17 an17 cd17 ct17), sl17⟩) (c17 : PySem.W.codeIn K cd17 "_law_flat" = true) (k17 : PySem.W.keepIn K (.ref f17) = true)
    (a18 : PySem.W.nsIn K mainGlobals "_law_game" = some (some (.ref f18))) (l18 : K.lookup f18 = some ⟨oc18, od18, .func (PySem.W.fnOf "_law_game" "_law_game" (defArgs s_law_game) (defBody s_law_game) (defScope s_law_game) .none kV18 dc18 pm18 an18 cd18 ct18), sl18⟩) (c18 : PySem.W.codeIn K cd18 "_law_game" = true) (k18 : PySem.W.keepIn K (.ref f18) = true)
    (a19 : PySem.W.nsIn K mainGlobals "law" = some (some (.ref f19))) (l19 : K.lookup f19 = some ⟨oc19, od19, .func (PySem.W.fnOf "law" "law" (defArgs s_law) (defBody s_law) (defScope s_law) .none kV19 dc19 pm19 an19 cd19 ct19), sl19⟩) (c19 : PySem.W.codeIn K cd19 "law" = true) (k19 : PySem.W.keepIn K (.ref f19) = true)
    (z0 : PySem.W.nsIn K mainGlobals "enumerate" = some none) (z1 : PySem.W.nsIn K mainGlobals "int" = some none) (z2 : PySem.W.nsIn K mainGlobals "len" = some none) (z3 : PySem.W.nsIn K mainGlobals "list" = some none) (z4 : PySem.W.nsIn K mainGlobals "max" = some none) (z5 : PySem.W.nsIn K mainGlobals "min" = some none) (z6 : PySem.W.nsIn K mainGlobals "range" = some none) (z7 : PySem.W.nsIn K mainGlobals "set" = some none) (z8 : PySem.W.nsIn K mainGlobals "sorted" = some none) (z9 : PySem.W.nsIn K mainGlobals "tuple" = some none) (z10 : PySem.W.nsIn K mainGlobals "zip" = some none) (xa : PySem.W.nsIn K mainGlobals "InvalidGame" = some (some (.ref cI))) (xb : PySem.W.excIn K cI [.type "ValueError", .type "Exception", .type "BaseException", .type "object"] "ValueError.__new__" = true) (xc : PySem.W.keepIn K (.ref cI) = true) (xd : PySem.W.typeIn K (.ref cI) = some (.type "type")) (xe : PySem.W.subIn K (.ref cI) (.ref cI) = some true) (xf : PySem.W.findIn K (.ref cI) "__getattribute__" = some (some (.builtin "BaseException.__getattribute__"))) (xg : PySem.W.findIn K (.ref cI) "__getattr__" = some none) (xh : PySem.W.subIn K (.ref cI) (.type "BaseException") = some true) (xi : PySem.W.hasDictIn K cI = true) (xj : PySem.W.findIn K (.ref cI) "__class__" = some (some (.builtin "object.__class__"))) (xk : PySem.W.specialIn K (.builtin "object.__class__") "__get__" = some (some (.builtin "getset_descriptor.__get__"))) (xl : PySem.W.takesIn K (.builtin "object.__class__") = some true) (xm : PySem.W.mroIn K cI (.type "object") = some true) (wa : PySem.W.nsIn K mainGlobals "InvalidPosition" = some (some (.ref cL))) (wb : PySem.W.excIn K cL [.type "ValueError", .type "Exception", .type "BaseException", .type "object"] "ValueError.__new__" = true) (wc : PySem.W.keepIn K (.ref cL) = true) (wd : PySem.W.typeIn K (.ref cL) = some (.type "type")) (we : PySem.W.subIn K (.ref cL) (.ref cL) = some true) (wf : PySem.W.findIn K (.ref cL) "__getattribute__" = some (some (.builtin "BaseException.__getattribute__"))) (wg : PySem.W.findIn K (.ref cL) "__getattr__" = some none) (wh : PySem.W.subIn K (.ref cL) (.type "BaseException") = some true) (wi : PySem.W.hasDictIn K cL = true) (wj : PySem.W.findIn K (.ref cL) "__class__" = some (some (.builtin "object.__class__"))) (wk : PySem.W.specialIn K (.builtin "object.__class__") "__get__" = some (some (.builtin "getset_descriptor.__get__"))) (wl : PySem.W.takesIn K (.builtin "object.__class__") = some true) (wm : PySem.W.mroIn K cL (.type "object") = some true) (ya : PySem.W.nsIn K mainGlobals "Game" = some (some (.ref C))) (yb : PySem.W.plainGet K C Str.empty = true) (yc : PySem.W.hasDictIn K C = true) (yd : PySem.W.plainOver K C = true) (ye : PySem.W.findIn K (.ref C) "__setattr__" = some (some (.builtin "object.__setattr__"))) (yf : PySem.W.findIn K (.ref C) "owners" = some none) (yg : PySem.W.findIn K (.ref C) "priorities" = some none) (yh : PySem.W.findIn K (.ref C) "moves" = some none) (yj : PySem.W.makesIn K C = true) (yk : PySem.W.findIn K (.ref C) "__init__" = some (some (.ref fI))) (yl : PySem.W.isFn K (.ref fI) = true) (ym : PySem.W.keepIn K (.ref C) = true) (yn : K.lookup fI = some ⟨ocI, odI, .func (PySem.W.fnOf "__init__" "Game.__init__" (defArgs s_Game_init) (defBody s_Game_init) (defScope s_Game_init) .none kVI dcI pmI anI cdI ctI), slI⟩) (yo : PySem.W.codeIn K cdI "Game.__init__" = true) (yp : PySem.W.keepIn K (.ref fI) = true) (ra : PySem.W.nsIn K mainGlobals "Regions" = some (some (.ref cR))) (rb : PySem.W.plainGet K cR Str.empty = true) (rc : PySem.W.hasDictIn K cR = true) (rd : PySem.W.plainOver K cR = true) (re : PySem.W.findIn K (.ref cR) "__setattr__" = some (some (.builtin "object.__setattr__"))) (rf0 : PySem.W.findIn K (.ref cR) "game" = some none) (rf1 : PySem.W.findIn K (.ref cR) "sources" = some none) (rf2 : PySem.W.findIn K (.ref cR) "own_levels" = some none) (rf3 : PySem.W.findIn K (.ref cR) "levels" = some none) (rf4 : PySem.W.findIn K (.ref cR) "choices" = some none) (rf5 : PySem.W.findIn K (.ref cR) "natives" = some none) (rf6 : PySem.W.findIn K (.ref cR) "joined" = some none) (rj : PySem.W.makesIn K cR = true) (rk : PySem.W.findIn K (.ref cR) "__init__" = some (some (.ref fRI))) (rl : PySem.W.isFn K (.ref fRI) = true) (rm : PySem.W.keepIn K (.ref cR) = true) (rn : K.lookup fRI = some ⟨ocRI, odRI, .func (PySem.W.fnOf "__init__" "Regions.__init__" (defArgs s_Regions_init) (defBody s_Regions_init) (defScope s_Regions_init) .none kVRI dcRI pmRI anRI cdRI ctRI), slRI⟩) (ro : PySem.W.codeIn K cdRI "Regions.__init__" = true) (rp : PySem.W.keepIn K (.ref fRI) = true) (r0y : PySem.W.findIn K (.ref cR) "members" = some (some (.ref fR0))) (r0z : PySem.W.isFn K (.ref fR0) = true) (r0n : K.lookup fR0 = some ⟨ocR0, odR0, .func (PySem.W.fnOf "members" "Regions.members" (defArgs s_Regions_members) (defBody s_Regions_members) (defScope s_Regions_members) .none kVR0 dcR0 pmR0 anR0 cdR0 ctR0), slR0⟩) (r0o : PySem.W.codeIn K cdR0 "Regions.members" = true) (r0p : PySem.W.keepIn K (.ref fR0) = true) (r1y : PySem.W.findIn K (.ref cR) "grow" = some (some (.ref fR1))) (r1z : PySem.W.isFn K (.ref fR1) = true) (r1n : K.lookup fR1 = some ⟨ocR1, odR1, .func (PySem.W.fnOf "grow" "Regions.grow" (defArgs s_Regions_grow) (defBody s_Regions_grow) (defScope s_Regions_grow) .none kVR1 dcR1 pmR1 anR1 cdR1 ctR1), slR1⟩) (r1o : PySem.W.codeIn K cdR1 "Regions.grow" = true) (r1p : PySem.W.keepIn K (.ref fR1) = true) (r2y : PySem.W.findIn K (.ref cR) "lower_moves" = some (some (.ref fR2))) (r2z : PySem.W.isFn K (.ref fR2) = true) (r2n : K.lookup fR2 = some ⟨ocR2, odR2, .func (PySem.W.fnOf "lower_moves" "Regions.lower_moves" (defArgs s_Regions_lower_moves) (defBody s_Regions_lower_moves) (defScope s_Regions_lower_moves) .none kVR2 dcR2 pmR2 anR2 cdR2 ctR2), slR2⟩) (r2o : PySem.W.codeIn K cdR2 "Regions.lower_moves" = true) (r2p : PySem.W.keepIn K (.ref fR2) = true) (r3y : PySem.W.findIn K (.ref cR) "is_open" = some (some (.ref fR3))) (r3z : PySem.W.isFn K (.ref fR3) = true) (r3n : K.lookup fR3 = some ⟨ocR3, odR3, .func (PySem.W.fnOf "is_open" "Regions.is_open" (defArgs s_Regions_is_open) (defBody s_Regions_is_open) (defScope s_Regions_is_open) .none kVR3 dcR3 pmR3 anR3 cdR3 ctR3), slR3⟩) (r3o : PySem.W.codeIn K cdR3 "Regions.is_open" = true) (r3p : PySem.W.keepIn K (.ref fR3) = true) (r4y : PySem.W.findIn K (.ref cR) "choose" = some (some (.ref fR4))) (r4z : PySem.W.isFn K (.ref fR4) = true) (r4n : K.lookup fR4 = some ⟨ocR4, odR4, .func (PySem.W.fnOf "choose" "Regions.choose" (defArgs s_Regions_choose) (defBody s_Regions_choose) (defScope s_Regions_choose) .none kVR4 dcR4 pmR4 anR4 cdR4 ctR4), slR4⟩) (r4o : PySem.W.codeIn K cdR4 "Regions.choose" = true) (r4p : PySem.W.keepIn K (.ref fR4) = true) (r5y : PySem.W.findIn K (.ref cR) "exits" = some (some (.ref fR5))) (r5z : PySem.W.isFn K (.ref fR5) = true) (r5n : K.lookup fR5 = some ⟨ocR5, odR5, .func (PySem.W.fnOf "exits" "Regions.exits" (defArgs s_Regions_exits) (defBody s_Regions_exits) (defScope s_Regions_exits) .none kVR5 dcR5 pmR5 anR5 cdR5 ctR5), slR5⟩) (r5o : PySem.W.codeIn K cdR5 "Regions.exits" = true) (r5p : PySem.W.keepIn K (.ref fR5) = true) (r6y : PySem.W.findIn K (.ref cR) "settle" = some (some (.ref fR6))) (r6z : PySem.W.isFn K (.ref fR6) = true) (r6n : K.lookup fR6 = some ⟨ocR6, odR6, .func (PySem.W.fnOf "settle" "Regions.settle" (defArgs s_Regions_settle) (defBody s_Regions_settle) (defScope s_Regions_settle) .none kVR6 dcR6 pmR6 anR6 cdR6 ctR6), slR6⟩) (r6o : PySem.W.codeIn K cdR6 "Regions.settle" = true) (r6p : PySem.W.keepIn K (.ref fR6) = true) (r7y : PySem.W.findIn K (.ref cR) "promote" = some (some (.ref fR7))) (r7z : PySem.W.isFn K (.ref fR7) = true) (r7n : K.lookup fR7 = some ⟨ocR7, odR7, .func (PySem.W.fnOf "promote" "Regions.promote" (defArgs s_Regions_promote) (defBody s_Regions_promote) (defScope s_Regions_promote) .none kVR7 dcR7 pmR7 anR7 cdR7 ctR7), slR7⟩) (r7o : PySem.W.codeIn K cdR7 "Regions.promote" = true) (r7p : PySem.W.keepIn K (.ref fR7) = true) (ua : PySem.W.nsIn K mainGlobals "Findings" = some (some (.ref cF))) (ub : PySem.W.plainGet K cF Str.empty = true) (uc : PySem.W.hasDictIn K cF = true) (ud : PySem.W.plainOver K cF = true) (ue : PySem.W.findIn K (.ref cF) "__setattr__" = some (some (.builtin "object.__setattr__"))) (uf0 : PySem.W.findIn K (.ref cF) "game" = some none) (uf1 : PySem.W.findIn K (.ref cF) "sources" = some none) (uf2 : PySem.W.findIn K (.ref cF) "left" = some none) (uf3 : PySem.W.findIn K (.ref cF) "winners" = some none) (uf4 : PySem.W.findIn K (.ref cF) "choices" = some none) (uj : PySem.W.makesIn K cF = true) (uk : PySem.W.findIn K (.ref cF) "__init__" = some (some (.ref fFI))) (ul : PySem.W.isFn K (.ref fFI) = true) (um : PySem.W.keepIn K (.ref cF) = true) (un : K.lookup fFI = some ⟨ocFI, odFI, .func (PySem.W.fnOf "__init__" "Findings.__init__" (defArgs s_Findings_init) (defBody s_Findings_init) (defScope s_Findings_init) .none kVFI dcFI pmFI anFI cdFI ctFI), slFI⟩) (uo : PySem.W.codeIn K cdFI "Findings.__init__" = true) (up : PySem.W.keepIn K (.ref fFI) = true) (u0y : PySem.W.findIn K (.ref cF) "record" = some (some (.ref fF0))) (u0z : PySem.W.isFn K (.ref fF0) = true) (u0n : K.lookup fF0 = some ⟨ocF0, odF0, .func (PySem.W.fnOf "record" "Findings.record" (defArgs s_Findings_record) (defBody s_Findings_record) (defScope s_Findings_record) .none kVF0 dcF0 pmF0 anF0 cdF0 ctF0), slF0⟩) (u0o : PySem.W.codeIn K cdF0 "Findings.record" = true) (u0p : PySem.W.keepIn K (.ref fF0) = true) (sa : PySem.W.nsIn K mainGlobals "Solution" = some (some (.ref cS))) (sb : PySem.W.plainGet K cS Str.empty = true) (sc : PySem.W.hasDictIn K cS = true) (sd : PySem.W.plainOver K cS = true) (se : PySem.W.findIn K (.ref cS) "__setattr__" = some (some (.builtin "object.__setattr__"))) (sf0 : PySem.W.findIn K (.ref cS) "winners" = some none) (sf1 : PySem.W.findIn K (.ref cS) "choices" = some none) (sj : PySem.W.makesIn K cS = true) (sk : PySem.W.findIn K (.ref cS) "__init__" = some (some (.ref fSI))) (sl : PySem.W.isFn K (.ref fSI) = true) (sm : PySem.W.keepIn K (.ref cS) = true) (sn : K.lookup fSI = some ⟨ocSI, odSI, .func (PySem.W.fnOf "__init__" "Solution.__init__" (defArgs s_Solution_init) (defBody s_Solution_init) (defScope s_Solution_init) .none kVSI dcSI pmSI anSI cdSI ctSI), slSI⟩) (so : PySem.W.codeIn K cdSI "Solution.__init__" = true) (sp : PySem.W.keepIn K (.ref fSI) = true) :
    ∃ fd : FuncData, (∀ (s : Shared) (v : Value), BindsTo s fd ⟨[v], []⟩ [("script", v)]) ∧ ∀ base : Heap, K.In base → base.Ns mainGlobals mg → FnOk l.prog w K mg base CX0 8 fa fd ["script"] (spLaw K) := by
  have e := hfa.symm.trans (PySem.W.mg_of X G a19)
  cases e
  have T : Txt K mg := ⟨⟨f0, _, fun_mk (st := s_reachable) l0 c0 k0, PySem.W.mg_of X G a0, (fun_mk (st := s_reachable) l0 c0 k0).binds fun _ _ _ _ _ _ us hl => match us, hl with | [_, _], _ => rfl⟩, ⟨f1, _, fun_mk (st := s_reversed_graph) l1 c1 k1, PySem.W.mg_of X G a1, (fun_mk (st := s_reversed_graph) l1 c1 k1).binds fun _ _ _ _ _ _ us hl => match us, hl with | [_], _ => rfl⟩, ⟨f2, _, fun_mk (st := s_finishing_order) l2 c2 k2, PySem.W.mg_of X G a2, (fun_mk (st := s_finishing_order) l2 c2 k2).binds fun _ _ _ _ _ _ us hl => match us, hl with | [_], _ => rfl⟩, ⟨f3, _, fun_mk (st := s_components) l3 c3 k3, PySem.W.mg_of X G a3, (fun_mk (st := s_components) l3 c3 k3).binds fun _ _ _ _ _ _ us hl => match us, hl with | [_], _ => rfl⟩, ⟨f4, _, fun_mk (st := s_part_of) l4 c4 k4, PySem.W.mg_of X G a4, (fun_mk (st := s_part_of) l4 c4 k4).binds fun _ _ _ _ _ _ us hl => match us, hl with | [_, _], _ => rfl⟩, ⟨f5, _, fun_mk (st := s_component_lists) l5 c5 k5, PySem.W.mg_of X G a5, (fun_mk (st := s_component_lists) l5 c5 k5).binds fun _ _ _ _ _ _ us hl => match us, hl with | [_, _], _ => rfl⟩, ⟨f6, _, fun_mk (st := s_check_moves) l6 c6 k6, PySem.W.mg_of X G a6, (fun_mk (st := s_check_moves) l6 c6 k6).binds fun _ _ _ _ _ _ us hl => match us, hl with | [_, _], _ => rfl⟩, ⟨f7, _, fun_mk (st := s_check_position) l7 c7 k7, PySem.W.mg_of X G a7, (fun_mk (st := s_check_position) l7 c7 k7).binds fun _ _ _ _ _ _ us hl => match us, hl with | [_, _], _ => rfl⟩, ⟨f8, _, fun_mk (st := s_choices_win) l8 c8 k8, PySem.W.mg_of X G a8, (fun_mk (st := s_choices_win) l8 c8 k8).binds fun _ _ _ _ _ _ us hl => match us, hl with | [_, _, _, _], _ => rfl⟩, ⟨f9, _, fun_mk (st := s_winning_group) l9 c9 k9, PySem.W.mg_of X G a9, (fun_mk (st := s_winning_group) l9 c9 k9).binds fun _ _ _ _ _ _ us hl => match us, hl with | [_, _, _, _], _ => rfl⟩, ⟨f10, _, fun_mk (st := s_ranked) l10 c10 k10, PySem.W.mg_of X G a10, (fun_mk (st := s_ranked) l10 c10 k10).binds fun _ _ _ _ _ _ us hl => match us, hl with | [_], _ => rfl⟩, ⟨f11, _, fun_mk (st := s_won_part) l11 c11 k11, PySem.W.mg_of X G a11, (fun_mk (st := s_won_part) l11 c11 k11).binds fun _ _ _ _ _ _ us hl => match us, hl with | [_], _ => rfl⟩, ⟨f12, _, fun_mk (st := s_solve) l12 c12 k12, PySem.W.mg_of X G a12, (fun_mk (st := s_solve) l12 c12 k12).binds fun _ _ _ _ _ _ us hl => match us, hl with | [_], _ => rfl⟩, ⟨f13, _, fun_mk (st := s_solve_part) l13 c13 k13, PySem.W.mg_of X G a13, (fun_mk (st := s_solve_part) l13 c13 k13).binds fun _ _ _ _ _ _ us hl => match us, hl with | [_, _, _], _ => rfl⟩, ⟨f14, _, fun_mk (st := s_law_draws) l14 c14 k14, PySem.W.mg_of X G a14, (fun_mk (st := s_law_draws) l14 c14 k14).binds fun _ _ _ _ _ _ us hl => match us, hl with | [_, _], _ => rfl⟩, ⟨f15, _, fun_mk (st := s_law_take) l15 c15 k15, PySem.W.mg_of X G a15, (fun_mk (st := s_law_take) l15 c15 k15).binds fun _ _ _ _ _ _ us hl => match us, hl with | [_, _], _ => rfl⟩, ⟨f16, _, fun_mk (st := s_law_ascending) l16 c16 k16, PySem.W.mg_of X G a16, (fun_mk (st := s_law_ascending) l16 c16 k16).binds fun _ _ _ _ _ _ us hl => match us, hl with | [_, _, _], _ => rfl⟩, ⟨f17, _, fun_mk (st := s_law_flat) l17 c17 k17, PySem.W.mg_of X G a17, (fun_mk (st := s_law_flat) l17 c17 k17).binds fun _ _ _ _ _ _ us hl => match us, hl with | [_], _ => rfl⟩, ⟨f18, _, fun_mk (st := s_law_game) l18 c18 k18, PySem.W.mg_of X G a18, (fun_mk (st := s_law_game) l18 c18 k18).binds fun _ _ _ _ _ _ us hl => match us, hl with | [_, _], _ => rfl⟩, PySem.W.mg_none_of X G z0, PySem.W.mg_none_of X G z1, PySem.W.mg_none_of X G z2, PySem.W.mg_none_of X G z3, PySem.W.mg_none_of X G z4, PySem.W.mg_none_of X G z5, PySem.W.mg_none_of X G z6, PySem.W.mg_none_of X G z7, PySem.W.mg_none_of X G z8, PySem.W.mg_none_of X G z9, PySem.W.mg_none_of X G z10, ⟨cI, cL, C, fI, _, ⟨PySem.W.mg_of X G xa, xb, xc, xd, xe, ⟨xf, xg, xh, xi, xj, xk, xl, xm⟩⟩, ⟨PySem.W.mg_of X G wa, wb, wc, wd, we, ⟨wf, wg, wh, wi, wj, wk, wl, wm⟩⟩, ⟨⟨yb, yc, yd, ye⟩, yf, yg, yh⟩, ⟨yj, yk, yl, ym⟩, PySem.W.mg_of X G ya, fun_mk (st := s_Game_init) yn yo yp, (fun_mk (st := s_Game_init) yn yo yp).binds fun _ _ _ _ _ _ us hl => match us, hl with | [_, _, _, _], _ => rfl, ⟨cR, fRI, fR0, fR1, fR2, fR3, fR4, fR5, fR6, fR7, cF, fFI, fF0, cS, fSI, _, _, _, _, _, _, _, _, _, _, _, _, ⟨⟨rb, rc, rd, re⟩, rf0, rf1, rf2, rf3, rf4, rf5, rf6⟩, ⟨rj, rk, rl, rm⟩, PySem.W.mg_of X G ra, fun_mk (st := s_Regions_init) rn ro rp, (fun_mk (st := s_Regions_init) rn ro rp).binds fun _ _ _ _ _ _ us hl => match us, hl with | [_, _], _ => rfl, ⟨r0y, r0z, r0p⟩, fun_mk (st := s_Regions_members) r0n r0o r0p, (fun_mk (st := s_Regions_members) r0n r0o r0p).binds fun _ _ _ _ _ _ us hl => match us, hl with | [_, _], _ => rfl, ⟨r1y, r1z, r1p⟩, fun_mk (st := s_Regions_grow) r1n r1o r1p, (fun_mk (st := s_Regions_grow) r1n r1o r1p).binds fun _ _ _ _ _ _ us hl => match us, hl with | [_, _], _ => rfl, ⟨r2y, r2z, r2p⟩, fun_mk (st := s_Regions_lower_moves) r2n r2o r2p, (fun_mk (st := s_Regions_lower_moves) r2n r2o r2p).binds fun _ _ _ _ _ _ us hl => match us, hl with | [_, _, _], _ => rfl, ⟨r3y, r3z, r3p⟩, fun_mk (st := s_Regions_is_open) r3n r3o r3p, (fun_mk (st := s_Regions_is_open) r3n r3o r3p).binds fun _ _ _ _ _ _ us hl => match us, hl with | [_, _], _ => rfl, ⟨r4y, r4z, r4p⟩, fun_mk (st := s_Regions_choose) r4n r4o r4p, (fun_mk (st := s_Regions_choose) r4n r4o r4p).binds fun _ _ _ _ _ _ us hl => match us, hl with | [_, _], _ => rfl, ⟨r5y, r5z, r5p⟩, fun_mk (st := s_Regions_exits) r5n r5o r5p, (fun_mk (st := s_Regions_exits) r5n r5o r5p).binds fun _ _ _ _ _ _ us hl => match us, hl with | [_, _], _ => rfl, ⟨r6y, r6z, r6p⟩, fun_mk (st := s_Regions_settle) r6n r6o r6p, (fun_mk (st := s_Regions_settle) r6n r6o r6p).binds fun _ _ _ _ _ _ us hl => match us, hl with | [_, _], _ => rfl, ⟨r7y, r7z, r7p⟩, fun_mk (st := s_Regions_promote) r7n r7o r7p, (fun_mk (st := s_Regions_promote) r7n r7o r7p).binds fun _ _ _ _ _ _ us hl => match us, hl with | [_, _, _], _ => rfl, ⟨⟨ub, uc, ud, ue⟩, uf0, uf1, uf2, uf3, uf4⟩, ⟨uj, uk, ul, um⟩, PySem.W.mg_of X G ua, fun_mk (st := s_Findings_init) un uo up, (fun_mk (st := s_Findings_init) un uo up).binds fun _ _ _ _ _ _ us hl => match us, hl with | [_, _], _ => rfl, ⟨u0y, u0z, u0p⟩, fun_mk (st := s_Findings_record) u0n u0o u0p, (fun_mk (st := s_Findings_record) u0n u0o u0p).binds fun _ _ _ _ _ _ us hl => match us, hl with | [_, _, _], _ => rfl, ⟨⟨sb, sc, sd, se⟩, sf0, sf1⟩, ⟨sj, sk, sl, sm⟩, PySem.W.mg_of X G sa, fun_mk (st := s_Solution_init) sn so sp, (fun_mk (st := s_Solution_init) sn so sp).binds fun _ _ _ _ _ _ us hl => match us, hl with | [_, _, _], _ => rfl⟩⟩⟩
  exact ⟨_, fun s v => .of_eq rfl, fun base _ _ => ok_law (fun_mk (st := s_law) l19 c19 k19) T⟩
end My
open PySem PySem.W PyProof.Rows
set_option maxHeartbeats 0 in
theorem PySem.Challenge.cw_reactivesynth_k37_games_with_sides_excha_holds : PySem.Challenge.rw_reactivesynth_k37_games_with_sides_excha.Holds := by
  w_on; o_law; k_head; (case hw => w_witness2)
  k_fill
  refine L2.walk_of (l := PySem.Challenge.rw_reactivesynth_k37_games_with_sides_excha) (n := 63) (k := 8) (x := "script") (CX := fun _ => L2.CX0) (sp := fun w => My.spLaw _) rfl (by decide) rfl ⟨rfl, by decide, by decide⟩ (fun w h Y => PySem.W.kIn_of Y) ?F (fun _ _ a ns hl _ hS => ⟨a, ns, rfl, hS, hl, fun _ => rfl⟩) (fun _ _ _ _ _ h => h)
  case F =>
    intro w mg fa h KX G hmg
    refine' My.all_mk KX G hmg ?a0 ?l0 ?c0 ?k0 ?a1 ?l1 ?c1 ?k1 ?a2 ?l2 ?c2 ?k2 ?a3 ?l3 ?c3 ?k3 ?a4 ?l4 ?c4 ?k4 ?a5 ?l5 ?c5 ?k5 ?a6 ?l6 ?c6 ?k6 ?a7 ?l7 ?c7 ?k7 ?a8 ?l8 ?c8 ?k8 ?a9 ?l9 ?c9 ?k9 ?a10 ?l10 ?c10 ?k10 ?a11 ?l11 ?c11 ?k11 ?a12 ?l12 ?c12 ?k12 ?a13 ?l13 ?c13 ?k13 ?a14 ?l14 ?c14 ?k14 ?a15 ?l15 ?c15 ?k15 ?a16 ?l16 ?c16 ?k16 ?a17 ?l17 ?c17 ?k17 ?a18 ?l18 ?c18 ?k18 ?a19 ?l19 ?c19 ?k19 ?z0 ?z1 ?z2 ?z3 ?z4 ?z5 ?z6 ?z7 ?z8 ?z9 ?z10 ?xa ?xb ?xc ?xd ?xe ?xf ?xg ?xh ?xi ?xj ?xk ?xl ?xm ?wa ?wb ?wc ?wd ?we ?wf ?wg ?wh ?wi ?wj ?wk ?wl ?wm ?ya ?yb ?yc ?yd ?ye ?yf ?yg ?yh ?yj ?yk ?yl ?ym ?yn ?yo ?yp ?ra ?rb ?rc ?rd ?re ?rf0 ?rf1 ?rf2 ?rf3 ?rf4 ?rf5 ?rf6 ?rj ?rk ?rl ?rm ?rn ?ro ?rp ?r0y ?r0z ?r0n ?r0o ?r0p ?r1y ?r1z ?r1n ?r1o ?r1p ?r2y ?r2z ?r2n ?r2o ?r2p ?r3y ?r3z ?r3n ?r3o ?r3p ?r4y ?r4z ?r4n ?r4o ?r4p ?r5y ?r5z ?r5n ?r5o ?r5p ?r6y ?r6z ?r6n ?r6o ?r6p ?r7y ?r7z ?r7n ?r7o ?r7p ?ua ?ub ?uc ?ud ?ue ?uf0 ?uf1 ?uf2 ?uf3 ?uf4 ?uj ?uk ?ul ?um ?un ?uo ?up ?u0y ?u0z ?u0n ?u0o ?u0p ?sa ?sb ?sc ?sd ?se ?sf0 ?sf1 ?sj ?sk ?sl ?sm ?sn ?so ?sp
    (case a0 => k_is); (case l0 => k_is); (case c0 => k_is); (case k0 => k_is); (case a1 => k_is); (case l1 => k_is); (case c1 => k_is); (case k1 => k_is); (case a2 => k_is); (case l2 => k_is); (case c2 => k_is); (case k2 => k_is); (case a3 => k_is); (case l3 => k_is); (case c3 => k_is); (case k3 => k_is); (case a4 => k_is); (case l4 => k_is); (case c4 => k_is); (case k4 => k_is); (case a5 => k_is); (case l5 => k_is); (case c5 => k_is); (case k5 => k_is); (case a6 => k_is); (case l6 => k_is); (case c6 => k_is); (case k6 => k_is); (case a7 => k_is); (case l7 => k_is); (case c7 => k_is); (case k7 => k_is); (case a8 => k_is); (case l8 => k_is); (case c8 => k_is); (case k8 => k_is); (case a9 => k_is); (case l9 => k_is); (case c9 => k_is); (case k9 => k_is); (case a10 => k_is); (case l10 => k_is); (case c10 => k_is); (case k10 => k_is); (case a11 => k_is); (case l11 => k_is); (case c11 => k_is); (case k11 => k_is); (case a12 => k_is); (case l12 => k_is); (case c12 => k_is); (case k12 => k_is); (case a13 => k_is); (case l13 => k_is); (case c13 => k_is); (case k13 => k_is); (case a14 => k_is); (case l14 => k_is); (case c14 => k_is); (case k14 => k_is); (case a15 => k_is); (case l15 => k_is); (case c15 => k_is); (case k15 => k_is); (case a16 => k_is); (case l16 => k_is); (case c16 => k_is); (case k16 => k_is); (case a17 => k_is); (case l17 => k_is); (case c17 => k_is); (case k17 => k_is); (case a18 => k_is); (case l18 => k_is); (case c18 => k_is); (case k18 => k_is); (case a19 => k_is); (case l19 => k_is); (case c19 => k_is); (case k19 => k_is); (case z0 => k_is); (case z1 => k_is); (case z2 => k_is); (case z3 => k_is); (case z4 => k_is); (case z5 => k_is); (case z6 => k_is); (case z7 => k_is); (case z8 => k_is); (case z9 => k_is); (case z10 => k_is); (case xa => first | rfl | k_is); (case xb => first | k_exc | rfl | k_is); (case xc => first | rfl | k_is); (case xd => first | rfl | k_is); (case xe => first | rfl | k_is); (case xf => first | rfl | k_is); (case xg => first | rfl | k_is); (case xh => first | rfl | k_is); (case xi => first | rfl | k_is); (case xj => first | rfl | k_is); (case xk => first | rfl | k_is); (case xl => first | rfl | k_is); (case xm => first | rfl | k_is); (case wa => k_is); (case wb => first | k_exc | rfl | k_is); (case wc => k_is); (case wd => k_is); (case we => k_is); (case wf => k_is); (case wg => k_is); (case wh => k_is); (case wi => k_is); (case wj => k_is); (case wk => k_is); (case wl => k_is); (case wm => k_is); (case ya => k_is); (case yb => k_is); (case yc => k_is); (case yd => k_is); (case ye => k_is); (case yf => k_is); (case yg => k_is); (case yh => k_is); (case yj => k_is); (case yk => k_is); (case yl => k_is); (case ym => k_is); (case yn => k_is); (case yo => k_is); (case yp => k_is); (case ra => k_is); (case rb => k_is); (case rc => k_is); (case rd => k_is); (case re => k_is); (case rf0 => k_is); (case rf1 => k_is); (case rf2 => k_is); (case rf3 => k_is); (case rf4 => k_is); (case rf5 => k_is); (case rf6 => k_is); (case rj => k_is); (case rk => k_is); (case rl => k_is); (case rm => k_is); (case rn => k_is); (case ro => k_is); (case rp => k_is); (case r0y => k_is); (case r0z => k_is); (case r0n => k_is); (case r0o => k_is); (case r0p => k_is); (case r1y => k_is); (case r1z => k_is); (case r1n => k_is); (case r1o => k_is); (case r1p => k_is); (case r2y => k_is); (case r2z => k_is); (case r2n => k_is); (case r2o => k_is); (case r2p => k_is); (case r3y => k_is); (case r3z => k_is); (case r3n => k_is); (case r3o => k_is); (case r3p => k_is); (case r4y => k_is); (case r4z => k_is); (case r4n => k_is); (case r4o => k_is); (case r4p => k_is); (case r5y => k_is); (case r5z => k_is); (case r5n => k_is); (case r5o => k_is); (case r5p => k_is); (case r6y => k_is); (case r6z => k_is); (case r6n => k_is); (case r6o => k_is); (case r6p => k_is); (case r7y => k_is); (case r7z => k_is); (case r7n => k_is); (case r7o => k_is); (case r7p => k_is); (case ua => k_is); (case ub => k_is); (case uc => k_is); (case ud => k_is); (case ue => k_is); (case uf0 => k_is); (case uf1 => k_is); (case uf2 => k_is); (case uf3 => k_is); (case uf4 => k_is); (case uj => k_is); (case uk => k_is); (case ul => k_is); (case um => k_is); (case un => k_is); (case uo => k_is); (case up => k_is); (case u0y => k_is); (case u0z => k_is); (case u0n => k_is); (case u0o => k_is); (case u0p => k_is); (case sa => k_is); (case sb => k_is); (case sc => k_is); (case sd => k_is); (case se => k_is); (case sf0 => k_is); (case sf1 => k_is); (case sj => k_is); (case sk => k_is); (case sl => k_is); (case sm => k_is); (case sn => k_is); (case so => k_is); (case sp => k_is)
