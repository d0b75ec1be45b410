import PyProof.Rows.All
import Wide.All
import OpenK.AllK
import Wide.FinOn
import HandS.ForMost
import HandS.ForExc
import HandS.ExcIs
import HandS.ExcOwn
import HandS.WordsExc
import HandS.TryMany
import HandS.TryOnly
import HandS.Codes
import HandS.IsInst
import HandS.TupAny
import HandS.TupMul
import HandS.SortKw
import KE.KMinKey
import PyProof.WalksMore
import HandS.Dict
import HandS.Style
import HandS.Conv
import HandS.Walk
import HandS.Zip
import PyProof.AutoSeq1
import HandS.Text
import HandS.Defaults
import HandS.MakeKwOnly
import HandS.CallSlots
import PySem.Challenge.RW_reactivesynth_k12_holds
set_option Elab.async false
set_option linter.all false
set_option maxRecDepth 100000
set_option maxHeartbeats 4000000
namespace Wd
/-- m is the length of a proper border of the first k letters -/
def Bd (w : Nat → Int) (k m : Nat) : Prop := m < k ∧ ∀ i, i < m → w i = w (k - m + i)
/-- .. the greatest -/
def Lg (w : Nat → Int) (k m : Nat) : Prop := Bd w k m ∧ ∀ j, Bd w k j → j ≤ m
theorem Bd.zero {w : Nat → Int} {k : Nat} (h : 0 < k) : Bd w k 0 := ⟨h, fun i hi => absurd hi (Nat.not_lt_zero i)⟩
theorem Bd.down {w : Nat → Int} {k m : Nat} (h : Bd w (k + 1) (m + 1)) : Bd w k m ∧ w m = w k := by
  obtain ⟨h1, h2⟩ := h
  refine ⟨⟨by omega, fun i hi => ?_⟩, ?_⟩
  · have := h2 i (by omega)
    rw [this]
    congr 1
    omega
  · have := h2 m (by omega)
    rw [this]
    congr 1
    omega
theorem Bd.up {w : Nat → Int} {k m : Nat} (h : Bd w k m) (e : w m = w k) : Bd w (k + 1) (m + 1) := by
  obtain ⟨h1, h2⟩ := h
  refine ⟨by omega, fun i hi => ?_⟩
  rcases Nat.lt_or_ge i m with c | c
  · rw [h2 i c]
    congr 1
    omega
  · have : i = m := by omega
    subst this
    rw [e]
    congr 1
    omega
theorem Bd.inner {w : Nat → Int} {k b j : Nat} (h : Bd w k b) (g : Bd w k j) (l : j < b) : Bd w b j := by
  obtain ⟨h1, h2⟩ := h
  obtain ⟨g1, g2⟩ := g
  refine ⟨l, fun i hi => ?_⟩
  rw [g2 i hi, h2 (b - j + i) (by omega)]
  congr 1
  omega
theorem Bd.trans {w : Nat → Int} {k b j : Nat} (h : Bd w k b) (g : Bd w b j) : Bd w k j := by
  obtain ⟨h1, h2⟩ := h
  obtain ⟨g1, g2⟩ := g
  refine ⟨by omega, fun i hi => ?_⟩
  rw [g2 i hi, h2 (b - j + i) (by omega)]
  congr 1
  omega
/-- what the inner loop keeps: b is a border of the first k letters, and no border of the first k + 1 is longer than b + 1 -/
def In (w : Nat → Int) (k b : Nat) : Prop := Bd w k b ∧ ∀ j, Bd w (k + 1) (j + 1) → j ≤ b
theorem In.start {w : Nat → Int} {k b : Nat} (h : Lg w k b) : In w k b := ⟨h.1, fun j hj => h.2 j hj.down.1⟩
theorem In.step {w : Nat → Int} {k b c : Nat} (h : In w k b) (hb : 0 < b) (ne : w k ≠ w b) (g : Lg w b c) : In w k c ∧ c < b := by
  refine ⟨⟨h.1.trans g.1, fun j hj => ?_⟩, g.1.1⟩
  have h1 := h.2 j hj
  obtain ⟨h2, h3⟩ := hj.down
  have : j ≠ b := fun z => ne (by rw [← h3, z])
  exact g.2 j (h.1.inner h2 (by omega))
theorem In.found {w : Nat → Int} {k b : Nat} (h : In w k b) (e : w k = w b) : Lg w (k + 1) (b + 1) := by
  refine ⟨h.1.up e.symm, fun j hj => ?_⟩
  cases j with
  | zero => omega
  | succ j => exact Nat.succ_le_succ (h.2 j hj)
theorem In.none {w : Nat → Int} {k : Nat} (h : In w k 0) (ne : w k ≠ w 0) : Lg w (k + 1) 0 := by
  refine ⟨Bd.zero (by omega), fun j hj => ?_⟩
  cases j with
  | zero => omega
  | succ j =>
    have h1 := h.2 j hj
    have : j = 0 := by omega
    subst this
    exact absurd hj.down.2.symm ne
/-! periods -/
/-- the letters of the word without end that repeats the first n letters -/
def cyc (w : Nat → Int) (n i : Nat) : Int := w (i % n)
def Rp (w : Nat → Int) (n p : Nat) : Prop := ∀ i, cyc w n (i + p) = cyc w n i
theorem Rp.mul {w : Nat → Int} {n p : Nat} (h : Rp w n p) : ∀ k i, cyc w n (i + k * p) = cyc w n i
  | 0, i => by rw [Nat.zero_mul, Nat.add_zero]
  | k + 1, i => by
    rw [Nat.succ_mul, ← Nat.add_assoc, h, h.mul k i]
theorem Rp.mod {w : Nat → Int} {n p i : Nat} (h : Rp w n p) : cyc w n i = cyc w n (i % p) := by
  have := h.mul (i / p) (i % p)
  rw [Nat.mul_comm, Nat.mod_add_div] at this
  exact this
theorem cyc_lt {w : Nat → Int} {n i : Nat} (h : i < n) : cyc w n i = w i := by
  unfold cyc
  rw [Nat.mod_eq_of_lt h]
theorem rp_self (w : Nat → Int) (n : Nat) : Rp w n n := fun i => by
  unfold cyc
  rw [Nat.add_mod_right]
/-- a period of the finite word that divides its length is one of the word without end -/
theorem rp_of {w : Nat → Int} {n p : Nat} (hp : 0 < p) (hd : p ∣ n) (hn : 0 < n) (h : ∀ i, i + p < n → w i = w (i + p)) : Rp w n p := by
  have red : ∀ k i, i + k * p < n → w (i + k * p) = w i := by
    intro k
    induction k with
    | zero => intro i _; rw [Nat.zero_mul, Nat.add_zero]
    | succ k ih =>
      intro i hi
      rw [Nat.succ_mul] at hi ⊢
      rw [← Nat.add_assoc, ← h (i + k * p) (by omega)]
      exact ih i (by omega)
  have toMod : ∀ i, cyc w n i = w (i % p) := by
    intro i
    unfold cyc
    have h1 : i % n < n := Nat.mod_lt _ hn
    have e : i % n % p + (i % n / p) * p = i % n := by
      rw [Nat.mul_comm]
      exact Nat.mod_add_div _ _
    have h2 := red (i % n / p) (i % n % p) (by rw [e]; exact h1)
    rw [e] at h2
    rw [h2, Nat.mod_mod_of_dvd _ hd]
  intro i
  rw [toMod, toMod, Nat.add_mod_right]
/-- the least repetition: r divides n, the word repeats its first r letters, and no shorter one does -/
structure Least (w : Nat → Int) (n r : Nat) : Prop where
  pos : 0 < r
  dvd : r ∣ n
  rp : Rp w n r
  min : ∀ p, 0 < p → p ∣ n → Rp w n p → r ≤ p
theorem least_of {w : Nat → Int} {n b : Nat} (hn : 0 < n) (h : Lg w n b) : Least w n (if n % (n - b) = 0 then n - b else n) := by
  obtain ⟨⟨hb, h1⟩, h2⟩ := h
  have hs : 0 < n - b := by omega
  -- n - b is the least period of the finite word
  have per : ∀ i, i + (n - b) < n → w i = w (i + (n - b)) := fun i hi => by
    have := h1 i (by omega)
    rw [this]
    congr 1
    omega
  have low : ∀ p, 0 < p → p ≤ n → (∀ i, i + p < n → w i = w (i + p)) → n - b ≤ p := fun p hp hpn hq => by
    have := h2 (n - p) ⟨by omega, fun i hi => by
      have := hq i (by omega)
      rw [this]
      congr 1
      omega⟩
    omega
  have fin : ∀ p, Rp w n p → ∀ i, i + p < n → w i = w (i + p) := fun p hp i hi => by
    have := hp i
    rw [cyc_lt hi, cyc_lt (by omega)] at this
    exact this.symm
  -- a shorter repetition makes n - b a repetition
  have key : ∀ p, 0 < p → p ∣ n → p < n → Rp w n p → n % (n - b) = 0 ∧ n - b ≤ p := by
    intro p hp hd hlt hr
    have le := low p hp (by omega) (fin p hr)
    obtain ⟨q, hq⟩ := hd
    have hq2 : 2 ≤ q := by
      rcases Nat.lt_or_ge q 2 with c | c
      · have : q = 0 ∨ q = 1 := by omega
        rcases this with z | z
        · rw [z] at hq; omega
        · rw [z] at hq; omega
      · exact c
    have h2p : 2 * p ≤ n := by
      rw [hq, Nat.mul_comm 2 p]
      exact Nat.mul_le_mul_left p hq2
    have rs : Rp w n (n - b) := by
      intro i
      have e1 : cyc w n (i + (n - b)) = cyc w n (i % p + (n - b)) := by
        have := hr.mul (i / p) (i % p + (n - b))
        rw [← this]
        congr 1
        have := Nat.mod_add_div i p
        rw [Nat.mul_comm (i / p) p]
        omega
      have hm : i % p < p := Nat.mod_lt _ hp
      rw [e1, hr.mod (i := i), cyc_lt (show i % p + (n - b) < n by omega), cyc_lt (show i % p < n by omega)]
      exact (per _ (by omega)).symm
    -- p is a multiple of n - b
    have hmod : p % (n - b) = 0 := by
      rcases Nat.eq_zero_or_pos (p % (n - b)) with z | z
      · exact z
      · have lt : p % (n - b) < n - b := Nat.mod_lt _ hs
        have rm : Rp w n (p % (n - b)) := by
          intro i
          have a := rs.mul (p / (n - b)) (i + p % (n - b))
          have e : i + p % (n - b) + p / (n - b) * (n - b) = i + p := by
            rw [Nat.mul_comm, Nat.add_assoc, Nat.mod_add_div]
          rw [e] at a
          rw [← a]
          exact hr i
        have := low _ z (by omega) (fin _ rm)
        omega
    refine ⟨?_, le⟩
    exact Nat.mod_eq_zero_of_dvd (Nat.dvd_trans (Nat.dvd_of_mod_eq_zero hmod) ⟨q, hq⟩)
  by_cases c : n % (n - b) = 0
  · rw [if_pos c]
    refine ⟨hs, Nat.dvd_of_mod_eq_zero c, rp_of hs (Nat.dvd_of_mod_eq_zero c) hn per, fun p hp hd hr => ?_⟩
    exact low p hp (Nat.le_of_dvd hn hd) (fin p hr)
  · rw [if_neg c]
    refine ⟨hn, Nat.dvd_refl n, rp_self w n, fun p hp hd hr => ?_⟩
    have le := Nat.le_of_dvd hn hd
    rcases Nat.lt_or_ge p n with l | l
    · exact absurd (key p hp hd l hr).1 c
    · exact l
end Wd
/-! ### min(xs, default=d) of a list of ints: own rule -/
namespace MinD
open PySem PySem.W PyProof.Rows
def kwD (d : Value) : List (Str × Value) := [(Str.ofString "default", d)]
theorem nameL : (toString "min" ++ toString ".loop" : String) = "min.loop" := by decide
section
variable {prog : Program} {w : World} {A : Around} {R : Result → Shared → Prop} {I S : Addr} {fp wr : List Addr} {n : Nat} {P : Nat → Value → Prop} {St : Nat → Heap → Prop} {d : Value}
theorem loopD (W : Walks prog w A.in1 I fp wr n P St) (bt : Nat → Nat → Bool) (cm : CmpOf prog w A.in1 .Lt P bt) (nf : S ∉ fp) :
    ∀ (m j : Nat) (u : Shared) (best : Value) (c : Nat), n - (j + 1) = m → j + 1 ≤ n → St (j + 1) u.heap → P (argBest bt j) best →
    u.heap.get? S = some { cls := .type "list", dict := none, data := .seq #[best, best] c, slots := #[] } →
    (∀ v g tk, P (argBest bt (n - 1)) v → (∀ b o, b ∉ wr → b ≠ S → u.heap.get? b = some o → g.get? b = some o) → R (.ok (.ret v)) { u with heap := g, toks := tk }) →
    codeAny (model prog w) A (.builtin "min.loop" ⟨[.ref I, .none, .ref S], kwD d⟩) R u := by
  have nw : S ∉ wr := fun q => nf (W.sub _ q)
  intro m
  induction m with
  | zero =>
    intro j u best c em hj st pb gS out
    have ej : j + 1 = n := by omega
    refine codeAny_builtin PySem.F.entry_min_loop ?_
    rw [Around.under_plainId PySem.F.plain_min_loop _]
    show wpAny _ A.in1 (seqItems? (.ref S) >>= _) _ _ u
    refine wpAny_bind (wpAny_seqItems gS rfl ?_)
    show wpAny _ A.in1 (tryCatch (pyNext (.ref I)) _ >>= _) _ _ u
    refine wpAny_bind (wpAny_tryCatch (W.done u _ _ (ej ▸ st) fun g tk keep => ?_))
    have gS2 := keep S _ nw gS
    show wpAny _ A.in1 (updateSeq S (fun _ => #[]) >>= _) _ _ _
    refine wpAny_bind (wpAny_updateSeq gS2 rfl (wpAny_bind (wpAny_letGo (wpAny_pure ?_))))
    exact out best _ tk (by rw [← ej]; exact pb) fun b o hb hS e => (Heap.get?_update_other _ _ (Ne.symm hS)).trans (keep b o hb e)
  | succ m ih =>
    intro j u best c em hj st pb gS out
    have lt : j + 1 < n := by omega
    refine codeAny_builtin PySem.F.entry_min_loop ?_
    rw [Around.under_plainId PySem.F.plain_min_loop _]
    show wpAny _ A.in1 (seqItems? (.ref S) >>= _) _ _ u
    refine wpAny_bind (wpAny_seqItems gS rfl ?_)
    show wpAny _ A.in1 (tryCatch (pyNext (.ref I)) _ >>= _) _ _ u
    refine wpAny_bind (wpAny_tryCatch (W.item (j + 1) u _ _ lt st fun v g tk pv st2 keep => ?_))
    have gS2 := keep S _ nw gS
    show wpAny _ A.in1 (tryCatch (holding [v, v] (richCompare .Lt v best >>= _)) _ >>= _) _ _ _
    refine wpAny_bind (wpAny_tryCatch (wpAny_holding (wpAny_bind (cm (j + 1) (argBest bt j) v best _ _ _ pv pb ?_))))
    refine wpAny_bind (wpAny_holding (wpAny_truthy_bool (wpAny_bind (wpAny_letGo (wpAny_pure ?_)))))
    cases hb : bt (j + 1) (argBest bt j) with
    | true =>
      simp only [if_true]
      refine wpAny_bind (wpAny_updateSeq gS2 rfl (wpAny_bind (wpAny_letGo ?_)))
      rw [nameL]
      refine wpAny_pure ⟨plainId_quiet PySem.F.plain_min_loop _, ih (j + 1) _ v _ (by omega) lt (W.frame _ _ _ st2 fun b bf o e => ?_) (by simp only [argBest, hb, if_true]; exact pv) (Heap.get?_update_self _ gS2 rfl)
        fun v2 g2 tk2 p2 keep2 => ?_⟩
      · exact (Heap.get?_update_other _ _ (fun q : S = b => nf (by rw [q]; exact bf))).trans e
      · exact out v2 g2 tk2 p2 fun b o hw hS e => keep2 b o hw hS ((Heap.get?_update_other _ _ (Ne.symm hS)).trans (keep b o hw e))
    | false =>
      simp only [Bool.false_eq_true, if_false]
      refine wpAny_bind (wpAny_letGo ?_)
      rw [nameL]
      exact wpAny_pure ⟨plainId_quiet PySem.F.plain_min_loop _, ih (j + 1) _ best c (by omega) lt st2 (by simp only [argBest, hb, Bool.false_eq_true, if_false]; exact pb) gS2 fun v2 g2 tk2 p2 keep2 =>
        out v2 g2 tk2 p2 fun b o hw hS e => keep2 b o hw hS (keep b o hw e)⟩
theorem firstD (W : Walks prog w A.in1 I fp wr n P St) (bt : Nat → Nat → Bool) (cm : CmpOf prog w A.in1 .Lt P bt) (nf : S ∉ fp) {u : Shared} {c : Nat} (st : St 0 u.heap)
    (gS : u.heap.get? S = some { cls := .type "list", dict := none, data := .seq #[] c, slots := #[] })
    (out : ∀ v g tk, (0 < n → P (argBest bt (n - 1)) v) → (n = 0 → v = d) → (∀ b o, b ∉ wr → b ≠ S → u.heap.get? b = some o → g.get? b = some o) → R (.ok (.ret v)) { u with heap := g, toks := tk }) :
    codeAny (model prog w) A (.builtin "min.loop" ⟨[.ref I, .none, .ref S], kwD d⟩) R u := by
  have nw : S ∉ wr := fun q => nf (W.sub _ q)
  refine codeAny_builtin PySem.F.entry_min_loop ?_
  rw [Around.under_plainId PySem.F.plain_min_loop _]
  show wpAny _ A.in1 (seqItems? (.ref S) >>= _) _ _ u
  refine wpAny_bind (wpAny_seqItems gS rfl ?_)
  show wpAny _ A.in1 (tryCatch (pyNext (.ref I)) _ >>= _) _ _ u
  by_cases h0 : 0 < n
  · refine wpAny_bind (wpAny_tryCatch (W.item 0 u _ _ h0 st fun v g tk pv st2 keep => ?_))
    have gS2 := keep S _ nw gS
    show wpAny _ A.in1 (updateSeq S (fun _ => #[v, v]) >>= _) _ _ _
    refine wpAny_bind (wpAny_updateSeq gS2 rfl ?_)
    rw [nameL]
    refine wpAny_pure ⟨plainId_quiet PySem.F.plain_min_loop _, loopD W bt cm nf _ 0 _ v _ rfl h0 (W.frame _ _ _ st2 fun b bf o e => ?_) pv (Heap.get?_update_self _ gS2 rfl) fun v2 g2 tk2 p2 keep2 => ?_⟩
    · exact (Heap.get?_update_other _ _ (fun q : S = b => nf (by rw [q]; exact bf))).trans e
    · exact out v2 g2 tk2 (fun _ => p2) (fun z => by omega) fun b o hw hS e => keep2 b o hw hS ((Heap.get?_update_other _ _ (Ne.symm hS)).trans (keep b o hw e))
  · have e0 : n = 0 := by omega
    refine wpAny_bind (wpAny_tryCatch (W.done u _ _ (by rw [e0]; exact st) fun g tk keep => ?_))
    show wpAny _ A.in1 (rule _ >>= _) _ _ _
    refine wpAny_bind (wpAny_rule (wpAny_pure ?_))
    exact out d g tk (fun z => absurd z h0) (fun _ => rfl) fun b o hw _ e => keep b o hw e
end
section
variable {prog : Program} {w : World} {A : Around} {E : Value → Shared → Prop} {s : Shared} {d : Value}
theorem args_d (a v : Value) : argsOk "min" ⟨[a], kwD v⟩ := by
  unfold argsOk
  kernel_rfl
theorem callD {l : Addr} {xs : Array (Int × Tok)} {Q : Value → Shared → Prop} (hh : A.handled = none) (hl : s.heap.IsList l (intItems xs))
    (h : ∀ v g tk, (0 < xs.size → (intItems xs)[argBest (fun i j => decide (numAt xs i < numAt xs j)) (xs.size - 1)]? = some v) → (xs.size = 0 → v = d) → (∀ b o, s.heap.get? b = some o → g.get? b = some o) → Q v { s with heap := g, toks := tk }) :
    wpAny (model prog w) A (call (.builtin "min") [.ref l] (kwD d)) Q E s := by
  refine kmk_tree PySem.F.kind_min PySem.F.plain_min PySem.F.entry_min (args_d _ _) ?_
  show wpAny _ A.in1 (Builtin.Builtins.bindParams "min" ["key", "default"] 0 ⟨[], kwD d⟩ >>= _) _ _ s
  refine wpAny_bind (wpAny_of_eq (show Builtin.Builtins.bindParams "min" ["key", "default"] 0 ⟨[], kwD d⟩ = pure [none, some d] from rfl) ?_)
  refine wpAny_bind (wpAny_pure ?_)
  refine wpAny_bind (iter_intList hl fun u eu st hfp hlI => ?_)
  subst eu
  refine wpAny_bind (wpAny_newObj_type ?_)
  rw [nameL]
  refine wpAny_pure ⟨plainId_quiet PySem.F.plain_min_loop _, firstD (Walks.list (A := A.in1) hh _ l hlI (intItems xs)) _ (CmpOf.ints_lt (numAt xs) (fun _ _ => intItems_at)) (fun hm => Nat.lt_irrefl _ (hfp _ hm)) ?_ (Heap.get?_push_size _ rfl) fun v g tk p1 p2 keep => ?_⟩
  · exact (Walks.list (prog := prog) (w := w) (A := A.in1) hh _ l hlI (intItems xs)).frame _ _ _ st fun b _ o e => Heap.get?_push_of_some _ e
  · have hsz : (intItems xs).size = xs.size := by simp [intItems]
    refine h v g tk (fun z => by have := p1 (by rw [hsz]; exact z); rw [hsz] at this; exact this) (fun z => p2 (by rw [hsz]; exact z)) (old_kept (l := l) fun b o hb e => ?_)
    exact keep b o hb (Nat.ne_of_lt (Heap.lt_size e)) (Heap.get?_push_of_some _ e)
end
theorem rawD {prog : Program} {w : World} {A : Around} {E : Value → Shared → Prop} {s : Shared} {l : Addr} {its : List Value} {ns : List Int} {z : Int} {t : Tok} {Q : Value → Shared → Prop} (hh : A.handled = none) (hl : s.heap.IsList l its.toArray) (hi : IntsAre its ns)
    (h : ∀ (g : Heap) (tk : Nat) (m : Int) (t' : Tok), (∀ b o, s.heap.get? b = some o → g.get? b = some o) → (ns = [] → m = z) → (ns ≠ [] → m ∈ ns ∧ ∀ y ∈ ns, m ≤ y) → Q (.int m t') { s with heap := g, toks := tk }) :
    wpAny (model prog w) A (call (.builtin "min") [.ref l] (kwD (.int z t))) Q E s := by
  obtain ⟨xs, e⟩ := hi.allInts.items
  have hn : numsOf (intItems xs).toList = ns := by rw [← e]; exact hi.numsOf
  rw [PySem.nums_intItems] at hn
  subst hn
  rw [e] at hl
  refine callD hh hl fun v g tk p1 p2 keep => ?_
  by_cases c : 0 < xs.size
  · obtain ⟨u, rfl⟩ := intItems_at (p1 c)
    obtain ⟨a1, a2⟩ := argBest_lt (numAt xs) (xs.size - 1)
    refine h g tk _ u keep (fun z => ?_) fun _ => ⟨?_, fun y hy => ?_⟩
    · have q : xs.size = 0 := by simpa using congrArg List.length z
      omega
    · rw [PySem.numAt_eq]
      refine PySem.getD_mem ?_
      rw [List.length_map, Array.length_toList]
      exact Nat.lt_of_le_of_lt a1 (by omega)
    · obtain ⟨j, hj, rfl⟩ := PySem.mem_getD hy
      rw [List.length_map, Array.length_toList] at hj
      rw [← PySem.numAt_eq]
      exact a2 j (by omega)
  · rw [p2 (by omega)]
    refine h g tk z t keep (fun _ => rfl) fun q => absurd ?_ q
    have : xs = #[] := Array.eq_empty_of_size_eq_zero (by omega)
    rw [this]
    rfl
end MinD
namespace Bx
open PySem PySem.Spec PyProof.Rows L2
def rMinD (K : PySem.W.Frag) : List V → List V → Hp → VK → Prop := fun xs zs H Q => ∃ (a : Addr) (ns : List Int) (z : Int), xs = [.ref a] ∧ zs = [.int z] ∧ SqL K H a (ns.map V.int) ∧
  ∀ m, (ns = [] → m = z) → (ns ≠ [] → m ∈ ns ∧ ∀ y ∈ ns, m ≤ y) → Q (.int m) H
theorem call_minD {X : Cx} {K : PySem.W.Frag} (h : X.K = K) (hc : X.calm = true) : CallRK X (.builtin "min") ["default"] (rMinD K) := by
  subst h
  intro pins s σ H xs zs us ws Q I r r2 hw
  obtain ⟨a, ns, z, rfl, rfl, hs, q⟩ := hw
  obtain ⟨its, rv, hl, _⟩ := I.list hs
  rw [Vals.ref1 r]
  obtain ⟨u, rfl, ru⟩ := vals1 r2
  obtain ⟨t, rfl⟩ := ru
  exact MinD.rawD (I.ok.hd hc) hl.isList rv.ints fun g tk m t' hk h1 h2 => ⟨.int m, H, I.kept hk, ⟨_, rfl⟩, q m h1 h2⟩
end Bx
namespace Bx
open PySem PySem.Spec PyProof.Rows L2
/-! ### rules over the written part by its name -/
section
variable {X : Cx} {K : PySem.W.Frag}
theorem ix_tupK (h : X.K = K) : IxR X (rIxT K) := h ▸ ix_tup
theorem ix_listK (h : X.K = K) : IxR X (rIxL K) := h ▸ ix_list
theorem ix_seqK (h : X.K = K) : IxR X (rIx K) := h ▸ ix_seq
def rLen (K : PySem.W.Frag) : List V → Hp → VK → Prop := fun xs H Q => ∃ (p : Addr) (ys : List V), xs = [.ref p] ∧ (SqL K H p ys ∨ SqT K H p ys) ∧ Q (.int ys.length) H
theorem call_lenK (h : X.K = K) : CallR X (.builtin "len") (rLen K) := by
  subst h
  exact call_len_seq
def rTupOf (K : PySem.W.Frag) : List V → Hp → VK → Prop := fun xs H Q => ∃ (p : Addr) (ys : List V), xs = [.ref p] ∧ ((SqL K H p ys ∧ ∀ l, H l = none → Q (.ref l) (upd H l (.tup ys))) ∨ (SqT K H p ys ∧ Q (.ref p) H))
theorem call_tuple_ofK (h : X.K = K) : CallR X (.type "tuple") (rTupOf K) := by
  subst h
  exact call_tuple_of
def rLstOf (K : PySem.W.Frag) : List V → Hp → VK → Prop := fun xs H Q => ∃ (p : Addr) (ys : List V), xs = [.ref p] ∧ (SqL K H p ys ∨ SqT K H p ys) ∧ ∀ l, H l = none → Q (.ref l) (upd H l (.lst ys))
theorem call_list_ofK (h : X.K = K) : CallR X (.type "list") (rLstOf K) := by
  subst h
  exact call_list_of
end
end Bx
/-! ### heaps: what one list at d may lose, all else as it was -/
namespace Bx
open PySem PySem.Spec PyProof.Rows L2
def Kp (d : Addr) (H H' : Hp) : Prop := ∀ b o, b ≠ d → H b = some o → H' b = some o
theorem Kp.refl (d : Addr) (H : Hp) : Kp d H H := fun _ _ _ h => h
theorem Kp.trans {d : Addr} {H H1 H2 : Hp} (a : Kp d H H1) (b : Kp d H1 H2) : Kp d H H2 := fun c o n h => b c o n (a c o n h)
theorem Same.kp {d : Addr} {H H' : Hp} (s : Same H H') : Kp d H H' := fun b o _ h => s b o h
theorem Kp.own {d : Addr} {H : Hp} {o : HO} : Kp d H (upd H d o) := fun b _ n h => by rw [upd_ne n]; exact h
theorem same_new {H : Hp} {p : Addr} {o : HO} (h : H p = none) : Same H (upd H p o) := fun b x e => by
  rw [upd_ne (ne_of_none e h)]
  exact e
theorem Kp.new {d p : Addr} {H : Hp} {o : HO} (h : H p = none) : Kp d H (upd H p o) := Same.kp (same_new h)
theorem upd_self {H : Hp} {d : Addr} {o : HO} (h : H d = some o) : upd H d o = H := by
  funext b
  by_cases e : b = d
  · rw [e, upd_same, h]
  · rw [upd_ne e]
/-- a list of ints at d -/
def Ints (H : Hp) (d : Addr) (xs : List Int) : Prop := H d = some (.lst (xs.map V.int))
/-- the draws: some list of ints -/
def Drw (H : Hp) (d : Addr) : Prop := ∃ ds : List Int, H d = some (.lst (ds.map V.int))
theorem Drw.new {H : Hp} {d p : Addr} {o : HO} (h : Drw H d) (n : H p = none) : Drw (upd H p o) d := by
  obtain ⟨ds, e⟩ := h
  exact ⟨ds, same_new n _ _ e⟩
theorem Drw.own {H : Hp} {d : Addr} {ds : List Int} : Drw (upd H d (.lst (ds.map V.int))) d := ⟨ds, upd_same⟩
theorem Drw.same {H H' : Hp} {d : Addr} (h : Drw H d) (s : Same H H') : Drw H' d := by
  obtain ⟨ds, e⟩ := h
  exact ⟨ds, s _ _ e⟩
/-- a tuple of ints -/
def TupI (H : Hp) (a : Addr) (xs : List Int) : Prop := H a = some (.tup (xs.map V.int))
theorem Drw.ne_tup {H : Hp} {d a : Addr} {xs : List V} (h : Drw H d) (e : H a = some (.tup xs)) : a ≠ d := by
  obtain ⟨ds, e2⟩ := h
  exact ne_of e e2 (by intro z; cases z)
/-- a lasso: a pair of tuples of ints -/
def Las (H : Hp) (p : Addr) (h l : List Int) : Prop := ∃ a b, H p = some (.tup [.ref a, .ref b]) ∧ H a = some (.tup (h.map V.int)) ∧ H b = some (.tup (l.map V.int))
theorem Las.keep {H H' : Hp} {d p : Addr} {h l : List Int} (k : Kp d H H') (w : Drw H d) (x : Las H p h l) : Las H' p h l := by
  obtain ⟨a, b, e1, e2, e3⟩ := x
  exact ⟨a, b, k _ _ (w.ne_tup e1) e1, k _ _ (w.ne_tup e2) e2, k _ _ (w.ne_tup e3) e3⟩
theorem Las.same {H H' : Hp} {p : Addr} {h l : List Int} (k : Same H H') (x : Las H p h l) : Las H' p h l := by
  obtain ⟨a, b, e1, e2, e3⟩ := x
  exact ⟨a, b, k _ _ e1, k _ _ e2, k _ _ e3⟩
theorem lenI {xs : List Int} (h : xs.length ≤ 1000000) : (xs.map V.int).length < sizeLine := by
  rw [List.length_map]
  exact Nat.lt_of_le_of_lt h (by decide)
theorem ixN_at {n j : Nat} (h : j < n) : ixN n (j : Int) = some j := by
  unfold ixN
  rw [if_pos (by omega), if_pos (by omega)]
  rfl
theorem set_mapI {xs : List Int} {j : Nat} {v : Int} : (xs.map V.int).set j (.int v) = (xs.set j v).map V.int := by rw [List.map_set]
/-- a list or a tuple of ints -/
def SeqI (H : Hp) (a : Addr) (xs : List Int) : Prop := H a = some (.lst (xs.map V.int)) ∨ H a = some (.tup (xs.map V.int))
theorem SeqI.sq {K : PySem.W.Frag} {H : Hp} {a : Addr} {xs : List Int} (h : SeqI H a xs) : SqL K H a (xs.map V.int) ∨ SqT K H a (xs.map V.int) := by
  rcases h with h | h
  · exact .inl (.of h)
  · exact .inr (.of h)
theorem SeqI.same {H H' : Hp} {a : Addr} {xs : List Int} (k : Same H H') (h : SeqI H a xs) : SeqI H' a xs := by
  rcases h with h | h
  · exact .inl (k _ _ h)
  · exact .inr (k _ _ h)
/-- a pair of lists or tuples of ints -/
def Pr (H : Hp) (p : Addr) (h l : List Int) : Prop := ∃ a b, H p = some (.tup [.ref a, .ref b]) ∧ SeqI H a h ∧ SeqI H b l
theorem Las.pr {H : Hp} {p : Addr} {h l : List Int} (x : Las H p h l) : Pr H p h l := by
  obtain ⟨a, b, e1, e2, e3⟩ := x
  exact ⟨a, b, e1, .inr e2, .inr e3⟩
theorem Pr.same {H H' : Hp} {p : Addr} {h l : List Int} (k : Same H H') (x : Pr H p h l) : Pr H' p h l := by
  obtain ⟨a, b, e1, e2, e3⟩ := x
  exact ⟨a, b, k _ _ e1, e2.same k, e3.same k⟩
/-- an item -/
theorem ixq {K : PySem.W.Frag} {H : Hp} {a : Addr} {xs : List Int} {i : Int} {j : Nat} {v : V} {Q : VK} (h : SeqI H a xs) (ei : i = (j : Int)) (e : (xs.map V.int)[j]? = some v) (q : Q v H) : rIx K (.ref a) (.int i) H Q := by
  subst ei
  rcases h with h | h
  · exact .inl ⟨_, _, _, _, rfl, rfl, .of h, atI_nat e, q⟩
  · exact .inr (.inl ⟨_, _, _, _, rfl, rfl, .of h, atI_nat e, q⟩)
theorem ixq_last {K : PySem.W.Frag} {H : Hp} {a : Addr} {xs : List Int} {z : Int} {Q : VK} (h : SeqI H a xs) (e : xs.getLast? = some z) (q : Q (.int z) H) : rIx K (.ref a) (.int (-1)) H Q := by
  obtain ⟨ys, rfl⟩ := List.getLast?_eq_some_iff.mp e
  have g : atI ((ys ++ [z]).map V.int) (-1) = some (.int z) := by
    rw [List.map_append]
    exact atI_last _ _
  rcases h with h | h
  · exact .inl ⟨_, _, _, _, rfl, rfl, .of h, g, q⟩
  · exact .inr (.inl ⟨_, _, _, _, rfl, rfl, .of h, g, q⟩)
theorem at_map {xs : List Int} {j : Nat} (h : j < xs.length) : (xs.map V.int)[j]? = some (.int (xs.getD j 0)) := by
  rw [List.getElem?_map, List.getElem?_eq_getElem h, List.getD_eq_getElem?_getD, List.getElem?_eq_getElem h]
  rfl
/-! slices -/
section
variable {X : Cx} {K : PySem.W.Frag}
def rSlQ (K : PySem.W.Frag) : V → Option Int → Option Int → Hp → VK → Prop := fun x lo hi H Q => rSlL K x lo hi H Q ∨ rSlA K x lo hi H Q
theorem sl_seqK (h : X.K = K) : SlR X (rSlQ K) := by
  subst h
  exact sl_list.or sl_tupA
theorem sl_tupK (h : X.K = K) : SlR X (rSlA K) := by
  subst h
  exact sl_tupA
theorem sl_listK (h : X.K = K) : SlR X (rSlL K) := by
  subst h
  exact sl_list
theorem op_catK (h : X.K = K) : OpR X (binaryOp .Add) (rCatA K) := by
  subst h
  exact op_catA
theorem op_repTK (h : X.K = K) : OpR X (binaryOp .Mult) (rRepT K) := by
  subst h
  exact op_repT
theorem op_eqDK (h : X.K = K) (hu : X.A.units + 64 < cLine) : OpR X (compareOp .Eq) (rEqD K) := by
  subst h
  exact op_eqD hu
theorem op_neDK (h : X.K = K) (hu : X.A.units + 64 < cLine) : OpR X (compareOp .NotEq) (rNeD K) := by
  subst h
  exact op_neD hu
theorem call_minK (h : X.K = K) (hc : X.calm = true) : CallR X (.builtin "min") (rMin K) := by
  subst h
  exact cr_min hc
theorem call_isiK' (h : X.K = K) : CallR X (.builtin "isinstance") (rIsi K) := by
  subst h
  exact call_isi
end
theorem cut_map {xs : List Int} {lo hi : Option Int} : cutV (xs.map V.int) lo hi = ((xs.drop (HT.sIx xs.length 0 lo)).take (HT.sIx xs.length xs.length hi - HT.sIx xs.length 0 lo)).map V.int := by
  unfold cutV
  rw [List.length_map, List.map_take, List.map_drop]
/-- a slice of a tuple -/
theorem slt {K : PySem.W.Frag} {H : Hp} {a : Addr} {xs ys : List Int} {lo hi : Option Int} {Q : VK} (h : TupI H a xs) (e : (xs.drop (HT.sIx xs.length 0 lo)).take (HT.sIx xs.length xs.length hi - HT.sIx xs.length 0 lo) = ys)
    (q : ∀ (H' : Hp) (p : Addr), Same H H' → TupI H' p ys → Q (.ref p) H') : rSlA K (.ref a) lo hi H Q := by
  subst e
  refine ⟨a, _, rfl, .of h, fun w => ?_, fun _ p hp => q _ p (same_new hp) ?_⟩
  · refine q H a (Same.refl H) ?_
    rw [List.length_map] at w
    rw [w.1, w.2, List.drop_zero, Nat.sub_zero, List.take_length]
    exact h
  · unfold TupI
    rw [upd_same, cut_map]
/-- a slice of a list or tuple -/
theorem slq {K : PySem.W.Frag} {H : Hp} {a : Addr} {xs ys : List Int} {lo hi : Option Int} {Q : VK} (h : SeqI H a xs) (e : (xs.drop (HT.sIx xs.length 0 lo)).take (HT.sIx xs.length xs.length hi - HT.sIx xs.length 0 lo) = ys)
    (q : ∀ (H' : Hp) (p : Addr), Same H H' → SeqI H' p ys → Q (.ref p) H') : rSlQ K (.ref a) lo hi H Q := by
  rcases h with h | h
  · subst e
    refine .inl ⟨a, _, rfl, .of h, fun p hp => q _ p (same_new hp) (.inl ?_)⟩
    rw [upd_same, cut_map]
  · exact .inr (slt h e fun H' p s t => q H' p s (.inr t))
theorem cut_to (xs : List Int) (n : Nat) : (xs.drop (HT.sIx xs.length 0 none)).take (HT.sIx xs.length xs.length (some (n : Int)) - HT.sIx xs.length 0 none) = xs.take n := by
  rw [HT.sIx_none, HT.sIx_nat, List.drop_zero, Nat.sub_zero]
  rcases Nat.le_total n xs.length with c | c
  · rw [Nat.min_eq_left c]
  · rw [Nat.min_eq_right c, List.take_length, List.take_of_length_le c]
theorem cut_from (xs : List Int) {n : Nat} (hn : n ≤ xs.length) : (xs.drop (HT.sIx xs.length 0 (some (n : Int)))).take (HT.sIx xs.length xs.length none - HT.sIx xs.length 0 (some (n : Int))) = xs.drop n := by
  rw [HT.sIx_none, HT.sIx_nat, Nat.min_eq_left hn]
  exact List.take_of_length_le (by rw [List.length_drop]; exact Nat.le_refl _)
theorem slt_to {K : PySem.W.Frag} {H : Hp} {a : Addr} {xs : List Int} {k : Int} {n : Nat} {Q : VK} (h : TupI H a xs) (ek : k = (n : Int))
    (q : ∀ (H' : Hp) (p : Addr), Same H H' → TupI H' p (xs.take n) → Q (.ref p) H') : rSlA K (.ref a) none (some k) H Q := by
  subst ek
  exact slt h (cut_to xs n) q
theorem slt_from {K : PySem.W.Frag} {H : Hp} {a : Addr} {xs : List Int} {k : Int} {n : Nat} {Q : VK} (h : TupI H a xs) (ek : k = (n : Int)) (hn : n ≤ xs.length)
    (q : ∀ (H' : Hp) (p : Addr), Same H H' → TupI H' p (xs.drop n) → Q (.ref p) H') : rSlA K (.ref a) (some k) none H Q := by
  subst ek
  exact slt h (cut_from xs hn) q
theorem slq_to {K : PySem.W.Frag} {H : Hp} {a : Addr} {xs : List Int} {k : Int} {n : Nat} {Q : VK} (h : SeqI H a xs) (ek : k = (n : Int))
    (q : ∀ (H' : Hp) (p : Addr), Same H H' → SeqI H' p (xs.take n) → Q (.ref p) H') : rSlQ K (.ref a) none (some k) H Q := by
  subst ek
  exact slq h (cut_to xs n) q
theorem slq_mid {K : PySem.W.Frag} {H : Hp} {a : Addr} {xs : List Int} {k k2 : Int} {n m : Nat} {Q : VK} (h : SeqI H a xs) (ek : k = (n : Int)) (ek2 : k2 = (m : Int)) (hn : n ≤ xs.length) (hm : m ≤ xs.length)
    (q : ∀ (H' : Hp) (p : Addr), Same H H' → SeqI H' p ((xs.drop n).take (m - n)) → Q (.ref p) H') : rSlQ K (.ref a) (some k) (some k2) H Q := by
  subst ek
  subst ek2
  refine slq h ?_ q
  rw [HT.sIx_nat, HT.sIx_nat, Nat.min_eq_left hn, Nat.min_eq_left hm]
/-- tuple(x) -/
theorem tupq {K : PySem.W.Frag} {H : Hp} {a : Addr} {xs : List Int} {Q : VK} (h : SeqI H a xs) (q : ∀ (H' : Hp) (p : Addr), Same H H' → TupI H' p xs → Q (.ref p) H') : rTupOf K [.ref a] H Q := by
  rcases h with h | h
  · exact ⟨a, _, rfl, .inl ⟨.of h, fun p hp => q _ p (same_new hp) upd_same⟩⟩
  · exact ⟨a, _, rfl, .inr ⟨.of h, q H a (Same.refl H) h⟩⟩
/-- x + y of tuples -/
theorem catq {K : PySem.W.Frag} {H : Hp} {a b : Addr} {xs ys : List Int} {Q : VK} (h : TupI H a xs) (g : TupI H b ys) (hl : xs.length + ys.length ≤ 1000000) (q : ∀ (H' : Hp) (p : Addr), Same H H' → TupI H' p (xs ++ ys) → Q (.ref p) H') : rCatA K (.ref a) (.ref b) H Q := by
  refine ⟨a, b, _, _, rfl, rfl, .of h, .of g, ?_, fun z => ?_, fun _ z => ?_, fun _ _ p hp => ?_⟩
  · rw [List.length_map, List.length_map]
    exact Nat.le_trans hl (by decide)
  · have e : xs = [] := List.map_eq_nil_iff.mp z
    refine q H b (Same.refl H) ?_
    rw [e]
    exact g
  · have e : ys = [] := List.map_eq_nil_iff.mp z
    refine q H a (Same.refl H) ?_
    rw [e, List.append_nil]
    exact h
  · refine q _ p (same_new hp) ?_
    unfold TupI
    rw [upd_same, List.map_append]
/-- a slice of a list -/
theorem sll_from {K : PySem.W.Frag} {H : Hp} {a : Addr} {xs : List Int} {k : Int} {n : Nat} {Q : VK} (h : H a = some (.lst (xs.map V.int))) (ek : k = (n : Int)) (hn : n ≤ xs.length)
    (q : ∀ p, H p = none → Q (.ref p) (upd H p (.lst ((xs.drop n).map V.int)))) : rSlL K (.ref a) (some k) none H Q := by
  subst ek
  refine ⟨a, _, rfl, .of h, fun p hp => ?_⟩
  rw [cut_map, cut_from xs hn]
  exact q p hp
theorem sll_to {K : PySem.W.Frag} {H : Hp} {a : Addr} {xs : List Int} {k : Int} {n : Nat} {Q : VK} (h : H a = some (.lst (xs.map V.int))) (ek : k = (n : Int))
    (q : ∀ p, H p = none → Q (.ref p) (upd H p (.lst ((xs.take n).map V.int)))) : rSlL K (.ref a) none (some k) H Q := by
  subst ek
  refine ⟨a, _, rfl, .of h, fun p hp => ?_⟩
  rw [cut_map, cut_to xs n]
  exact q p hp
/-! == of data -/
theorem eqvAll_int : ∀ xs ys : List Int, PyData.eqvAll (xs.map PyData.int) (ys.map PyData.int) = decide (xs = ys)
  | [], [] => by simp [PyData.eqvAll]
  | [], y :: ys => by simp [PyData.eqvAll]
  | x :: xs, [] => by simp [PyData.eqvAll]
  | x :: xs, y :: ys => by
    rw [List.map_cons, List.map_cons, PyData.eqvAll, eqvAll_int xs ys, PyData.eqv]
    by_cases c : x = y
    · by_cases d : xs = ys
      · simp [c, d]
      · simp [c, d]
    · simp [c]
theorem eqv_tup (xs ys : List Int) : PyData.eqv (.tuple (xs.map PyData.int)) (.tuple (ys.map PyData.int)) = decide (xs = ys) := by
  rw [PyData.eqv]
  exact eqvAll_int xs ys
theorem eqv_lst (xs ys : List Int) : PyData.eqv (.list (xs.map PyData.int)) (.list (ys.map PyData.int)) = decide (xs = ys) := by
  rw [PyData.eqv]
  exact eqvAll_int xs ys
theorem layAll : ∀ xs : List Int, PyData.canLayAll0 (xs.map PyData.int) = true
  | [] => rfl
  | x :: xs => by
    rw [List.map_cons, PyData.canLayAll0, layAll xs]
    rfl
theorem depAll : ∀ xs : List Int, PyData.depthAll (xs.map PyData.int) = 0
  | [] => by simp [PyData.depthAll]
  | x :: xs => by
    rw [List.map_cons, PyData.depthAll, depAll xs]
    simp [PyData.depth]
theorem shaped_tup (xs : List Int) : SeqAt.shaped (.tuple (xs.map PyData.int)) = true := by
  unfold SeqAt.shaped
  rw [PyData.canLay0, layAll, PyData.depth, depAll]
  rfl
theorem shaped_lst (xs : List Int) : SeqAt.shaped (.list (xs.map PyData.int)) = true := by
  unfold SeqAt.shaped
  rw [PyData.canLay0, layAll, PyData.depth, depAll]
  rfl
theorem dpAll_int {K : PySem.W.Frag} {H : Hp} : ∀ xs : List Int, DpAll K H (xs.map V.int) (xs.map PyData.int)
  | [] => .nil
  | x :: xs => .cons (.int x) (dpAll_int xs)
theorem dp_lst {K : PySem.W.Frag} {H : Hp} {a : Addr} {xs : List Int} (h : H a = some (.lst (xs.map V.int))) : Dp K H (.ref a) (.list (xs.map PyData.int)) := .lst (.of h) (dpAll_int xs)
theorem dp_tup {K : PySem.W.Frag} {H : Hp} {a : Addr} {xs : List Int} (h : TupI H a xs) : Dp K H (.ref a) (.tuple (xs.map PyData.int)) := .tup (.of h) (dpAll_int xs)
theorem ite_ne {x y : Int} {A B : Prop} (h1 : x ≠ y → A) (h2 : x = y → B) : if (!decide (V.int x = V.int y)) = true then A else B := by
  by_cases c : x = y
  · rw [c, decide_eq_true rfl]
    exact iteF (h2 c)
  · rw [decide_eq_false (fun z => c (V.int.inj z))]
    exact iteT (h1 c)
theorem ite_eq {x y : Int} {A B : Prop} (h1 : x = y → A) (h2 : x ≠ y → B) : if decide (V.int x = V.int y) = true then A else B := by
  by_cases c : x = y
  · rw [c, decide_eq_true rfl]
    exact iteT (h1 c)
  · rw [decide_eq_false (fun z => c (V.int.inj z))]
    exact iteF (h2 c)
theorem ite_lt {x y : Int} {A B : Prop} (h1 : x < y → A) (h2 : y ≤ x → B) : if decide (x < y) = true then A else B := by
  by_cases c : x < y
  · rw [decide_eq_true c]
    exact iteT (h1 c)
  · rw [decide_eq_false c]
    exact iteF (h2 (by omega))
/-! ### the letters of a word -/
def wat (h l : List Int) (t : Nat) : Int := if t < h.length then h.getD t 0 else l.getD ((t - h.length) % l.length) 0
theorem wat_head {h l : List Int} {t : Nat} (c : t < h.length) : (h.map V.int)[t]? = some (.int (wat h l t)) := by
  unfold wat
  rw [if_pos c, List.getElem?_map, List.getElem?_eq_getElem c, List.getD_eq_getElem?_getD, List.getElem?_eq_getElem c]
  rfl
theorem wat_loop {h l : List Int} {t : Nat} (c : ¬ t < h.length) (n : l ≠ []) : (l.map V.int)[(t - h.length) % l.length]? = some (.int (wat h l t)) := by
  have hl : 0 < l.length := List.length_pos_iff.mpr n
  have c2 : (t - h.length) % l.length < l.length := Nat.mod_lt _ hl
  unfold wat
  rw [if_neg c, List.getElem?_map, List.getElem?_eq_getElem c2, List.getD_eq_getElem?_getD, List.getElem?_eq_getElem c2]
  rfl
theorem ix_mod {t n m : Nat} (h : n ≤ t) : ((t : Int) - (n : Int)) % (m : Int) = (((t - n) % m : Nat) : Int) := by
  have e : ((t : Int) - (n : Int)) = ((t - n : Nat) : Int) := by omega
  rw [e]
  rfl
/-! ### promises of the helpers -/
def spTake : Sp := fun vs H Q _ => ∃ (d : Addr) (n : Int), vs = [.ref d, .int n] ∧ Drw H d ∧ 0 < n ∧
  ∀ (r : Int) (ds : List Int), 0 ≤ r → r < n → Q (.int r) (upd H d (.lst (ds.map V.int)))
def spDraws (K : PySem.W.Frag) : Sp := fun vs H Q _ => ∃ (a : Addr) (ns : List Int) (c : Nat), vs = [.ref a, .int c] ∧ SqL K H a (ns.map V.int) ∧ c ≤ 1000 ∧
  ∀ (H' : Hp) (d : Addr), Same H H' → H d = none → Drw H' d → Q (.ref d) H'
def spAt : Sp := fun vs H Q _ => ∃ (p : Addr) (h l : List Int) (t : Nat), vs = [.ref p, .int t] ∧ Pr H p h l ∧ l ≠ [] ∧ Q (.int (wat h l t)) H
def spLasso : Sp := fun vs H Q _ => ∃ (d : Addr) (n : Int) (m : Nat), vs = [.ref d, .int n, .int m] ∧ Drw H d ∧ 0 < n ∧ 0 < m ∧ m ≤ 1000 ∧
  ∀ (H' : Hp) (p : Addr) (h l : List Int), Kp d H H' → Drw H' d → Las H' p h l → h.length ≤ m → l ≠ [] → l.length ≤ m → (∀ x ∈ h, 0 ≤ x ∧ x < n) → (∀ x ∈ l, 0 ≤ x ∧ x < n) → Q (.ref p) H'
/-- v says where f and g first differ below n -/
def IsDiff (f g : Nat → Int) (n : Nat) (v : V) : Prop := (v = .non ∧ ∀ t < n, f t = g t) ∨ ∃ t, t < n ∧ v = .int (t : Nat) ∧ f t ≠ g t ∧ ∀ s < t, f s = g s
theorem IsDiff.uniq {f g : Nat → Int} {n : Nat} {v u : V} (a : IsDiff f g n v) (b : IsDiff f g n u) : v = u := by
  rcases a with ⟨rfl, a⟩ | ⟨t, ht, rfl, a1, a2⟩
  · rcases b with ⟨rfl, b⟩ | ⟨s, hs, rfl, b1, b2⟩
    · rfl
    · exact absurd (a s hs) b1
  · rcases b with ⟨rfl, b⟩ | ⟨s, hs, rfl, b1, b2⟩
    · exact absurd (b t ht) a1
    · rcases Nat.lt_trichotomy t s with c | c | c
      · exact absurd (b2 t c) a1
      · rw [c]
      · exact absurd (a2 s c) b1
theorem IsDiff.swap {f g : Nat → Int} {n : Nat} {v : V} (a : IsDiff f g n v) : IsDiff g f n v := by
  rcases a with ⟨rfl, a⟩ | ⟨t, ht, rfl, a1, a2⟩
  · exact .inl ⟨rfl, fun t h => (a t h).symm⟩
  · exact .inr ⟨t, ht, rfl, a1.symm, fun s h => (a2 s h).symm⟩
def dfn (h1 l1 h2 l2 : List Int) : Nat := max h1.length h2.length + l1.length + l2.length
def spFd : Sp := fun vs H Q _ => ∃ (p q : Addr) (h1 l1 h2 l2 : List Int), vs = [.ref p, .ref q] ∧ Las H p h1 l1 ∧ Las H q h2 l2 ∧ l1 ≠ [] ∧ l2 ≠ [] ∧ dfn h1 l1 h2 l2 ≤ 1000000 ∧
  ∀ v, IsDiff (wat h1 l1) (wat h2 l2) (dfn h1 l1 h2 l2) v → Q v H
theorem max_if (a b : Nat) : (if ((b : Nat) : Int) > (a : Int) then (b : Int) else (a : Int)) = ((max a b : Nat) : Int) := by
  by_cases h : ((b : Nat) : Int) > (a : Int)
  · rw [if_pos h]
    omega
  · rw [if_neg h]
    omega
/-- the letters of a list, by places -/
def lw (l : List Int) : Nat → Int := fun i => l.getD i 0
def spPeriod : Sp := fun vs H Q _ => ∃ (a : Addr) (l : List Int), vs = [.ref a] ∧ SeqI H a l ∧ l ≠ [] ∧ l.length ≤ 1000000 ∧
  ∀ (H' : Hp) (r : Nat), Same H H' → Wd.Least (lw l) l.length r → Q (.int r) H'
/-- the normal form (h', l') of (h, l) -/
structure Short (h l h' l' : List Int) : Prop where
  ne : l' ≠ []
  same : ∀ t, wat h' l' t = wat h l t
  hl : h'.length ≤ h.length
  ll : l'.length ≤ l.length
  last : h' ≠ [] → h'.getLast? ≠ l'.getLast?
  prim : ∀ p, 0 < p → p < l'.length → p ∣ l'.length → ∃ i, i + p < l'.length ∧ lw l' i ≠ lw l' (i + p)
  memH : ∀ x ∈ h', x ∈ h
  memL : ∀ x ∈ l', x ∈ l
/-- the letter of the repeated word at any whole number of turns from where it begins -/
def bk (l : List Int) (r : Nat) (z : Int) : Int := lw l ((z % (r : Int)).toNat)
def rot (l : List Int) (r c : Nat) : List Int := (l.drop c).take (r - c) ++ l.take c
theorem rot_len {l : List Int} {r c : Nat} (hc : c < r) (hr : r ≤ l.length) : (rot l r c).length = r := by
  unfold rot
  rw [List.length_append, List.length_take, List.length_drop, List.length_take]
  omega
theorem lw_get {l : List Int} {i : Nat} (h : i < l.length) : l[i]? = some (lw l i) := by
  unfold lw
  rw [List.getD_eq_getElem?_getD, List.getElem?_eq_getElem h]
  rfl
theorem lw_of {l : List Int} {i : Nat} {x : Int} (h : l[i]? = some x) : lw l i = x := by
  unfold lw
  rw [List.getD_eq_getElem?_getD, h]
  rfl
theorem rot_at {l : List Int} {r c j : Nat} (hc : c < r) (hr : r ≤ l.length) (hj : j < r) : lw (rot l r c) j = lw l ((j + c) % r) := by
  apply lw_of
  unfold rot
  have e1 : ((l.drop c).take (r - c)).length = r - c := by
    rw [List.length_take, List.length_drop]
    omega
  rcases Nat.lt_or_ge j (r - c) with h | h
  · rw [List.getElem?_append_left (by rw [e1]; exact h), List.getElem?_take, if_pos h, List.getElem?_drop, Nat.mod_eq_of_lt (by omega), Nat.add_comm c j]
    exact lw_get (by omega)
  · rw [List.getElem?_append_right (by rw [e1]; exact h), e1, List.getElem?_take, if_pos (by omega)]
    have e2 : (j + c) % r = j - (r - c) := by
      rw [Nat.mod_eq_sub_mod (by omega), Nat.mod_eq_of_lt (by omega)]
      omega
    rw [e2]
    exact lw_get (by omega)
theorem bk_shift {l : List Int} {r : Nat} {a b z : Int} (h : a = b + r * z) : bk l r a = bk l r b := by
  unfold bk
  rw [h, Int.add_mul_emod_self_left]
theorem bk_nat {l : List Int} {r t : Nat} : bk l r (t : Int) = lw l (t % r) := rfl
theorem least_le {w : Nat → Int} {n r : Nat} (hn : 0 < n) (L : Wd.Least w n r) : r ≤ n := Nat.le_of_dvd hn L.dvd
/-- the letters of l repeated, by the least repetition -/
theorem cyc_least {l : List Int} {r : Nat} (hn : 0 < l.length) (L : Wd.Least (lw l) l.length r) (i : Nat) : lw l (i % l.length) = bk l r (i : Int) := by
  have h1 : Wd.cyc (lw l) l.length i = Wd.cyc (lw l) l.length (i % r) := L.rp.mod
  have h2 : Wd.cyc (lw l) l.length (i % r) = lw l (i % r) := Wd.cyc_lt (Nat.lt_of_lt_of_le (Nat.mod_lt _ L.pos) (least_le hn L))
  rw [bk_nat, ← h2, ← h1]
  rfl
theorem cut_lt {r : Nat} (hr : 0 < r) (z : Int) : (z % (r : Int)).toNat < r := by
  have h1 := Int.emod_nonneg z (show (r : Int) ≠ 0 by omega)
  have h2 := Int.emod_lt_of_pos z (show (0 : Int) < (r : Int) by omega)
  omega
theorem cut_int {r : Nat} (hr : 0 < r) (z : Int) : (((z % (r : Int)).toNat : Nat) : Int) = z - r * (z / r) := by
  have h1 := Int.emod_nonneg z (show (r : Int) ≠ 0 by omega)
  rw [Int.toNat_of_nonneg h1, Int.emod_def]
theorem rot_bk {l : List Int} {r : Nat} (hr0 : 0 < r) (hr : r ≤ l.length) (z : Int) (j : Nat) : lw (rot l r (z % (r : Int)).toNat) (j % r) = bk l r ((j : Int) + z) := by
  rw [rot_at (cut_lt hr0 z) hr (Nat.mod_lt _ hr0), Nat.mod_add_mod]
  have h : bk l r (((j + (z % (r : Int)).toNat : Nat)) : Int) = bk l r ((j : Int) + z) := bk_shift (z := -(z / r)) (by
    rw [Int.natCast_add, cut_int hr0, Int.mul_neg]
    omega)
  rw [← h]
  rfl
theorem short_of {h l : List Int} {r k : Nat} (hne : l ≠ []) (L : Wd.Least (lw l) l.length r) (hk : k ≤ h.length)
    (hB : ∀ t, k ≤ t → t < h.length → lw h t = bk l r ((t : Int) - (h.length : Int))) (hX : k = 0 ∨ lw h (k - 1) ≠ bk l r ((k : Int) - 1 - (h.length : Int))) :
    Short h l (h.take k) (rot l r (((k : Int) - (h.length : Int)) % (r : Int)).toNat) := by
  have hn : 0 < l.length := List.length_pos_iff.mpr hne
  have hr0 := L.pos
  have hr := least_le hn L
  have hlen := rot_len (cut_lt hr0 ((k : Int) - (h.length : Int))) hr
  have htk : (h.take k).length = k := by
    rw [List.length_take]
    omega
  refine ⟨fun z => ?_, fun t => ?_, by rw [htk]; exact hk, by rw [hlen]; exact hr, fun hh => ?_, fun p hp hpl hpd => ?_, fun x hx => List.mem_of_mem_take hx, fun x hx => ?_⟩
  · rw [z] at hlen
    have : (0 : Nat) = r := hlen
    omega
  · unfold wat
    rw [htk, hlen]
    by_cases c : t < k
    · rw [if_pos c, if_pos (by omega), List.getD_eq_getElem?_getD, List.getD_eq_getElem?_getD, List.getElem?_take, if_pos c]
    · rw [if_neg c]
      have e1 := rot_bk (l := l) hr0 hr ((k : Int) - (h.length : Int)) (t - k)
      have e2 : ((t - k : Nat) : Int) + ((k : Int) - (h.length : Int)) = (t : Int) - (h.length : Int) := by omega
      rw [e2] at e1
      show lw _ _ = _
      rw [e1]
      by_cases d : t < h.length
      · rw [if_pos d]
        exact (hB t (by omega) d).symm
      · rw [if_neg d]
        have e3 : (t : Int) - (h.length : Int) = ((t - h.length : Nat) : Int) := by omega
        rw [e3]
        exact (cyc_least hn L _).symm
  · have hk0 : k ≠ 0 := fun z => hh (by rw [z]; rfl)
    rcases hX with z | z
    · exact absurd z hk0
    · rw [List.getLast?_eq_getElem?, List.getLast?_eq_getElem?, htk, hlen]
      rw [List.getElem?_take, if_pos (by omega), lw_get (show k - 1 < h.length by omega), lw_get (show r - 1 < (rot l r _).length by rw [hlen]; omega)]
      intro q
      refine z ?_
      rw [Option.some.inj q]
      have e1 := rot_bk (l := l) hr0 hr ((k : Int) - (h.length : Int)) (r - 1)
      rw [Nat.mod_eq_of_lt (show r - 1 < r by omega)] at e1
      rw [e1]
      exact bk_shift (z := 1) (by omega)
  · rw [hlen] at hpl hpd ⊢
    apply Classical.byContradiction
    intro hno
    have hall : ∀ i, i + p < r → lw (rot l r (((k : Int) - (h.length : Int)) % (r : Int)).toNat) i = lw (rot l r (((k : Int) - (h.length : Int)) % (r : Int)).toNat) (i + p) := fun i hi =>
      Classical.byContradiction fun q => hno ⟨i, hi, q⟩
    have hrp := Wd.rp_of hp hpd hr0 hall
    have key : ∀ i, Wd.cyc (lw l) l.length i = Wd.cyc (lw (rot l r (((k : Int) - (h.length : Int)) % (r : Int)).toNat)) r (i + (r - (((k : Int) - (h.length : Int)) % (r : Int)).toNat)) := by
      intro i
      have hc := cut_lt hr0 ((k : Int) - (h.length : Int))
      have a1 : Wd.cyc (lw l) l.length i = bk l r (i : Int) := cyc_least hn L i
      have a2 := rot_at hc hr (Nat.mod_lt (i + (r - (((k : Int) - (h.length : Int)) % (r : Int)).toNat)) hr0)
      rw [a1]
      show _ = lw _ (_ % r)
      rw [a2, Nat.mod_add_mod, show i + (r - (((k : Int) - (h.length : Int)) % (r : Int)).toNat) + (((k : Int) - (h.length : Int)) % (r : Int)).toNat = i + r by omega, Nat.add_mod_right]
      rfl
    have hR : Wd.Rp (lw l) l.length p := fun i => by
      rw [key, key, Nat.add_right_comm]
      exact hrp _
    have := L.min p hp (Nat.dvd_trans hpd L.dvd) hR
    omega
  · unfold rot at hx
    rcases List.mem_append.mp hx with z | z
    · exact List.mem_of_mem_drop (List.mem_of_mem_take z)
    · exact List.mem_of_mem_take z
theorem rp_mod {w : Nat → Int} {n p q : Nat} (hp : Wd.Rp w n p) (hq : Wd.Rp w n q) : Wd.Rp w n (q % p) := fun i => by
  have a := hp.mul (q / p) (i + q % p)
  rw [Nat.mul_comm, Nat.add_assoc, Nat.mod_add_div] at a
  rw [← a]
  exact hq i
theorem rp_gcd {w : Nat → Int} {n : Nat} (p q : Nat) : Wd.Rp w n p → Wd.Rp w n q → Wd.Rp w n (Nat.gcd p q) := by
  induction p, q using Nat.gcd.induction with
  | H0 q => intro _ hq; rw [Nat.gcd_zero_left]; exact hq
  | H1 p q hp ih => intro h1 h2; rw [Nat.gcd_rec]; exact ih (rp_mod h1 h2) h1
/-- the normal form -/
structure Nrm (h l : List Int) : Prop where
  ne : l ≠ []
  last : h ≠ [] → h.getLast? ≠ l.getLast?
  prim : ∀ p, 0 < p → p < l.length → p ∣ l.length → ∃ i, i + p < l.length ∧ lw l i ≠ lw l (i + p)
theorem Short.nrm {h l h' l' : List Int} (s : Short h l h' l') : Nrm h' l' := ⟨s.ne, s.last, s.prim⟩
theorem Nrm.pos {h l : List Int} (N : Nrm h l) : 0 < l.length := List.length_pos_iff.mpr N.ne
theorem wat_cyc {h l : List Int} {t : Nat} (c : h.length ≤ t) : wat h l t = Wd.cyc (lw l) l.length (t - h.length) := by
  unfold wat
  rw [if_neg (by omega)]
  rfl
/-- every period that the word has from some turn on is a multiple of the loop's length -/
theorem Nrm.dvd {h l : List Int} (N : Nrm h l) {p M : Nat} (hP : ∀ t, M ≤ t → wat h l (t + p) = wat h l t) : l.length ∣ p := by
  have hr := N.pos
  have hRp : Wd.Rp (lw l) l.length p := fun i => by
    have self := Wd.rp_self (lw l) l.length
    have e1 := self.mul M i
    have e2 := self.mul M (i + p)
    have hM : M ≤ M * l.length := Nat.le_mul_of_pos_right M hr
    have q := hP (h.length + (i + M * l.length)) (by omega)
    rw [wat_cyc (by omega), wat_cyc (by omega)] at q
    rw [show h.length + (i + M * l.length) + p - h.length = i + p + M * l.length by omega, show h.length + (i + M * l.length) - h.length = i + M * l.length by omega, e1, e2] at q
    exact q
  have hg := rp_gcd p l.length hRp (Wd.rp_self (lw l) l.length)
  have gd : Nat.gcd p l.length ∣ l.length := Nat.gcd_dvd_right p l.length
  have gp : 0 < Nat.gcd p l.length := Nat.gcd_pos_of_pos_right p hr
  have gl := Nat.le_of_dvd hr gd
  rcases Nat.lt_or_ge (Nat.gcd p l.length) l.length with c | c
  · obtain ⟨i, hi, hne⟩ := N.prim _ gp c gd
    refine absurd ?_ hne
    have := hg i
    rw [Wd.cyc_lt hi, Wd.cyc_lt (by omega)] at this
    exact this.symm
  · have e : Nat.gcd p l.length = l.length := by omega
    rw [← e]
    exact Nat.gcd_dvd_left p l.length
theorem wat_per {h l : List Int} {t : Nat} (c : h.length ≤ t) : wat h l (t + l.length) = wat h l t := by
  rw [wat_cyc c, wat_cyc (by omega), show t + l.length - h.length = (t - h.length) + l.length by omega]
  exact Wd.rp_self (lw l) l.length _
theorem last_at {l : List Int} (n : l ≠ []) : l.getLast? = some (lw l (l.length - 1)) := by
  have := List.length_pos_iff.mpr n
  rw [List.getLast?_eq_getElem?]
  exact lw_get (by omega)
theorem Nrm.head_le {h l g m : List Int} (N : Nrm h l) (hs : ∀ t, wat h l t = wat g m t) (e : l.length = m.length) : h.length ≤ g.length := by
  rcases Nat.lt_or_ge g.length h.length with c | c
  · exfalso
    have hne : h ≠ [] := List.length_pos_iff.mp (by omega)
    refine N.last hne ?_
    rw [last_at hne, last_at N.ne]
    congr 1
    have hp := N.pos
    have a1 : wat h l (h.length - 1) = lw h (h.length - 1) := by
      unfold wat
      rw [if_pos (by omega)]
      rfl
    have a2 : wat h l (h.length - 1 + l.length) = lw l (l.length - 1) := by
      rw [wat_cyc (by omega), show h.length - 1 + l.length - h.length = l.length - 1 by omega, Wd.cyc_lt (by omega)]
    rw [← a1, ← a2, hs, hs, e]
    exact (wat_per (by omega)).symm
  · exact c
theorem Nrm.uniq {h l g m : List Int} (N : Nrm h l) (M : Nrm g m) (hs : ∀ t, wat h l t = wat g m t) : h = g ∧ l = m := by
  have d1 : l.length ∣ m.length := N.dvd (M := g.length) fun t ht => by
    rw [hs, hs]
    exact wat_per ht
  have d2 : m.length ∣ l.length := M.dvd (M := h.length) fun t ht => by
    rw [← hs, ← hs]
    exact wat_per ht
  have e : l.length = m.length := Nat.dvd_antisymm d1 d2
  have e2 : h.length = g.length := Nat.le_antisymm (N.head_le hs e) (M.head_le (fun t => (hs t).symm) e.symm)
  refine ⟨List.ext_getElem e2 fun i h1 h2 => ?_, List.ext_getElem e fun i h1 h2 => ?_⟩
  · have := hs i
    unfold wat at this
    rw [if_pos h1, if_pos h2, List.getD_eq_getElem?_getD, List.getD_eq_getElem?_getD, List.getElem?_eq_getElem h1, List.getElem?_eq_getElem h2] at this
    exact this
  · have := hs (h.length + i)
    rw [wat_cyc (by omega), wat_cyc (by omega), show h.length + i - h.length = i by omega, show h.length + i - g.length = i by omega, Wd.cyc_lt h1, Wd.cyc_lt h2] at this
    have a1 := lw_get h1
    have a2 := lw_get h2
    rw [List.getElem?_eq_getElem h1] at a1
    rw [List.getElem?_eq_getElem h2] at a2
    rw [Option.some.inj a1, Option.some.inj a2, this]
theorem at_last {l : List Int} (n : l ≠ []) : atI (l.map V.int) (-1) = some (.int (lw l (l.length - 1))) := by
  have hp := List.length_pos_iff.mpr n
  have e : l.map V.int = (l.dropLast.map V.int) ++ [.int (l.getLast n)] := by
    rw [← List.map_singleton, ← List.map_append, List.dropLast_concat_getLast]
  rw [e, atI_last]
  have q := last_at n
  rw [List.getLast?_eq_getLast n] at q
  rw [Option.some.inj q]
/-! repetition of a text -/
theorem flat_at {w : List Int} : ∀ (k i : Nat), i < k * w.length → (List.replicate k w).flatten[i]? = w[i % w.length]?
  | 0, i, h => by
    rw [Nat.zero_mul] at h
    exact absurd h (Nat.not_lt_zero i)
  | k + 1, i, h => by
    rw [List.replicate_succ, List.flatten_cons]
    rcases Nat.lt_or_ge i w.length with c | c
    · rw [List.getElem?_append_left c, Nat.mod_eq_of_lt c]
    · rw [List.getElem?_append_right c, flat_at k (i - w.length) (by rw [Nat.succ_mul] at h; omega), ← Nat.mod_eq_sub_mod c]
theorem flat_per {l : List Int} {p k : Nat} (hp : 0 < p) (hpl : p ≤ l.length) (e : l = (List.replicate k (l.take p)).flatten) (hk : k * p = l.length) : ∀ i, i + p < l.length → lw l i = lw l (i + p) := by
  intro i hi
  have el : (l.take p).length = p := by
    rw [List.length_take]
    omega
  have at_ : ∀ j, j < l.length → l[j]? = (l.take p)[j % p]? := fun j hj => by
    have h0 := flat_at (w := l.take p) k j (by rw [el, hk]; exact hj)
    rw [← e, el] at h0
    exact h0
  have h1 := at_ i (by omega)
  have h2 := at_ (i + p) hi
  rw [Nat.add_mod_right, ← h1, lw_get hi, lw_get (show i < l.length by omega)] at h2
  exact (Option.some.inj h2).symm
def spShort : Sp := fun vs H Q _ => ∃ (a b : Addr) (h l : List Int), vs = [.ref a, .ref b] ∧ SeqI H a h ∧ SeqI H b l ∧ l ≠ [] ∧ h.length ≤ 100000 ∧ l.length ≤ 100000 ∧
  ∀ (H' : Hp) (p : Addr) (h' l' : List Int), Same H H' → Las H' p h' l' → Short h l h' l' → Q (.ref p) H'
/-- what suffix hands back -/
def Suf (h l : List Int) (t : Nat) (h' l' : List Int) : Prop := Nrm h' l' ∧ (∀ i, wat h' l' i = wat h l (t + i)) ∧ h'.length ≤ h.length ∧ l'.length ≤ l.length ∧ (∀ x ∈ h', x ∈ h ∨ x ∈ l) ∧ ∀ x ∈ l', x ∈ l
def spSuffix : Sp := fun vs H Q _ => ∃ (p : Addr) (h l : List Int) (t : Nat), vs = [.ref p, .int t] ∧ Las H p h l ∧ l ≠ [] ∧ h.length ≤ 50000 ∧ l.length ≤ 50000 ∧
  ∀ (H' : Hp) (p' : Addr) (h' l' : List Int), Same H H' → Las H' p' h' l' → Suf h l t h' l' → Q (.ref p') H'
def spMake : Sp := fun vs H Q _ => ∃ (a b : Addr) (h l : List Int), vs = [.ref a, .ref b] ∧ H a = some (.lst (h.map V.int)) ∧ H b = some (.lst (l.map V.int)) ∧ l ≠ [] ∧ h.length ≤ 100000 ∧ l.length ≤ 100000 ∧ (∀ x ∈ h, 0 ≤ x) ∧ (∀ x ∈ l, 0 ≤ x) ∧
  ∀ (H' : Hp) (p : Addr) (h' l' : List Int), Same H H' → Las H' p h' l' → Short h l h' l' → Q (.ref p) H'
theorem suf_drop {h l : List Int} {t : Nat} (c : t < h.length) (i : Nat) : wat (h.drop t) l i = wat h l (t + i) := by
  unfold wat
  rw [List.length_drop]
  by_cases d : t + i < h.length
  · rw [if_pos d, if_pos (by omega), List.getD_eq_getElem?_getD, List.getD_eq_getElem?_getD, List.getElem?_drop]
  · rw [if_neg d, if_neg (by omega), show t + i - h.length = i - (h.length - t) by omega]
theorem suf_turn {h l : List Int} {t : Nat} (hn : l ≠ []) (c : h.length ≤ t) (i : Nat) : wat [] (l.drop ((t - h.length) % l.length) ++ l.take ((t - h.length) % l.length)) i = wat h l (t + i) := by
  have hp : 0 < l.length := List.length_pos_iff.mpr hn
  have hc := Nat.mod_lt (t - h.length) hp
  have e : l.drop ((t - h.length) % l.length) ++ l.take ((t - h.length) % l.length) = rot l l.length ((t - h.length) % l.length) := by
    have e3 : (l.drop ((t - h.length) % l.length)).take (l.length - (t - h.length) % l.length) = l.drop ((t - h.length) % l.length) := List.take_of_length_le (by rw [List.length_drop]; exact Nat.le_refl _)
    unfold rot
    rw [e3]
  rw [e, wat_cyc (Nat.zero_le _), wat_cyc (show h.length ≤ t + i by omega), rot_len hc (Nat.le_refl _)]
  show lw _ (_ % _) = lw _ (_ % _)
  rw [rot_at hc (Nat.le_refl _) (Nat.mod_lt _ hp), Nat.mod_add_mod, Nat.add_mod_mod]
  congr 2
  show i - 0 + _ = _
  omega
def spInts : Sp := fun vs H Q _ => ∃ (a : Addr) (xs : List Int) (lo hi : Int), vs = [.ref a, .int lo, .int hi] ∧ TupI H a xs ∧ (∀ x ∈ xs, lo ≤ x ∧ x < hi) ∧ Q (.bl true) H
def spNormal : Sp := fun vs H Q _ => ∃ (p : Addr) (h l : List Int), vs = [.ref p] ∧ Las H p h l ∧ Nrm h l ∧ l.length ≤ 1000 ∧ ∀ H', Same H H' → Q (.bl true) H'
def spIsLasso : Sp := fun vs H Q _ => ∃ (p : Addr) (h l : List Int) (n : Int), vs = [.ref p, .int n] ∧ Las H p h l ∧ Nrm h l ∧ l.length ≤ 1000 ∧ (∀ x ∈ h, 0 ≤ x ∧ x < n) ∧ (∀ x ∈ l, 0 ≤ x ∧ x < n) ∧ ∀ H', Same H H' → Q (.bl true) H'
/-! the same word in other forms -/
theorem wat_mem {h l : List Int} (n : l ≠ []) (t : Nat) : wat h l t ∈ h ∨ wat h l t ∈ l := by
  have hl : 0 < l.length := List.length_pos_iff.mpr n
  unfold wat
  by_cases c : t < h.length
  · rw [if_pos c, List.getD_eq_getElem?_getD, List.getElem?_eq_getElem c]
    exact .inl (List.getElem_mem c)
  · have c2 := Nat.mod_lt (t - h.length) hl
    rw [if_neg c, List.getD_eq_getElem?_getD, List.getElem?_eq_getElem c2]
    exact .inr (List.getElem_mem c2)
theorem range_getD {f : Nat → Int} {n t : Nat} (c : t < n) : ((List.range n).map f).getD t 0 = f t := by
  rw [List.getD_eq_getElem?_getD, List.getElem?_map, List.getElem?_range c]
  rfl
theorem wat_form {h l : List Int} {m k : Nat} (n : l ≠ []) (hk : 0 < k) (t : Nat) :
    wat ((List.range (h.length + m)).map (wat h l)) ((List.range (k * l.length)).map fun t => wat h l (h.length + m + t)) t = wat h l t := by
  have hl : 0 < l.length := List.length_pos_iff.mpr n
  have hkl : 0 < k * l.length := Nat.mul_pos hk hl
  rw [show wat ((List.range (h.length + m)).map (wat h l)) ((List.range (k * l.length)).map fun t => wat h l (h.length + m + t)) t
      = if t < ((List.range (h.length + m)).map (wat h l)).length then ((List.range (h.length + m)).map (wat h l)).getD t 0 else ((List.range (k * l.length)).map fun t => wat h l (h.length + m + t)).getD ((t - ((List.range (h.length + m)).map (wat h l)).length) % ((List.range (k * l.length)).map fun t => wat h l (h.length + m + t)).length) 0 from rfl]
  rw [List.length_map, List.length_range, List.length_map, List.length_range]
  by_cases c : t < h.length + m
  · rw [if_pos c, range_getD c]
  · rw [if_neg c, range_getD (Nat.mod_lt _ hkl), wat_cyc (by omega), wat_cyc (by omega)]
    show lw l (_ % _) = lw l (_ % _)
    congr 1
    have e1 : h.length + m + (t - (h.length + m)) % (k * l.length) - h.length = m + (t - (h.length + m)) % (k * l.length) := by omega
    have e2 : t - h.length = m + (t - (h.length + m)) := by omega
    rw [e1, e2, ← Nat.add_mod_mod, Nat.mod_mod_of_dvd _ ⟨k, Nat.mul_comm k l.length⟩, Nat.add_mod_mod]
theorem wat_front (f h l : List Int) (i : Nat) : wat (f ++ h) l (f.length + i) = wat h l i := by
  unfold wat
  rw [List.length_append]
  by_cases c : i < h.length
  · rw [if_pos c, if_pos (by omega), List.getD_eq_getElem?_getD, List.getD_eq_getElem?_getD, List.getElem?_append_right (by omega), Nat.add_sub_cancel_left]
  · rw [if_neg c, if_neg (by omega), show f.length + i - (f.length + h.length) = i - h.length by omega]
def dLas (h l : List Int) : PyData := .tuple [.tuple (h.map PyData.int), .tuple (l.map PyData.int)]
theorem dp_las {K : PySem.W.Frag} {H : Hp} {p : Addr} {h l : List Int} (x : Las H p h l) : Dp K H (.ref p) (dLas h l) := by
  obtain ⟨a, b, e1, e2, e3⟩ := x
  exact .tup (.of e1) (.cons (dp_tup e2) (.cons (dp_tup e3) .nil))
theorem shaped_las (h l : List Int) : SeqAt.shaped (dLas h l) = true := by
  unfold SeqAt.shaped dLas
  rw [PyData.canLay0, PyData.canLayAll0, PyData.canLayAll0, PyData.canLayAll0, PyData.canLay0, layAll, PyData.canLay0, layAll, PyData.depth, PyData.depthAll, PyData.depthAll, PyData.depthAll, PyData.depth, depAll, PyData.depth, depAll]
  rfl
theorem eqv_las (h l : List Int) : PyData.eqv (dLas h l) (dLas h l) = true := by
  unfold dLas
  rw [PyData.eqv, PyData.eqvAll, PyData.eqvAll, PyData.eqvAll, eqv_tup, eqv_tup]
  simp
def spCell (K : PySem.W.Frag) : Sp := fun vs H Q _ => ∃ (a : Addr) (ns : List Int) (k : Nat), vs = [.ref a, .int k] ∧ SqL K H a (ns.map V.int) ∧ ∀ v : Int, Q (.int v) H
def spNegX (C : Addr) : Sp := fun vs H _ E => ∃ (p : Addr) (t : Int), vs = [.ref p, .int t] ∧ t < 0 ∧ E (.ref C) none H
def spRefuses : Sp := fun vs H Q _ => ∃ (p : Addr) (t : Int), vs = [.ref p, .int t] ∧ t < 0 ∧ Q (.bl true) H
def spSame : Sp := fun vs H Q _ => ∃ (p q : Addr) (h l h2 l2 : List Int), vs = [.ref p, .ref q] ∧ Pr H p h l ∧ Pr H q h2 l2 ∧ l ≠ [] ∧ l2 ≠ [] ∧ dfn h l h2 l2 ≤ 1000000 ∧ (∀ t, wat h l t = wat h2 l2 t) ∧ Q (.bl true) H
def spMakeX (cE cL : Addr) : Sp := fun vs H Q E => ∃ (a b : Addr) (h l : List Int), vs = [.ref a, .ref b] ∧ H a = some (.lst (h.map V.int)) ∧ H b = some (.lst (l.map V.int)) ∧ h.length ≤ 100000 ∧ l.length ≤ 100000 ∧
  (l = [] → E (.ref cE) none H) ∧ (l ≠ [] → (∃ x, (x ∈ h ∨ x ∈ l) ∧ x < 0) → E (.ref cL) none H) ∧
  (l ≠ [] → (∀ x, x ∈ h ∨ x ∈ l → 0 ≤ x) → ∀ (H' : Hp) (p : Addr) (h' l' : List Int), Same H H' → Las H' p h' l' → Short h l h' l' → Q (.ref p) H')
def spOut : Sp := fun vs H Q _ => ∃ (a b : Addr) (h l : List Int), vs = [.ref a, .ref b] ∧ H a = some (.lst (h.map V.int)) ∧ H b = some (.lst (l.map V.int)) ∧ h.length ≤ 100000 ∧ l.length ≤ 100000 ∧
  (l = [] → ∀ (H' : Hp) (p : Addr), Same H H' → H' p = some (.tup [.str "empty", .bl true]) → Q (.ref p) H') ∧
  (l ≠ [] → (∃ x, (x ∈ h ∨ x ∈ l) ∧ x < 0) → ∀ (H' : Hp) (p : Addr), Same H H' → H' p = some (.tup [.str "letter", .bl true]) → Q (.ref p) H') ∧
  (l ≠ [] → (∀ x, x ∈ h ∨ x ∈ l → 0 ≤ x) → ∀ (H' : Hp) (p q : Addr) (h' l' : List Int), Same H H' → H' p = some (.tup [.str "lasso", .ref q]) → Las H' q h' l' → Short h l h' l' → Q (.ref p) H')
theorem neg_cases (h l : List Int) : (∃ x, (x ∈ h ∨ x ∈ l) ∧ x < 0) ∨ ∀ x, x ∈ h ∨ x ∈ l → 0 ≤ x := by
  by_cases c : ∃ x, (x ∈ h ∨ x ∈ l) ∧ x < 0
  · exact .inl c
  · exact .inr fun x hx => by
      rcases Int.lt_or_le x 0 with z | z
      · exact absurd ⟨x, hx, z⟩ c
      · exact z
def spIsInt : Sp := fun vs H Q _ => ∃ (i : Int), vs = [.int i] ∧ Q (.bl true) H
end Bx
/-! ### own errors, two levels below ValueError -/
namespace Bx
open PySem PySem.Spec PyProof.Rows L2
abbrev veB : List Value := [.type "ValueError", .type "Exception", .type "BaseException", .type "object"]
structure ErrC (K : PySem.W.Frag) (mg : Str → Option Value) (x : Str) (C : Addr) : Prop where
  g : mg x = some (.ref C)
  ex : PySem.W.excIn K C veB "ValueError.__new__" = true
  kp : PySem.W.keepIn K (.ref C) = true
  ty : PySem.W.typeIn K (.ref C) = some (.type "type")
  sf : PySem.W.subIn K (.ref C) (.ref C) = some true
  ec : ExcC K C
theorem ErrC.exm {K : PySem.W.Frag} {mg : Str → Option Value} {x : Str} {C : Addr} {cls : Value} {b : Bool} (e : ErrC K mg x C) (h : PySem.W.subIn K cls (.ref C) = some b) : PySem.W.exmOne K cls (.ref C) = some b := PySem.W.exm_ref e.ec.hs e.ec.hd e.ty h
theorem ErrC.me {K : PySem.W.Frag} {mg : Str → Option Value} {x : Str} {C : Addr} (e : ErrC K mg x C) : PySem.W.exmOne K (.ref C) (.ref C) = some true := e.exm e.sf
/-- raise X('..') -/
theorem ErrC.made {X : Cx} {C : Addr} {x m : Str} {j : Nat} {p p2 pos : Pos} (e : ErrC X.K X.mg x C) (hg : Gl X x) (hd : (x == ("__debug__" : Str)) = false := by decide) : PMk X (.Call (.Name x p) [.Constant (.str m) j p2] [] pos) (fun _ H Q => Q (.ref C) none H) :=
  pmk_own PySem.F.excBase_ValueError e.ex e.g e.kp (raises_own e.ec.hs e.ty) hg hd
/-- isinstance(e, c), e the exception that the suite holds -/
def rIsEx (K : PySem.W.Frag) (a : Addr) (cls : Value) (d : Option Addr) : List V → Hp → VK → Prop := fun xs H Q => ∃ D : Addr, cls = .ref D ∧ d = none ∧ ExcC K D ∧ rIsE K D a xs H Q
theorem call_isEx {X : Cx} {K : PySem.W.Frag} {a : Addr} {cls : Value} {d : Option Addr} {oe : Obj} {pn : List (Addr × Obj)} (h : X.K = K) (hz : Zc cls d oe) (hf : ∃ vs, oe.data = .fields vs) : CallR (X.suite a ((a, oe) :: pn)) (.builtin "isinstance") (rIsEx K a cls d) := by
  subst h
  intro pins s σ H xs us Q I r hw
  obtain ⟨D, rfl, rfl, C, hw⟩ := hw
  exact call_isE C hz hf pins s σ H xs us Q I r hw
/-- a def that may raise, by its name -/
structure CalX (P : Program) (w : World) (K : PySem.W.Frag) (mg : Str → Option Value) (base : Heap) (k : Nat) (x : Str) (sp : Sp) : Prop where
  ex : ∃ (f : Addr) (fd : FuncData) (ps : List Str), FnOk P w K mg base (L2.CX P w) k f fd ps sp ∧ mg x = some (.ref f) ∧ PySem.W.keepIn K (.ref f) = true ∧ Binds K fd ps []
theorem pe_cx {X : Cx} {k j : Nat} {x : Str} {sp : Sp} {W : WX} {p pos : Pos} {e : Expr} {es : List Expr} {t : TA} (c : CalX X.prog X.w X.K X.mg X.base k x sp) (hr : Room j X.A) (hk : k ≤ j) (tk : Takes X W) (hg : Gl X x) (ha : PA X (e :: es) t)
    (hdb : (x == ("__debug__" : Str)) = false := by decide) (he : starEach (e :: es) X.env = (false, eval e X.env) :: starEach es X.env := by rfl) (hpl : (backTo pos (starEach es X.env)).any (·.1) = false := by rfl) :
    PE X (.Call (.Name x p) (e :: es) [] pos) (tCallS sp (WE W) t) := by
  obtain ⟨f, fd, ps, F, hm, kp, b⟩ := c.ex
  exact pe_callS F (hr.mono hk) hg hm kp b (fun σ => passAt tk σ) ha hdb he hpl
end Bx
/-! ### several clauses, each with its name: own rule -/
namespace Bx
open PySem PySem.Spec PyProof.Rows L2
/-- what the clauses wish, one after the other: (class, the name's slot, the suite's reading) -/
def wAll (K : PySem.W.Frag) (Wo : WX) (D : Ends) : List (Value × Nat × (Addr → Value → Option Addr → TS)) → WX
  | [] => Wo
  | (c, i, ts) :: r => fun cls d σ H => ∃ b, PySem.W.exmOne K cls c = some b ∧
    (b = true → ∀ a, H a = none → ts a cls d { nx := fun σ' H' => D.nx (σ'.set i none) H', rt := D.rt, bk := fun σ' H' => D.bk (σ'.set i none) H', ct := fun σ' H' => D.ct (σ'.set i none) H' } (σ.set i (some (.ref a))) H) ∧
    (b = false → wAll K Wo D r cls d σ H)
inductive Clauses (Y : Cx) : List ExceptHandler → List (Value × Nat × (Addr → Value → Option Addr → TS)) → Prop
  | nil : Clauses Y [] []
  | cons {x n : Str} {c : Value} {i : Nat} {ts : Addr → Value → Option Addr → TS} {b0 : Stmt} {suite : List Stmt} {p p' : Pos} {cs : List ExceptHandler} {l : List (Value × Nat × (Addr → Value → Option Addr → TS))}
      (hc : Names Y x c) (hi : Y.N[i]? = some n) (hl : Y.env.kindOf n = some .local)
      (su : ∀ (a : Addr) (oe : Obj) (cls : Value) (d : Option Addr) (pn : List (Addr × Obj)), Zc cls d oe → (∃ vs, oe.data = .fields vs) → PSs (Y.suite a ((a, oe) :: pn)) (b0 :: suite) (ts a cls d)) (r : Clauses Y cs l) :
      Clauses Y (.ExceptHandler (some (.Name x p)) (some n) (b0 :: suite) p' :: cs) ((c, i, ts) :: l)
theorem ps_try_all {Y : Cx} {body : List Stmt} {c0 : ExceptHandler} {cs : List ExceptHandler} {l : List (Value × Nat × (Addr → Value → Option Addr → TS))} {pos : Pos} {tb : WX → TS} {Wo : WX}
    (ks : Y.stack = Y.env :: Y.outer) (kf : Y.env.frame = some Y.env.locals) (kN : Y.N.Nodup) (tk : Takes Y Wo)
    (kb : ∀ (W : WX) (pn : List (Addr × Obj)) (xe : Value → Shared → Prop), Takes (Y.tr pn xe) W → PassesOwn (model Y.prog Y.w) Y.A Y.env xe → PSs (Y.tr pn xe) body (tb W))
    (kh : Clauses Y (c0 :: cs) l) : PS Y (.Try body (c0 :: cs) [] [] pos) (fun D σ H => tb (wAll Y.K Wo D l) D σ H) := by
  refine ⟨fun pins u σ H D I hw => ?_⟩
  have okY := I.ok
  have fr := okY.frames
  rw [ks] at fr
  refine wpAny_Try_except ?_
  refine wpAny_mono ((kb (wAll Y.K Wo D l) (Y.pn ++ pins) (fun e u1 => wpAny (model Y.prog Y.w) Y.A (noteFrame e Y.env) (fun _ u2 => wpAny (model Y.prog Y.w) Y.A (setFlight e none) (fun _ u3 =>
    wpAny (model Y.prog Y.w) Y.A (handleBy e Y.env (c0 :: cs)) (SP Y pins D) Y.xe u3) Y.xe u2) Y.xe u1) (fun v g xx => ?_) PassesOwn.looking).run [] u σ H D (I.toTry _) hw) (fun f u1 q => ?_) (fun e u1 q => q)
  · obtain ⟨a, B, sI, pins1, σ1, H1, cls, d, rfl, Jt, nb, up, sk, na, os, ag, w⟩ := xx
    have J : Inv Y pins σ1 H1 sI := Jt.ofTry okY
    have sk1 : Sky B (Y.env :: Y.outer) a (Zc cls d) Y.env.locals g.heap := by rw [← ks]; exact sk
    show wpAny (model Y.prog Y.w) Y.A (noteFrame (.ref a) Y.env) _ _ _
    refine Sky.land Zc.steady fr kf sk1 fun g3 f3 u3 => ?_
    have I3 : Inv Y pins σ1 H1 { g with heap := g3 } := J.landed nb f3.1 (up.trans u3) os ag
    obtain ⟨o3, w3, at3, z3, dt3⟩ := f3.there
    have apart : ∀ {t : Heap} {o : Obj} {vs : Array Value}, t.FunFrames B (Y.env :: Y.outer) → t.get? a = some o → o.data = .fields vs → a ∉ frs (Y.env :: Y.outer) := fun {t o vs} ff e dd hm => by
      obtain ⟨_, o2, e2, q2⟩ := ff.mem hm
      rw [e] at e2
      cases e2
      exact q2 _ dd
    have n0 := apart f3.2.2.1 at3 dt3
    have nL : a ≠ Y.env.locals := fun z => n0 (List.mem_filterMap.mpr ⟨Y.env, List.mem_cons_self, by rw [kf, z]⟩)
    have nF : a ∉ Y.fs := fun hm => by
      obtain ⟨e, he, q⟩ := List.mem_filterMap.mp hm
      exact n0 (List.mem_filterMap.mpr ⟨e, List.mem_cons_of_mem _ he, q⟩)
    have T3 := I3.suite at3 dt3 na nL nF
    have all : ∀ {cs2 : List ExceptHandler} {l2 : List (Value × Nat × (Addr → Value → Option Addr → TS))}, Clauses Y cs2 l2 → wAll Y.K Wo D l2 cls d σ1 H1 →
        wpAny (model Y.prog Y.w) Y.A (handleBy (.ref a) Y.env cs2) (SP Y pins D) Y.xe { g with heap := g3 } := by
      intro cs2 l2 hk
      induction hk with
      | nil =>
        intro w
        refine wpAny_handleBy_nil ?_
        obtain ⟨_, _, _, oe, vs, T, oT, t2, he, hz, hd, h1, _⟩ := id f3
        unfold PySem.passOn
        refine wpAny_bind (wpAny_field he hd h1 ?_)
        rw [if_neg (show ¬ ((Value.ref T == Value.none) = true) from by simp)]
        have away : wpAny (model Y.prog Y.w) Y.A (setFlight (.ref a) Y.env.frame) (fun _ u4 => wpAny (model Y.prog Y.w) Y.A (throw (.ref a) : Sem Flow) (SP Y pins D) Y.xe u4) Y.xe { g with heap := g3 } := by
          rw [kf]
          refine HandSPX.setFlight_upZ f3 fun g4 q4 u4 => wpAny_throw (tk _ _ ?_)
          exact ⟨a, B, sI, pins, σ1, H1, cls, d, rfl, J, nb, (up.trans u3).trans u4, .inr (.inr (by rw [ks]; exact q4)), na, os, ag, w⟩
        first
          | exact wpAny_bind (wpAny_pure (wpAny_bind away))
          | exact wpAny_bind away
      | @cons x n c i ts b0 suite p p' cs3 l3 hc hi hl su r ih =>
        intro w
        obtain ⟨b, e1, yes, no⟩ := w
        refine wpAny_handleBy_cons (codeAny_handlers_test ?_) (by intro q; cases q)
        have LT : PySem.W.Looks (model Y.prog Y.w) g3 (typeOf (.ref a)) cls := fun A Q E s k q => wpAny_typeOf_ref (k _ _ at3) (by rw [z3.1]; exact q)
        have LM := PySem.W.exm_one (M := model Y.prog Y.w) (I3.kIn) LT e1
        have test : ∀ {Q : Value → Shared → Prop} {E : Value → Shared → Prop}, Q c { g with heap := g3 } → wpAny (model Y.prog Y.w) (Y.A.mark (some (.ref a))) (eval (.Name x p) Y.env) Q E { g with heap := g3 } := fun {Q E} q => by
          obtain ⟨hg, hdb, hm | ⟨hm, hv, hnn⟩⟩ := hc
          · exact ld_glob (X := Y.suite a ((a, o3) :: (Y.pn ++ pins))) T3 hg hm q hdb
          · exact ld_blt (X := Y.suite a ((a, o3) :: (Y.pn ++ pins))) T3 hg hm hv q hnn hdb
        refine test (LM.here ?_)
        cases b with
        | true =>
          refine codeAny_handlers_suite_as ?_
          refine HandSPX.lands_againZ f3 fun g4 f4 u4 => ?_
          have I4 : Inv Y pins σ1 H1 { g with heap := g4 } := J.landed nb f4.1 ((up.trans u3).trans u4) os ag
          obtain ⟨o4, w4, at4, z4, dt4⟩ := f4.there
          have T4 := I4.suite at4 dt4 na nL nF
          refine store_ok (X := Y.suite a ((a, o4) :: (Y.pn ++ pins))) (v := .ref a) T4 kN hi (.inl hl) rfl (fun u5 T5 => ?_) (.inr hl)
          refine wpAny_mono ((su a o4 cls d (Y.pn ++ pins) z4 ⟨_, dt4⟩).run [] u5 _ H1 _ T5 (yes rfl a na)) (fun f u6 q => ?_) (fun _ _ z => False.elim z)
          have fin : ∀ {σ6 : L2.St} {H6 : Hp} {Q : Shared → Prop}, Inv (Y.suite a ((a, o4) :: (Y.pn ++ pins))) [] σ6 H6 u6 → (∀ u7, Inv Y pins (σ6.set i none) H6 u7 → Q u7) →
              wpAny (model Y.prog Y.w) Y.A (do bindName Y.env n .none; unbindBehindTheSuite Y.env n p') (fun _ u7 => Q u7) Y.xe u6 := fun {σ6 H6 Q} T6 hq => gone_ok (T6.unsuite okY) kN hi hl hq
          cases f with
          | next =>
            obtain ⟨_, _, T6, q6⟩ := q
            exact fin T6 fun _ I7 => ⟨_, _, I7, q6⟩
          | brk =>
            obtain ⟨_, _, T6, q6⟩ := q
            exact fin T6 fun _ I7 => ⟨_, _, I7, q6⟩
          | cont =>
            obtain ⟨_, _, T6, q6⟩ := q
            exact fin T6 fun _ I7 => ⟨_, _, I7, q6⟩
          | ret v =>
            obtain ⟨_, _, _, T6, r6, q6⟩ := q
            exact fin T6 fun _ I7 => ⟨_, _, _, I7, r6, q6⟩
        | false =>
          show wpAny _ Y.A (handleBy (.ref a) Y.env cs3) _ _ _
          exact ih (no rfl)
    exact all kh w
  · cases f with
    | next =>
      obtain ⟨_, _, J1, q1⟩ := q
      exact wpAny_execs_nil ⟨_, _, J1.ofTry okY, q1⟩
    | brk =>
      obtain ⟨_, _, J1, q1⟩ := q
      exact ⟨_, _, J1.ofTry okY, q1⟩
    | cont =>
      obtain ⟨_, _, J1, q1⟩ := q
      exact ⟨_, _, J1.ofTry okY, q1⟩
    | ret v =>
      obtain ⟨_, _, _, J1, r1, q1⟩ := q
      exact ⟨_, _, _, J1.ofTry okY, r1, q1⟩
end Bx
/-! ### max of a tuple of ints, lcm: own rules -/
namespace MaxT
open PySem PySem.W PyProof.Rows
section
variable {prog : Program} {w : World} {A : Around} {E : Value → Shared → Prop} {s : Shared}
theorem walkT {l : Addr} {xs : Array (Int × Tok)} {Q : Value → Shared → Prop} (hh : A.handled = none) (ht : s.heap.IsTuple l (intItems xs)) (hne : 0 < xs.size)
    (h : ∀ v g tk, (intItems xs)[argBest (fun i j => decide (numAt xs i > numAt xs j)) (xs.size - 1)]? = some v → (∀ b o, s.heap.get? b = some o → g.get? b = some o) → Q v { s with heap := g, toks := tk }) :
    wpAny (model prog w) A (call (.builtin "max") [.ref l]) Q E s := by
  have ll : l < s.heap.objs.size := by
    obtain ⟨_, e, _⟩ := ht
    exact Heap.lt_size e
  refine call_max_walk (wpAny_pyIter_tuple ht ?_)
  refine ⟨_, _, _, _, _, _, _, rfl, Walks.tuple (A := A.in1) hh _ l (Nat.ne_of_lt ll) (intItems xs), ⟨⟨_, Heap.get?_push_size _ rfl, rfl, rfl⟩, ht.push _⟩, fun c hc => ?_, by simpa [intItems] using hne, CmpOf.ints_gt (numAt xs) (fun _ _ => intItems_at), fun v g tk hP hk => ?_⟩
  · show c < (s.heap.push _).objs.size
    rw [Heap.size_push]
    rcases List.mem_cons.mp hc with rfl | hc
    · exact Nat.lt_succ_self _
    · rcases List.mem_cons.mp hc with rfl | hc
      · exact Nat.lt_succ_of_lt ll
      · cases hc
  · refine h v g tk (by simpa [intItems] using hP) fun b o e => hk b o (fun hm => ?_) (Heap.get?_push_of_some _ e)
    have e1 : b = s.heap.objs.size := List.mem_singleton.mp hm
    rw [e1] at e
    exact absurd (Heap.lt_size e) (Nat.lt_irrefl _)
theorem rawT {l : Addr} {its : List Value} {ns : List Int} {Q : Value → Shared → Prop} (hh : A.handled = none) (hl : IsTup s.heap l its.toArray) (hi : IntsAre its ns) (hne : ns ≠ [])
    (h : ∀ (g : Heap) (tk : Nat) (m : Int) (t' : Tok), (∀ b o, s.heap.get? b = some o → g.get? b = some o) → m ∈ ns → (∀ y ∈ ns, y ≤ m) → Q (.int m t') { s with heap := g, toks := tk }) :
    wpAny (model prog w) A (call (.builtin "max") [.ref l]) Q E s := by
  obtain ⟨xs, e⟩ := hi.allInts.items
  have hn : numsOf (intItems xs).toList = ns := by rw [← e]; exact hi.numsOf
  rw [PySem.nums_intItems] at hn
  subst hn
  rw [e] at hl
  have c : 0 < xs.size := by
    rcases Nat.eq_zero_or_pos xs.size with z | z
    · refine absurd ?_ hne
      have : xs = #[] := Array.eq_empty_of_size_eq_zero z
      rw [this]
      rfl
    · exact z
  refine walkT hh hl c fun v g tk p1 keep => ?_
  obtain ⟨u, rfl⟩ := intItems_at p1
  obtain ⟨a1, a2⟩ := argBest_gt (numAt xs) (xs.size - 1)
  refine h g tk _ u keep ?_ fun y hy => ?_
  · rw [PySem.numAt_eq]
    refine PySem.getD_mem ?_
    rw [List.length_map, Array.length_toList]
    exact Nat.lt_of_le_of_lt a1 (by omega)
  · obtain ⟨j, hj, rfl⟩ := PySem.mem_getD hy
    rw [List.length_map, Array.length_toList] at hj
    rw [← PySem.numAt_eq]
    exact a2 j (by omega)
end
end MaxT
namespace Bx
open PySem PySem.Spec PyProof.Rows L2
def rMaxT (K : PySem.W.Frag) : List V → Hp → VK → Prop := fun xs H Q => ∃ (a : Addr) (ns : List Int), xs = [.ref a] ∧ SqT K H a (ns.map V.int) ∧ ns ≠ [] ∧ ∀ m, m ∈ ns → (∀ y ∈ ns, y ≤ m) → Q (.int m) H
theorem call_maxT {X : Cx} {K : PySem.W.Frag} (h : X.K = K) (hc : X.calm = true) : CallR X (.builtin "max") (rMaxT K) := by
  subst h
  intro pins s σ H xs us Q I r hw
  obtain ⟨a, ns, rfl, hs, hne, q⟩ := hw
  obtain ⟨its, rv, ht, _⟩ := I.tuple hs
  rw [Vals.ref1 r]
  exact MaxT.rawT (I.ok.hd hc) ht rv.ints hne fun g tk m t' hk h1 h2 => ⟨.int m, H, I.kept hk, ⟨_, rfl⟩, q m h1 h2⟩
theorem call_maxK {X : Cx} {K : PySem.W.Frag} (h : X.K = K) (hc : X.calm = true) : CallR X (.builtin "max") (rMax K) := by
  subst h
  exact cr_max hc
def spCheckX (cL : Addr) : Sp := fun vs H Q E => ∃ (p : Addr) (h l : List Int) (n : Int), vs = [.ref p, .int n] ∧ Las H p h l ∧ l ≠ [] ∧ h.length ≤ 1000 ∧ l.length ≤ 1000 ∧
  ((∃ x, (x ∈ h ∨ x ∈ l) ∧ n ≤ x) → ∀ H', Same H H' → E (.ref cL) none H') ∧ ((∀ x, x ∈ h ∨ x ∈ l → x < n) → ∀ H', Same H H' → Q .non H')
end Bx
/-! ### lists of lists, instances made in a try: own rules -/
namespace Bx
open PySem PySem.Spec PyProof.Rows L2
section
variable {X : Cx}
theorem pi_or {tg iter : Expr} {w1 w2 : TI} (h1 : PI X tg iter w1) (h2 : PI X tg iter w2) : PI X tg iter (fun σ H R => w1 σ H R ∨ w2 σ H R) := ⟨fun pins s σ H R I h => by
  rcases h with h | h
  · exact h1.run pins s σ H R I h
  · exact h2.run pins s σ H R I h⟩
theorem passF {P : Program} {w : World} : Passes (L2.CX P w) X (fun _ _ _ => False) := fun _ _ _ _ _ _ _ h => by
  obtain ⟨_, _, _, _, _, _, _, _, _, _, _, _, z⟩ := h
  exact z.elim
/-- a new instance of an own class whose __init__ may raise -/
structure MakX (P : Program) (w : World) (K : PySem.W.Frag) (mg : Str → Option Value) (base : Heap) (k : Nat) (x : Str) (C : Addr) (sp : Sp) : Prop where
  ex : ∃ (f : Addr) (fd : FuncData) (ps : List Str), Mk K C f ∧ FnOk P w K mg base (L2.CX P w) k f fd ps sp ∧ mg x = some (.ref C) ∧ Binds K fd ps []
def tMakX (C : Addr) (sp : Sp) (E : L2.St → XK) (t : TA) : TE := fun σ H Q => t σ H fun vs H1 => ∀ x dx, H1 x = none → H1 dx = none → dx ≠ x → sp (.ref x :: vs) (upd (upd H1 dx (.own x)) x (.ins C dx [])) (fun v H2 => v = .non ∧ Q (.ref x) H2) (E σ)
theorem made_at {k : Nat} {f C : Addr} {fd : FuncData} {ps : List Str} {sp : Sp} {E : XK} {pins : List (Addr × Obj)} {σ : L2.St} {H : Hp} {u : Shared} {Q : VK} {us : List Value} {vs : List V} (M : Mk X.K C f) (F : FnOk X.prog X.w X.K X.mg X.base (L2.CX X.prog X.w) k f fd ps sp) (hr : Room (k + 1) X.A) (hb : Binds X.K fd ps [])
    (hx : PassesAt (L2.CX X.prog X.w) X σ E) (I : Inv X pins σ H u) (r : Vals vs us)
    (h : ∀ x dx, H x = none → H dx = none → dx ≠ x → sp (.ref x :: vs) (upd (upd H dx (.own x)) x (.ins C dx [])) (fun v H2 => v = .non ∧ Q (.ref x) H2) E) :
    wpAny (model X.prog X.w) X.A (call (.ref C) us) (EP X pins σ Q) X.xe u := by
  have q0 := h (u.heap.objs.size + 1) u.heap.objs.size (I.hok.fresh (Nat.le_succ _)) (I.hok.fresh (Nat.le_refl _)) (Nat.ne_of_lt (Nat.lt_succ_self _))
  have J := Inv.made (C := C) I
  have r2 : Vals (V.ref (u.heap.objs.size + 1) :: vs) (Value.ref (u.heap.objs.size + 1) :: us) := .cons rfl r
  have hl : (Value.ref (u.heap.objs.size + 1) :: us ++ []).length = ps.length := by
    have e := r2.length
    rw [F.len _ _ _ _ q0] at e
    rw [List.append_nil]
    exact e.symm
  refine wpAny_call (make_map (f := f) I.kIn M.makes M.init (beq_iff_eq.mp M.fn) (codeAny_mono (F.run _ X.stack _ _ ⟨Value.ref (u.heap.objs.size + 1) :: us, []⟩ (Value.ref (u.heap.objs.size + 1) :: us) _ _ E (hr.make C us [])
    (J.env0.make C us []) (by have q := hb _ (Value.ref (u.heap.objs.size + 1) :: us) J.kIn hl; rw [List.append_nil] at q; exact q) r2 q0) fun r u' hq => ?_))
  cases r with
  | error e => exact hx pins _ _ e u' J hq
  | ok fl =>
    cases fl with
    | ret v =>
      obtain ⟨y, G, J3, ry, ey, qy⟩ := J.after hq
      subst ey
      exact ⟨ry, ⟨V.ref (u.heap.objs.size + 1), G, J3, rfl, qy⟩⟩
    | next => exact False.elim hq
    | brk => exact False.elim hq
    | cont => exact False.elim hq
theorem pe_makeX {k j : Nat} {C : Addr} {x : Str} {sp : Sp} {W : WX} {p pos : Pos} {e : Expr} {es : List Expr} {t : TA} (c : MakX X.prog X.w X.K X.mg X.base k x C sp) (hr : Room j X.A) (hk : k + 1 ≤ j) (tk : Takes X W) (hg : Gl X x) (ha : PA X (e :: es) t)
    (hdb : (x == ("__debug__" : Str)) = false := by decide) (he : starEach (e :: es) X.env = (false, eval e X.env) :: starEach es X.env := by rfl) (hpl : (backTo pos (starEach es X.env)).any (·.1) = false := by rfl) :
    PE X (.Call (.Name x p) (e :: es) [] pos) (tMakX C sp (WE W) t) := by
  obtain ⟨f, fd, ps, M, F, hm, b⟩ := c.ex
  refine ⟨fun pins u σ H Q I hw => ?_⟩
  refine wpAny_Call_Name_kw (ld_glob I hg hm ?_ hdb)
  refine PySem.W.callWith_K (h₀ := X.base) I.ok.mod.kin M.kp (thn (ha.run pos pins u σ H _ I hw) fun us u1 ⟨vs, H1, I1, rv, qv⟩ => ⟨I1.kIn, ?_⟩) he hpl
  exact made_at M F (hr.mono hk) b (passAt tk σ) I1 rv qv
theorem pe_makeN {k j : Nat} {C : Addr} {x : Str} {sp : Sp} {p pos : Pos} {e : Expr} {es : List Expr} {t : TA} (c : MakX X.prog X.w X.K X.mg X.base k x C sp) (hr : Room j X.A) (hk : k + 1 ≤ j) (hg : Gl X x) (ha : PA X (e :: es) t)
    (hdb : (x == ("__debug__" : Str)) = false := by decide) (he : starEach (e :: es) X.env = (false, eval e X.env) :: starEach es X.env := by rfl) (hpl : (backTo pos (starEach es X.env)).any (·.1) = false := by rfl) :
    PE X (.Call (.Name x p) (e :: es) [] pos) (tMakX C sp (fun _ => fun _ _ _ => False) t) := by
  obtain ⟨f, fd, ps, M, F, hm, b⟩ := c.ex
  refine ⟨fun pins u σ H Q I hw => ?_⟩
  refine wpAny_Call_Name_kw (ld_glob I hg hm ?_ hdb)
  refine PySem.W.callWith_K (h₀ := X.base) I.ok.mod.kin M.kp (thn (ha.run pos pins u σ H _ I hw) fun us u1 ⟨vs, H1, I1, rv, qv⟩ => ⟨I1.kIn, ?_⟩) he hpl
  exact made_at M F (hr.mono hk) b (fun pins G v e v' J q => passF pins σ G v e v' J q) I1 rv qv
end
/-! rows of ints -/
def RowsA (mk : List V → HO) (H : Hp) : List Addr → List (List Int) → Prop
  | [], [] => True
  | a :: as, r :: rs => H a = some (mk (r.map V.int)) ∧ RowsA mk H as rs
  | _, _ => False
def RowsQ (H : Hp) : List Addr → List (List Int) → Prop
  | [], [] => True
  | a :: as, r :: rs => SeqI H a r ∧ RowsQ H as rs
  | _, _ => False
theorem RowsA.keep {mk : List V → HO} {H H' : Hp} : ∀ {as : List Addr} {rs : List (List Int)}, (∀ b o, b ∈ as → H b = some o → H' b = some o) → RowsA mk H as rs → RowsA mk H' as rs
  | [], [], _, _ => True.intro
  | a :: as, r :: rs, k, h => ⟨k a _ List.mem_cons_self h.1, RowsA.keep (fun b o hb => k b o (List.mem_cons_of_mem _ hb)) h.2⟩
  | [], _ :: _, _, h => h.elim
  | _ :: _, [], _, h => h.elim
theorem RowsA.same {mk : List V → HO} {H H' : Hp} {as : List Addr} {rs : List (List Int)} (k : Same H H') (h : RowsA mk H as rs) : RowsA mk H' as rs := h.keep fun b o _ e => k b o e
theorem RowsA.len {mk : List V → HO} {H : Hp} : ∀ {as : List Addr} {rs : List (List Int)}, RowsA mk H as rs → as.length = rs.length
  | [], [], _ => rfl
  | a :: as, r :: rs, h => congrArg (· + 1) h.2.len
  | [], _ :: _, h => h.elim
  | _ :: _, [], h => h.elim
theorem RowsA.snoc {mk : List V → HO} {H : Hp} {a : Addr} {r : List Int} (ha : H a = some (mk (r.map V.int))) : ∀ {as : List Addr} {rs : List (List Int)}, RowsA mk H as rs → RowsA mk H (as ++ [a]) (rs ++ [r])
  | [], [], _ => ⟨ha, True.intro⟩
  | b :: as, q :: rs, h => ⟨h.1, h.2.snoc ha⟩
  | [], _ :: _, h => h.elim
  | _ :: _, [], h => h.elim
theorem RowsA.get {mk : List V → HO} {H : Hp} : ∀ {as : List Addr} {rs : List (List Int)} {i : Nat} {a : Addr}, RowsA mk H as rs → as[i]? = some a → ∃ r, rs[i]? = some r ∧ H a = some (mk (r.map V.int))
  | [], _, _, _, _, e => by simp at e
  | b :: as, [], _, _, h, _ => h.elim
  | b :: as, q :: rs, 0, a, h, e => by
    have : b = a := Option.some.inj e
    subst this
    exact ⟨q, rfl, h.1⟩
  | b :: as, q :: rs, i + 1, a, h, e => RowsA.get (i := i) h.2 e
theorem RowsA.q1 {H : Hp} : ∀ {as : List Addr} {rs : List (List Int)}, RowsA .lst H as rs → RowsQ H as rs
  | [], [], _ => True.intro
  | a :: as, r :: rs, h => ⟨.inl h.1, h.2.q1⟩
  | [], _ :: _, h => h.elim
  | _ :: _, [], h => h.elim
theorem RowsA.q2 {H : Hp} : ∀ {as : List Addr} {rs : List (List Int)}, RowsA .tup H as rs → RowsQ H as rs
  | [], [], _ => True.intro
  | a :: as, r :: rs, h => ⟨.inr h.1, h.2.q2⟩
  | [], _ :: _, h => h.elim
  | _ :: _, [], h => h.elim
theorem RowsQ.same {H H' : Hp} (k : Same H H') : ∀ {as : List Addr} {rs : List (List Int)}, RowsQ H as rs → RowsQ H' as rs
  | [], [], _ => True.intro
  | a :: as, r :: rs, h => ⟨h.1.same k, h.2.same k⟩
  | [], _ :: _, h => h.elim
  | _ :: _, [], h => h.elim
theorem RowsQ.len {H : Hp} : ∀ {as : List Addr} {rs : List (List Int)}, RowsQ H as rs → as.length = rs.length
  | [], [], _ => rfl
  | a :: as, r :: rs, h => congrArg (· + 1) h.2.len
  | [], _ :: _, h => h.elim
  | _ :: _, [], h => h.elim
theorem RowsQ.get {H : Hp} : ∀ {as : List Addr} {rs : List (List Int)} {i : Nat} {a : Addr}, RowsQ H as rs → as[i]? = some a → ∃ r, rs[i]? = some r ∧ SeqI H a r
  | [], _, _, _, _, e => by simp at e
  | b :: as, [], _, _, h, _ => h.elim
  | b :: as, q :: rs, 0, a, h, e => by
    have : b = a := Option.some.inj e
    subst this
    exact ⟨q, rfl, h.1⟩
  | b :: as, q :: rs, i + 1, a, h, e => RowsQ.get (i := i) h.2 e
/-- a list or a tuple of any values -/
def SeqV (H : Hp) (a : Addr) (xs : List V) : Prop := H a = some (.lst xs) ∨ H a = some (.tup xs)
theorem SeqV.same {H H' : Hp} {a : Addr} {xs : List V} (k : Same H H') (h : SeqV H a xs) : SeqV H' a xs := by
  rcases h with h | h
  · exact .inl (k _ _ h)
  · exact .inr (k _ _ h)
theorem SeqV.sq {K : PySem.W.Frag} {H : Hp} {a : Addr} {xs : List V} (h : SeqV H a xs) : SqL K H a xs ∨ SqT K H a xs := by
  rcases h with h | h
  · exact .inl (.of h)
  · exact .inr (.of h)
def iSeq (K : PySem.W.Frag) (te : TE) : TI := fun σ H R => iList K te σ H R ∨ iTup K te σ H R
theorem pi_seq {X : Cx} {K : PySem.W.Frag} {tg e : Expr} {te : TE} (h : X.K = K) (he : PE X e te) : PI X tg e (iSeq K te) := by
  subst h
  exact pi_or (pi_list he) (pi_tup he)
theorem for_seq {K : PySem.W.Frag} {i : Nat} {a : Addr} {xs : List V} {g : TG} {tb : TS} {D : Ends} {σ : L2.St} {H : Hp} (hv : σ[i]? = some (some (.ref a))) (hq : SeqV H a xs) (Pv : Nat → L2.St → Hp → Prop) (h0 : Pv 0 σ H) (hS : ∀ i σ' H', Pv i σ' H' → Same H H')
    (hs : ∀ i x σ H, xs[i]? = some x → Pv i σ H → g x σ H fun σ2 H2 => tb { D with nx := Pv (i + 1), ct := Pv (i + 1), bk := D.nx } σ2 H2) (hd : ∀ σ H, Pv xs.length σ H → D.nx σ H) : tFor (iSeq K (tVar i)) g tb D σ H := by
  rcases hq with h | h
  · exact .inl ⟨_, hv, a, rfl, ⟨_, .of h⟩, for_list Pv h0 (fun i σ' H' _ p => .of (hS i σ' H' p _ _ h)) hs hd⟩
  · exact .inr ⟨_, hv, a, rfl, ⟨_, .of h⟩, for_tup Pv h0 (fun i σ' H' _ p => .of (hS i σ' H' p _ _ h)) hs hd⟩
/-- a list of lists of ints -/
def LL (H : Hp) (r : Addr) (as : List Addr) (rows : List (List Int)) : Prop := H r = some (.lst (as.map V.ref)) ∧ RowsA .lst H as rows
def Vld (L s : Int) (ps : List Int) (rows : List (List Int)) : Prop := 1 ≤ L ∧ rows ≠ [] ∧ ps.length = rows.length ∧ (0 ≤ s ∧ s < (rows.length : Int)) ∧ (∀ r ∈ rows, (r.length : Int) = L ∧ ∀ x ∈ r, 0 ≤ x ∧ x < (rows.length : Int)) ∧ ∀ p ∈ ps, 0 ≤ p
/-- the fields of a parity automaton, as they are stored -/
def pf (L s : Int) (pt rt : Addr) : List (Str × V) := putF "rows" (.ref rt) (putF "priorities" (.ref pt) (putF "start" (.int s) (putF "letters" (.int L) [])))
theorem putF_len (f : Str) (v : V) : ∀ fs : List (Str × V), (putF f v fs).length ≤ fs.length + 1
  | [] => Nat.le_refl _
  | (g, x) :: r => by
    unfold putF
    by_cases c : g = f
    · rw [if_pos c]
      exact Nat.le_succ _
    · rw [if_neg c]
      exact Nat.succ_le_succ (putF_len f v r)
theorem pf_L (L s : Int) (pt rt : Addr) : (pf L s pt rt).lookup ("letters" : Str) = some (.int L) := by
  unfold pf
  rw [lookup_putF, if_neg (by decide +kernel), lookup_putF, if_neg (by decide +kernel), lookup_putF, if_neg (by decide +kernel), lookup_putF, if_pos rfl]
theorem pf_s (L s : Int) (pt rt : Addr) : (pf L s pt rt).lookup ("start" : Str) = some (.int s) := by
  unfold pf
  rw [lookup_putF, if_neg (by decide +kernel), lookup_putF, if_neg (by decide +kernel), lookup_putF, if_pos rfl]
theorem pf_p (L s : Int) (pt rt : Addr) : (pf L s pt rt).lookup ("priorities" : Str) = some (.ref pt) := by
  unfold pf
  rw [lookup_putF, if_neg (by decide +kernel), lookup_putF, if_pos rfl]
theorem pf_r (L s : Int) (pt rt : Addr) : (pf L s pt rt).lookup ("rows" : Str) = some (.ref rt) := by
  unfold pf
  rw [lookup_putF, if_pos rfl]
/-- a parity automaton at x -/
def ParAt (C : Addr) (H : Hp) (x : Addr) (L s : Int) (ps : List Int) (rows : List (List Int)) : Prop := ∃ (dx pt rt : Addr) (as : List Addr), H x = some (.ins C dx (pf L s pt rt)) ∧ TupI H pt ps ∧ H rt = some (.tup (as.map V.ref)) ∧ RowsA .tup H as rows
theorem ParAt.same {C : Addr} {H H' : Hp} {x : Addr} {L s : Int} {ps : List Int} {rows : List (List Int)} (k : Same H H') (h : ParAt C H x L s ps rows) : ParAt C H' x L s ps rows := by
  obtain ⟨dx, pt, rt, as, e1, e2, e3, e4⟩ := h
  exact ⟨dx, pt, rt, as, k _ _ e1, k _ _ e2, k _ _ e3, e4.same k⟩
/-- what the class has -/
structure ParC (K : PySem.W.Frag) (C : Addr) : Prop where
  cl : Cls K C
  nL : NoAttr K C "letters"
  nS : NoAttr K C "start"
  nP : NoAttr K C "priorities"
  nR : NoAttr K C "rows"
def spCheckS (cI : Addr) : Sp := fun vs H Q E => ∃ (z n : Int), vs = [.int z, .int n] ∧ (¬ (0 ≤ z ∧ z < n) → E (.ref cI) none H) ∧ ((0 ≤ z ∧ z < n) → Q .non H)
def spInitP (C cI : Addr) : Sp := fun vs H Q E => ∃ (x p r dx : Addr) (L s : Int) (ps : List Int) (as : List Addr) (rows : List (List Int)), vs = [.ref x, .int L, .int s, .ref p, .ref r] ∧ H x = some (.ins C dx []) ∧ H p = some (.lst (ps.map V.int)) ∧ SeqV H r (as.map V.ref) ∧ RowsQ H as rows ∧
  rows.length ≤ 1000 ∧ ps.length ≤ 1000 ∧ (∀ q ∈ rows, q.length ≤ 1000) ∧ (¬ Vld L s ps rows → E (.ref cI) none H) ∧ (Vld L s ps rows → ∀ H', Kp x H H' → ParAt C H' x L s ps rows → Q .non H')
end Bx

/-! ### own rules: a list extended by a tuple; a tuple's slice with a step -/
namespace Tx
open PySem PySem.Spec PyProof.Rows L2
section
variable {prog : Program} {w : World} {A : Around} {E : Value → Shared → Prop} {s : Shared}
set_option maxRecDepth 8000 in
theorem ext_tup (l b : Addr) (xs ys : Array Value) (n m : Nat) (dd : Option Addr) (sl : Array (Option Value)) (h0 : ¬(!xs.isEmpty && Builtin.List.listTooLong (xs.size + ys.size)) = true) (h1 : xs.size ≤ sizeLine) (h2 : xs.size + ys.size ≤ sizeLine + 1) :
    Meets (Builtin.«list.extend» ⟨[.ref l, .ref b], []⟩) (fun _ R s => s.heap.get? l = some { cls := .type "list", data := .seq xs n } ∧ s.heap.get? b = some { cls := .type "tuple", dict := dd, data := .seq ys m, slots := sl } ∧
      R (.ok (.ret Value.none)) { s with heap := s.heap.update l (Obj.mapSeq fun x => x ++ ys), toks := s.toks }) := .of_wp fun prog w A R s h => by
  obtain ⟨hp, g, d, tk, os⟩ := s
  obtain ⟨hl, hb, h⟩ := h
  have q1 := AutoSeq1.idx_int
  have q2 := AutoSeq1.sub_tuple_tuple
  have q3 := AutoSeq1.sub_list_list
  have q4 := AutoSeq1.sub_tuple_list
  have q5 := AutoSeq1.sub_list_tuple
  have hz : (xs ++ ys).size ≤ sizeLine + 1 := by
    rw [Array.size_append]
    exact h2
  wp_walk using (wpAny_updateSeq hl rfl (hz := h1) (_hz' := hz)), AutoSeq1.wpAny_loadPart' hl, AutoSeq1.wpAny_loadPart' hb
  exact ⟨_, rfl, h⟩
end
section
variable {X : Cx} {K : PySem.W.Frag}
def rExtT (K : PySem.W.Frag) : V → List V → Hp → VK → Prop := fun x vs H Q => ∃ l b xs zs, x = .ref l ∧ vs = [.ref b] ∧ H l = some (.lst xs) ∧ SqT K H b zs ∧ xs.length + zs.length ≤ sizeLine ∧ Q .non (upd H l (.lst (xs ++ zs)))
theorem mt_extT (hK : X.K = K) : MtM X "list.extend" (rExtT K) := by
  subst hK
  intro pins s σ H x vs v us Q I rx rv ⟨l, b, xs, zs, ex, ev, hH, hB, hz, q⟩
  subst ex
  subst ev
  cases rx
  obtain ⟨u, rfl, ru⟩ := rv.one
  cases ru
  obtain ⟨z, its, n, r, hl, e⟩ := I.lstM hH
  obtain ⟨its2, r2, ⟨⟨oc, od, ob, os⟩, e2, ec, m, eb⟩, z2⟩ := I.tuple hB
  have hl2 := r2.length
  dsimp only at ec eb
  subst ec
  subst eb
  have hs : its.toArray.size + its2.toArray.size ≤ sizeLine := by
    rw [List.size_toArray, List.size_toArray]
    omega
  refine call_meets F.slot_list_extend ⟨_, e, rfl⟩ F.entry_list_extend (F.args_list_extend_2 _ _) (ext_tup l b its.toArray its2.toArray n m od os (fun c => ?_) (by omega) (by omega)) ⟨e, e2, ?_⟩
  · rw [notLongL hs, Bool.and_false] at c
    cases c
  · refine ⟨.non, _, I.lset (its' := its ++ its2) hH e (by simp) (r.append r2) ?_, rfl, q⟩
    rw [List.length_append]
    omega
/-- the items that a slice with a step picks -/
def pk3 {α : Type} (xs : List α) (lo hi : Option Int) (c : Int) : List α :=
  (List.range (Builtin.Slice.slicePlaces (Builtin.Slice.sliceAdjust lo hi c xs.length).1 (Builtin.Slice.sliceAdjust lo hi c xs.length).2 c)).filterMap fun (k : Nat) => xs[((Builtin.Slice.sliceAdjust lo hi c xs.length).1 + (k : Int) * c).toNat]?
theorem pk3_vals {xs : List V} {us : List Value} (r : Vals xs us) (lo hi : Option Int) (c : Int) : Vals (pk3 xs lo hi c) (pk3 us lo hi c) := by
  unfold pk3
  rw [r.length]
  generalize List.range (Builtin.Slice.slicePlaces (Builtin.Slice.sliceAdjust lo hi c us.length).1 (Builtin.Slice.sliceAdjust lo hi c us.length).2 c) = ks
  generalize (Builtin.Slice.sliceAdjust lo hi c us.length).1 = b
  induction ks with
  | nil => exact .nil
  | cons k ks ih =>
    rw [List.filterMap_cons, List.filterMap_cons]
    cases e : xs[(b + (k : Int) * c).toNat]? with
    | none =>
      have : us[(b + (k : Int) * c).toNat]? = none := by
        rw [List.getElem?_eq_none_iff] at e ⊢
        rw [← r.length]
        exact e
      rw [this]
      exact ih
    | some x =>
      obtain ⟨u, e2, ru⟩ := Vals.get r e
      rw [e2]
      exact .cons ru ih
theorem pk3_len {α : Type} (xs : List α) (lo hi : Option Int) (c : Int) : (pk3 xs lo hi c).length ≤ Builtin.Slice.slicePlaces (Builtin.Slice.sliceAdjust lo hi c xs.length).1 (Builtin.Slice.sliceAdjust lo hi c xs.length).2 c := by
  unfold pk3
  refine Nat.le_trans (List.length_filterMap_le _ _) ?_
  rw [List.length_range]
  exact Nat.le_refl _
end
section
variable {prog : Program} {w : World} {A : Around} {E : Value → Shared → Prop} {s : Shared}
theorem applied3 {sl : Addr} {vl vu vs : Value} {lo hi : Option Int} {c : Int} {n : Nat} {Q : Int × Int × Nat → Shared → Prop} (hs : s.heap.IsSliceOf sl vl vu vs) (pl : IsPart vl lo) (pu : IsPart vu hi) (ps : IsPart vs (some c)) (hc : c ≠ 0)
    (h : Q ((Builtin.Slice.sliceAdjust lo hi c n).1, c, Builtin.Slice.slicePlaces (Builtin.Slice.sliceAdjust lo hi c n).1 (Builtin.Slice.sliceAdjust lo hi c n).2 c) s) :
    wpAny (model prog w) A (Builtin.Slice.sliceApplied (.ref sl) (pure (n : Int))) Q E s := by
  obtain ⟨ob, g1, _, g3⟩ := id hs
  unfold Builtin.Slice.sliceApplied Builtin.Slice.sliceFields
  refine wpAny_bind (wpAny_bind (wpAny_field g1 g3 (x := vl) rfl (wpAny_bind (wpAny_field g1 g3 (x := vu) rfl (wpAny_bind (wpAny_field g1 g3 (x := vs) rfl (wpAny_pure ?_)))))))
  refine wpAny_bind (HT.slicePart_ ps ?_)
  show wpAny _ _ (if (c == 0) = true then _ else _) _ _ s
  rw [if_neg (by simpa using hc)]
  refine wpAny_bind (HT.slicePart_ pl (wpAny_bind (HT.slicePart_ pu (wpAny_bind (wpAny_pure ?_)))))
  show wpAny _ _ (match Builtin.Slice.sliceAdjust lo hi c (n : Int) with | (lo, hi) => pure (lo, c, Builtin.Slice.slicePlaces lo hi c)) _ _ s
  exact wpAny_pure h
theorem item3 {t sl : Addr} {items : List Value} {vl vu vs : Value} {lo hi : Option Int} {c : Int} {Q : Value → Shared → Prop} (ht : IsTup s.heap t items.toArray) (hs : s.heap.IsSliceOf sl vl vu vs) (pl : IsPart vl lo) (pu : IsPart vu hi) (ps : IsPart vs (some c)) (hc : c ≠ 0)
    (h1 : c ≠ 1) (h : Q (.ref s.heap.objs.size) { s with heap := s.heap.push { cls := .type "tuple", data := .seq (pk3 items lo hi c).toArray } }) (hz : (pk3 items lo hi c).length ≤ sizeLine) :
    wpAny (model prog w) A (getItem (.ref t) (.ref sl)) Q E s := by
  have fits : sizeOk (.seq (pk3 items lo hi c).toArray) := by
    show (pk3 items lo hi c).toArray.size ≤ sizeLine
    rw [List.size_toArray]
    exact hz
  have isl : s.TypeIs (.ref sl) "slice" := by
    obtain ⟨ob, g1, g2, _⟩ := id hs
    exact ⟨ob, g1, g2⟩
  unfold getItem
  try with_reducible refine wpAny_holding ?_
  first | refine wpAny_bind (wpAny_pure ?_) | skip
  refine wpAny_bind (wpAny_sequenceKey ht.typeIs (by decide) (wpAny_bind (wpAny_callSpecial?_slot (name := Str.ofString "__getitem__") ht.typeIs slot_tuple_getitem (wpAny_call_entry slot_tuple_getitem ht.typeIs entry_tuple_getitem ?_ (args_tuple_getitem _ _)))))
  show wpAny _ _ (Builtin.Tuple.tupleItemsOf (.ref t) >>= _) _ _ s
  refine wpAny_bind (tupleItemsOf_ ht (wpAny_bind (wpAny_typeOf isl ?_)))
  rw [if_pos (by decide)]
  refine wpAny_bind (applied3 hs pl pu ps hc ?_)
  have no : ¬ (((Builtin.Slice.sliceAdjust lo hi c items.toArray.size).1 == 0 && c == 1 && (Builtin.Slice.slicePlaces (Builtin.Slice.sliceAdjust lo hi c items.toArray.size).1 (Builtin.Slice.sliceAdjust lo hi c items.toArray.size).2 c) == items.toArray.size) = true) := fun q => by
    rw [Bool.and_eq_true, Bool.and_eq_true] at q
    exact h1 (eq_of_beq q.1.2)
  have e : ((List.range (Builtin.Slice.slicePlaces (Builtin.Slice.sliceAdjust lo hi c items.toArray.size).1 (Builtin.Slice.sliceAdjust lo hi c items.toArray.size).2 c)).filterMap fun (k : Nat) => items.toArray[((Builtin.Slice.sliceAdjust lo hi c items.toArray.size).1 + (k : Int) * c).toNat]?) = pk3 items lo hi c := by
    unfold pk3
    rw [List.size_toArray]
    simp only [List.getElem?_toArray]
  show wpAny _ _ (if ((Builtin.Slice.sliceAdjust lo hi c items.toArray.size).1 == 0 && c == 1 && (Builtin.Slice.slicePlaces (Builtin.Slice.sliceAdjust lo hi c items.toArray.size).1 (Builtin.Slice.sliceAdjust lo hi c items.toArray.size).2 c) == items.toArray.size) = true then _ else _) _ _ s
  rw [if_neg no, e]
  first
    | exact wpAny_bind (m := Builtin.Tuple.tupleExact _) (wpAny_newObj_type (wpAny_pure ⟨_, rfl, wpAny_pure h⟩) fits)
    | exact wpAny_bind (m := Builtin.Tuple.tupleExact _) (wpAny_newObj_type (wpAny_bind (wpAny_pure (wpAny_pure ⟨_, rfl, wpAny_pure h⟩))) fits)
    | exact wpAny_bind (wpAny_bind (m := Builtin.Tuple.tupleExact _) (wpAny_newObj_type (wpAny_pure (wpAny_pure ⟨_, rfl, wpAny_pure h⟩)) fits))
    | exact wpAny_bind (wpAny_bind (m := Builtin.Tuple.tupleExact _) (wpAny_newObj_type (wpAny_pure ⟨_, rfl, wpAny_pure h⟩) fits))
end
section
variable {X : Cx} {K : PySem.W.Frag} {e s3 : Expr} {lo hi : Option Expr} {te : TE} {tl th t3 : TO} {p3 pos : Pos}
def tSl3 (K : PySem.W.Frag) (te : TE) (tl th t3 : TO) : TE := fun σ H Q => te σ H fun x H1 => tl σ H1 fun l H2 => th σ H2 fun u H3 => t3 σ H3 fun c H4 => ∃ a xs k, x = .ref a ∧ c = some k ∧ SqT K H4 a xs ∧ k ≠ 0 ∧ k ≠ 1 ∧ (pk3 xs l u k).length ≤ sizeLine ∧
  ∀ p, H4 p = none → Q (.ref p) (upd H4 p (.tup (pk3 xs l u k)))
theorem pe_sl3 (hK : X.K = K) (he : PE X e te) (hl : PO X lo tl) (hu : PO X hi th) (h3 : PO X (some s3) t3) (ho : ∀ a b : Addr, ∃ ops, subscripted (Expr.Slice lo hi (some s3) p3) false (.ref a) (.ref b) = operate ops (getItem (.ref a) (.ref b)) := by exact fun _ _ => ⟨_, rfl⟩) : PE X (.Subscript e (.Slice lo hi (some s3) p3) pos) (tSl3 K te tl th t3) := by
  subst hK
  refine ⟨fun pins s σ H Q I h => Subscript_ (thn (he.run pins s σ H _ I h) fun v s1 ⟨x, H1, I1, r1, q1⟩ => wpAny_Slice (thn (hl.run pins s1 σ H1 _ I1 q1) fun vl s2 ⟨l, H2, I2, pl, q2⟩ => thn (hu.run pins s2 σ H2 _ I2 q2) fun vu s4 ⟨u, H3, I3, pu, q3⟩ =>
    thn (h3.run pins s4 σ H3 _ I3 q3) fun vc s5 ⟨c, H4, I4, pc, q4⟩ => ?_))⟩
  obtain ⟨a, xs, k, ex, ec, hx, k0, k1, hz, q⟩ := q4
  subst ex
  subst ec
  cases r1
  have I5 : Inv X pins σ H4 { s5 with heap := s5.heap.push { cls := .type "slice", data := .fields #[vl, vu, vc] } } := I4.kept (t' := s5.toks) fun b ob q => Heap.get?_push_of_some _ q
  obtain ⟨its, r, ht, _⟩ := I5.tuple hx
  have rv := pk3_vals r l u k
  show wpAny (model X.prog X.w) X.A (subscriptTail e (.Slice lo hi (some s3) p3) (.ref a) (.ref s5.heap.objs.size)) (EP X pins σ Q) X.xe { s5 with heap := s5.heap.push { cls := .type "slice", data := .fields #[vl, vu, vc] } }
  obtain ⟨ops, hops⟩ := ho a s5.heap.objs.size
  refine tail_any (ops := ops) ht.typeIs (slot_tuple_getitem.lookup) ?_ hops
  refine item3 ht (Heap.IsSliceOf.new _ vl vu vc) pl pu pc k0 k1 ?_ (by rw [← rv.length]; exact hz)
  refine ⟨.ref _, _, I5.laid (t' := s5.toks) (o := .tup (pk3 xs l u k)) (fun b ob q => Heap.get?_push_of_some _ q) (Nat.le_refl _) ?_, rfl, q _ (I5.hok.fresh (Nat.le_refl _))⟩
  exact ⟨hz, _, rv, IsTup.new _ _⟩
end
end Tx
/-! own rule: a tuple times 1 is that tuple -/
namespace Tx
open PySem PySem.Spec PyProof.Rows L2
theorem mul_one (l : Addr) (items : Array Value) (n : Nat) (dd : Option Addr) (sl : Array (Option Value)) (u : Tok) :
    Meets (Builtin.«tuple.__mul__» ⟨[.ref l, .int 1 u], []⟩) (fun _ R s => s.heap.get? l = some { cls := .type "tuple", dict := dd, data := .seq items n, slots := sl } ∧ R (.ok (.ret (.ref l))) s) := .of_wp fun prog w A R s h => by
  obtain ⟨hp, g, d, tk, os⟩ := s
  obtain ⟨hl, h⟩ := h
  have q1 := AutoSeq1.idx_int
  wp_walk using AutoSeq1.wpAny_loadPart' hl
  repeat (first
    | (refine wpAny_ite_true (decide_eq_true (by simp)) ?_; wp_walk using AutoSeq1.wpAny_loadPart' hl)
    | (refine wpAny_ite_false (decide_eq_false (by simp)) ?_; wp_walk using AutoSeq1.wpAny_loadPart' hl))
  exact ⟨_, rfl, h⟩
def rRep1 (K : PySem.W.Frag) : R2 := fun x y H Q => ∃ l k xs, x = .ref l ∧ y = .int k ∧ SqT K H l xs ∧ xs ≠ [] ∧ 1 ≤ k ∧ k ≤ 1000 ∧ xs.length ≤ 1000 ∧ (k = 1 → Q (.ref l) H) ∧ (2 ≤ k → ∀ p, H p = none → Q (.ref p) (upd H p (.tup (List.replicate k.toNat xs).flatten)))
theorem op_rep1K {X : Cx} {K : PySem.W.Frag} (h : X.K = K) : OpR X (binaryOp .Mult) (rRep1 K) := by
  subst h
  intro pins s σ H x y v u Q I rx ry h
  obtain ⟨l, k, xs, ex, ey, hT, hne, h1, h2, hz, q1, q2⟩ := h
  by_cases c : k = 1
  · subst c
    subst ex
    subst ey
    cases rx
    obtain ⟨t, rfl⟩ := ry
    obtain ⟨its, r, ⟨⟨cls, dd, data, sl⟩, ho, hc, n, hd⟩, _⟩ := I.tuple hT
    simp only at hc hd
    subst hc hd
    refine wpAny_binaryOp_repeat_ref (T := "tuple") (U := "int") (by decide) ⟨_, ho, rfl⟩ (fun s' => typeIs_int s' 1 t) noFill_tuple_mul F.fills_int_mul F.slot_int_rmul repeat_tuple F.slot_int_index.lookup
      (call_meets F.slot_int_rmul (typeIs_int s 1 t) F.entry_int_rmul (F.args_int_rmul_2 _ _) (int_rmul_tuple 1 t l its.toArray n dd sl)
        ⟨ho, rfl, ⟨_, ho, rfl⟩, call_meets F.slot_tuple_mul ⟨_, ho, rfl⟩ F.entry_tuple_mul (F.args_tuple_mul_2 _ _) (mul_one l its.toArray n dd sl t) ⟨ho, ?_⟩⟩)
    exact ⟨.ref l, H, I, rfl, q1 rfl⟩
  · exact op_repT pins s σ H x y v u Q I rx ry ⟨l, k, xs, ex, ey, hT, hne, by omega, h2, hz, q2 (by omega)⟩
end Tx
/-! truth over a word without end: one step x ↦ B or (A and x), forwards and backwards -/
namespace Tr
/-- n steps back from s + n to s -/
def bk (A B : Nat → Bool) : Nat → Nat → Bool → Bool
  | _, 0, x => x
  | s, n + 1, x => B s || (A s && bk A B (s + 1) n x)
theorem bk_add (A B : Nat → Bool) (m : Nat) (x : Bool) : ∀ (n s : Nat), bk A B s (n + m) x = bk A B s n (bk A B (s + n) m x)
  | 0, s => by rw [Nat.zero_add]; rfl
  | n + 1, s => by
    have e : n + 1 + m = (n + m) + 1 := by omega
    rw [e]
    show (B s || (A s && bk A B (s + 1) (n + m) x)) = (B s || (A s && bk A B (s + 1) n (bk A B (s + (n + 1)) m x)))
    rw [bk_add A B m x n (s + 1), show s + 1 + n = s + (n + 1) by omega]
theorem bk_form (A B : Nat → Bool) : ∀ (n s : Nat), ∃ P Q : Bool, ∀ x, bk A B s n x = (P || (Q && x))
  | 0, s => ⟨false, true, fun x => by simp [bk]⟩
  | n + 1, s => by
    obtain ⟨P, Q, h⟩ := bk_form A B n (s + 1)
    refine ⟨B s || (A s && P), A s && Q, fun x => ?_⟩
    show (B s || (A s && bk A B (s + 1) n x)) = _
    rw [h]
    cases B s <;> cases A s <;> cases P <;> cases Q <;> cases x <;> rfl
theorem bk_mono {A B : Nat → Bool} {n s : Nat} (h : bk A B s n false = true) (x : Bool) : bk A B s n x = true := by
  obtain ⟨P, Q, e⟩ := bk_form A B n s
  rw [e] at h ⊢
  cases P <;> cases Q <;> cases x <;> simp_all
theorem bk_twice (A B : Nat → Bool) (n s : Nat) (x : Bool) : bk A B s n (bk A B s n x) = bk A B s n x := by
  obtain ⟨P, Q, e⟩ := bk_form A B n s
  rw [e, e]
  cases P <;> cases Q <;> cases x <;> rfl
theorem bk_congr {A B A' B' : Nat → Bool} (x : Bool) : ∀ (n s s' : Nat), (∀ i, i < n → A (s + i) = A' (s' + i) ∧ B (s + i) = B' (s' + i)) → bk A B s n x = bk A' B' s' n x
  | 0, _, _, _ => rfl
  | n + 1, s, s', h => by
    have h0 := h 0 (Nat.succ_pos n)
    have ih := bk_congr x n (s + 1) (s' + 1) fun i hi => by
      have := h (i + 1) (by omega)
      rwa [show s + (i + 1) = s + 1 + i by omega, show s' + (i + 1) = s' + 1 + i by omega] at this
    show (B s || (A s && bk A B (s + 1) n x)) = (B' s' || (A' s' && bk A' B' (s' + 1) n x))
    rw [ih, show A s = A' s' from h0.1, show B s = B' s' from h0.2]
/-- from m on of period L -/
def Pd (f : Nat → Bool) (m L : Nat) : Prop := ∀ t, m ≤ t → f (t + L) = f t
theorem Pd.up {f : Nat → Bool} {m n L : Nat} (h : Pd f m L) (k : m ≤ n) : Pd f n L := fun t ht => h t (Nat.le_trans k ht)
theorem Pd.mul {f : Nat → Bool} {m L : Nat} (h : Pd f m L) : ∀ k t, m ≤ t → f (t + k * L) = f t
  | 0, t, _ => by rw [Nat.zero_mul]; rfl
  | k + 1, t, ht => by
    rw [Nat.succ_mul, ← Nat.add_assoc, h _ (by omega), h.mul k t ht]
open Classical in
/-- the future's limit: from the start value i -/
noncomputable def lim (i : Bool) (A B : Nat → Bool) (t : Nat) : Bool :=
  if i = true then decide (∀ n, bk A B t n true = true) else decide (∃ n, bk A B t n false = true)
theorem lim_t {A B : Nat → Bool} {t : Nat} : lim true A B t = true ↔ ∀ n, bk A B t n true = true := by
  unfold lim
  simp
theorem lim_f {A B : Nat → Bool} {t : Nat} : lim false A B t = true ↔ ∃ n, bk A B t n false = true := by
  unfold lim
  simp
theorem bool_ext {a b : Bool} (h : a = true ↔ b = true) : a = b := by
  cases a <;> cases b <;> simp_all
theorem lim_step (i : Bool) (A B : Nat → Bool) (t : Nat) : lim i A B t = (B t || (A t && lim i A B (t + 1))) := by
  apply bool_ext
  cases i with
  | true =>
    rw [lim_t]
    constructor
    · intro h
      cases hb : B t with
      | true => rfl
      | false =>
        cases ha : A t with
        | false =>
          have := h 1
          rw [show bk A B t 1 true = (B t || (A t && true)) from rfl, hb, ha] at this
          cases this
        | true =>
          rw [Bool.false_or, Bool.true_and, lim_t]
          intro n
          have := h (n + 1)
          rw [show bk A B t (n + 1) true = (B t || (A t && bk A B (t + 1) n true)) from rfl, hb, ha] at this
          simpa using this
    · intro h n
      cases n with
      | zero => rfl
      | succ n =>
        show (B t || (A t && bk A B (t + 1) n true)) = true
        rw [Bool.or_eq_true, Bool.and_eq_true] at h ⊢
        rcases h with h | ⟨h1, h2⟩
        · exact .inl h
        · exact .inr ⟨h1, lim_t.mp h2 n⟩
  | false =>
    rw [lim_f]
    constructor
    · rintro ⟨n, h⟩
      cases n with
      | zero => cases h
      | succ n =>
        rw [show bk A B t (n + 1) false = (B t || (A t && bk A B (t + 1) n false)) from rfl] at h
        rw [Bool.or_eq_true, Bool.and_eq_true] at h ⊢
        rcases h with h | ⟨h1, h2⟩
        · exact .inl h
        · exact .inr ⟨h1, lim_f.mpr ⟨n, h2⟩⟩
    · intro h
      rw [Bool.or_eq_true, Bool.and_eq_true] at h
      rcases h with h | ⟨h1, h2⟩
      · exact ⟨1, by show (B t || _) = true; rw [h]; rfl⟩
      · obtain ⟨n, hn⟩ := lim_f.mp h2
        exact ⟨n + 1, by show (B t || (A t && bk A B (t + 1) n false)) = true; rw [hn, h1, Bool.and_true, Bool.or_true]⟩
theorem lim_bk (i : Bool) (A B : Nat → Bool) : ∀ n t, lim i A B t = bk A B t n (lim i A B (t + n))
  | 0, t => rfl
  | n + 1, t => by
    rw [lim_step, lim_bk i A B n (t + 1), show t + 1 + n = t + (n + 1) by omega]
    rfl
theorem lim_pd {i : Bool} {A B : Nat → Bool} {m L : Nat} (ha : Pd A m L) (hb : Pd B m L) : Pd (lim i A B) m L := fun t ht => by
  have e : ∀ n x, bk A B (t + L) n x = bk A B t n x := fun n x => bk_congr x n _ _ fun j _ => by
    rw [show t + L + j = t + j + L by omega]
    exact ⟨ha _ (by omega), hb _ (by omega)⟩
  apply bool_ext
  cases i with
  | true => rw [lim_t, lim_t]; simp only [e]
  | false => rw [lim_f, lim_f]; simp only [e]
theorem bk_round {A B : Nat → Bool} {m L : Nat} (ha : Pd A m L) (hb : Pd B m L) : ∀ k y, bk A B m ((k + 1) * L) y = bk A B m L y
  | 0, y => by rw [Nat.zero_add, Nat.one_mul]
  | k + 1, y => by
    rw [Nat.succ_mul (k + 1), bk_add]
    have e : bk A B (m + (k + 1) * L) L y = bk A B m L y := bk_congr y L _ _ fun j _ => by
      rw [show m + (k + 1) * L + j = (m + j) + (k + 1) * L by omega]
      exact ⟨ha.mul _ _ (by omega), hb.mul _ _ (by omega)⟩
    rw [e, bk_round ha hb k, bk_twice]
theorem bk_le_t {A B : Nat → Bool} {n s : Nat} {x : Bool} (h : bk A B s n x = true) : bk A B s n true = true := by
  obtain ⟨P, Q, e⟩ := bk_form A B n s
  rw [e] at h ⊢
  cases P <;> cases Q <;> cases x <;> simp_all
/-- once round the loop from the start value is the limit -/
theorem lim_loop {i : Bool} {A B : Nat → Bool} {m L : Nat} (hL : 0 < L) (ha : Pd A m L) (hb : Pd B m L) : lim i A B m = bk A B m L i := by
  apply bool_ext
  cases i with
  | true =>
    rw [lim_t]
    refine ⟨fun h => h L, fun h n => ?_⟩
    have h2 := bk_round ha hb n true
    rw [h] at h2
    have le : n ≤ (n + 1) * L := Nat.le_trans (Nat.le_succ n) (Nat.le_mul_of_pos_right _ hL)
    obtain ⟨j, hj⟩ := Nat.exists_eq_add_of_le le
    rw [hj, bk_add] at h2
    exact bk_le_t h2
  | false =>
    rw [lim_f]
    refine ⟨fun ⟨n, h⟩ => ?_, fun h => ⟨L, h⟩⟩
    have h2 := bk_round ha hb n false
    have le : n ≤ (n + 1) * L := Nat.le_trans (Nat.le_succ n) (Nat.le_mul_of_pos_right _ hL)
    obtain ⟨j, hj⟩ := Nat.exists_eq_add_of_le le
    rw [hj, bk_add, bk_mono h] at h2
    exact h2.symm
/-! forwards -/
def fw (i : Bool) (A B : Nat → Bool) : Nat → Bool
  | 0 => B 0 || (A 0 && i)
  | t + 1 => B (t + 1) || (A (t + 1) && fw i A B t)
/-- n steps on from a value -/
def st (A B : Nat → Bool) : Nat → Nat → Bool → Bool
  | _, 0, x => x
  | s, n + 1, x => B (s + n) || (A (s + n) && st A B s n x)
theorem st_form (A B : Nat → Bool) : ∀ (n s : Nat), ∃ P Q : Bool, ∀ x, st A B s n x = (P || (Q && x))
  | 0, s => ⟨false, true, fun x => by simp [st]⟩
  | n + 1, s => by
    obtain ⟨P, Q, h⟩ := st_form A B n s
    refine ⟨B (s + n) || (A (s + n) && P), A (s + n) && Q, fun x => ?_⟩
    show (B (s + n) || (A (s + n) && st A B s n x)) = _
    rw [h]
    cases B (s + n) <;> cases A (s + n) <;> cases P <;> cases Q <;> cases x <;> rfl
theorem st_congr {A B A' B' : Nat → Bool} (x : Bool) : ∀ (n s s' : Nat), (∀ i, i < n → A (s + i) = A' (s' + i) ∧ B (s + i) = B' (s' + i)) → st A B s n x = st A' B' s' n x
  | 0, _, _, _ => rfl
  | n + 1, s, s', h => by
    have h0 := h n (Nat.lt_succ_self n)
    have ih := st_congr x n s s' fun i hi => h i (by omega)
    show (B (s + n) || (A (s + n) && st A B s n x)) = (B' (s' + n) || (A' (s' + n) && st A' B' s' n x))
    rw [ih, h0.1, h0.2]
theorem fw_st (i : Bool) (A B : Nat → Bool) (t : Nat) : ∀ n, fw i A B (t + n) = st A B (t + 1) n (fw i A B t)
  | 0 => rfl
  | n + 1 => by
    show (B (t + n + 1) || (A (t + n + 1) && fw i A B (t + n))) = (B (t + 1 + n) || (A (t + 1 + n) && st A B (t + 1) n (fw i A B t)))
    rw [fw_st i A B t n, show t + n + 1 = t + 1 + n by omega]
/-- one round more -/
theorem fw_pd {i : Bool} {A B : Nat → Bool} {m L : Nat} (hL : 0 < L) (ha : Pd A m L) (hb : Pd B m L) : Pd (fw i A B) (m + L) L := fun t ht => by
  obtain ⟨r, rfl⟩ := Nat.exists_eq_add_of_le (show L ≤ t by omega)
  rw [Nat.add_comm L r] at ht ⊢
  have e : ∀ x, st A B (r + L + 1) L x = st A B (r + 1) L x := fun x => st_congr x L _ _ fun j _ => by
    rw [show r + L + 1 + j = r + 1 + j + L by omega]
    exact ⟨ha _ (by omega), hb _ (by omega)⟩
  rw [fw_st i A B (r + L) L, e, fw_st i A B r L]
  obtain ⟨P, Q, h⟩ := st_form A B L (r + 1)
  rw [h, h]
  cases P <;> cases Q <;> cases fw i A B r <;> rfl
end Tr

namespace Tr
open PySem
/-! formulas, what each sign does, their truth along a word -/
inductive Fm where
  | c0 (k : Str)
  | sg (s : Str)
  | un (k : Str) (f : Fm)
  | bin (k : Str) (f g : Fm)
abbrev sSig : Str := "signal"
def steps : List Str := ["next", "previous", "weak_previous"]
def past : List Str := ["previous", "weak_previous", "once", "historically", "since", "trigger"]
def future : List Str := ["next", "eventually", "always", "until", "weak_until", "release"]
def beyond : List Str := ["weak_previous", "historically", "trigger", "always", "release", "weak_until"]
def plB (k : Str) (a b : Bool) : Bool :=
  if k = "not" then !a else if k = "and" then a && b else if k = "or" then a || b else if k = "implies" then !a || b else if k = "iff" then a == b else decide (k = "true")
def tofB (k : Str) (a b c : Bool) : Bool :=
  if k ∈ steps then c else if k ∈ (["eventually", "once"] : List Str) then a || c else if k ∈ (["always", "historically"] : List Str) then a && c
  else if k ∈ (["release", "trigger"] : List Str) then b && (a || c) else if k ∈ (["until", "weak_until", "since"] : List Str) then b || (a && c) else plB k a b
theorem tofB_form (k : Str) (a b c : Bool) : tofB k a b c = (tofB k a b false || (tofB k a b true && c)) := by
  unfold tofB
  split
  · cases c <;> rfl
  · split
    · cases a <;> cases c <;> rfl
    · split
      · cases a <;> cases c <;> rfl
      · split
        · cases a <;> cases b <;> cases c <;> rfl
        · split
          · cases a <;> cases b <;> cases c <;> rfl
          · cases plB k a b <;> cases c <;> rfl
theorem tofB_step {k : Str} (h : k ∈ steps) (a b c : Bool) : tofB k a b c = c := by
  unfold tofB
  rw [if_pos h]
def ini (k : Str) : Bool := decide (k ∈ beyond)
section
variable (k : Str) (a b : Nat → Bool)
def stA : Nat → Bool := fun t => tofB k (a t) (b t) true
def stB : Nat → Bool := fun t => tofB k (a t) (b t) false
/-- what the turn ahead hands back -/
noncomputable def carF (t : Nat) : Bool := if k ∈ steps then a t else lim (ini k) (stA k a b) (stB k a b) t
/-- what the turn behind hands on -/
def carP : Nat → Bool
  | 0 => ini k
  | t + 1 => if k ∈ steps then a t else fw (ini k) (stA k a b) (stB k a b) t
noncomputable def sq (t : Nat) : Bool := tofB k (a t) (b t) (if k ∈ past then carP k a b t else if k ∈ future then carF k a b (t + 1) else false)
end
theorem tof_st (k : Str) (a b : Nat → Bool) (t : Nat) (c : Bool) : tofB k (a t) (b t) c = (stB k a b t || (stA k a b t && c)) := tofB_form k (a t) (b t) c
theorem sq_past {k : Str} (h : k ∈ past) (a b : Nat → Bool) (t : Nat) : sq k a b t = tofB k (a t) (b t) (carP k a b t) := by
  unfold sq
  rw [if_pos h]
theorem sq_fut {k : Str} (h0 : ¬ k ∈ past) (h : k ∈ future) (a b : Nat → Bool) (t : Nat) : sq k a b t = tofB k (a t) (b t) (carF k a b (t + 1)) := by
  unfold sq
  rw [if_neg h0, if_pos h]
theorem sq_pl {k : Str} (h0 : ¬ k ∈ past) (h : ¬ k ∈ future) (a b : Nat → Bool) (t : Nat) : sq k a b t = tofB k (a t) (b t) false := by
  unfold sq
  rw [if_neg h0, if_neg h]
theorem carP_next {k : Str} (h : k ∈ past) (a b : Nat → Bool) (t : Nat) : carP k a b (t + 1) = if k ∈ steps then a t else sq k a b t := by
  show (if k ∈ steps then a t else fw (ini k) (stA k a b) (stB k a b) t) = _
  split
  · rfl
  · rename_i hs
    rw [sq_past h, tof_st]
    cases t with
    | zero => rfl
    | succ t =>
      show _ = (stB k a b (t + 1) || (stA k a b (t + 1) && (if k ∈ steps then a t else fw (ini k) (stA k a b) (stB k a b) t)))
      rw [if_neg hs]
      rfl
theorem carF_sq {k : Str} (h0 : ¬ k ∈ past) (h : k ∈ future) (a b : Nat → Bool) (t : Nat) : carF k a b t = if k ∈ steps then a t else sq k a b t := by
  unfold carF
  split
  · rfl
  · rename_i hs
    rw [sq_fut h0 h, tof_st, carF, if_neg hs]
    exact lim_step _ _ _ _
def tb (k : Str) : Nat := if k ∈ past then 1 else 0
theorem st_pd {k : Str} {a b : Nat → Bool} {m L : Nat} (ha : Pd a m L) (hb : Pd b m L) : Pd (stA k a b) m L ∧ Pd (stB k a b) m L :=
  ⟨fun t ht => by unfold stA; rw [ha t ht, hb t ht], fun t ht => by unfold stB; rw [ha t ht, hb t ht]⟩
theorem carF_pd {k : Str} {a b : Nat → Bool} {m L : Nat} (ha : Pd a m L) (hb : Pd b m L) : Pd (carF k a b) m L := by
  intro t ht
  unfold carF
  split
  · exact ha t ht
  · exact lim_pd (st_pd ha hb).1 (st_pd ha hb).2 t ht
theorem sq_fw {k : Str} (h : k ∈ past) (hs : ¬ k ∈ steps) (a b : Nat → Bool) (t : Nat) : sq k a b t = fw (ini k) (stA k a b) (stB k a b) t := by
  have q := carP_next h a b t
  rw [if_neg hs] at q
  rw [← q]
  show (if k ∈ steps then a t else fw (ini k) (stA k a b) (stB k a b) t) = _
  rw [if_neg hs]
theorem sq_pd {k : Str} {a b : Nat → Bool} {m L : Nat} (hL : 0 < L) (ha : Pd a m L) (hb : Pd b m L) : Pd (sq k a b) (m + tb k * L) L := by
  intro t ht
  unfold tb at ht
  by_cases hp : k ∈ past
  · rw [if_pos hp, Nat.one_mul] at ht
    by_cases hs : k ∈ steps
    · rw [sq_past hp, sq_past hp, tofB_step hs, tofB_step hs]
      obtain ⟨u, rfl⟩ : ∃ u, t = u + 1 := ⟨t - 1, by omega⟩
      rw [show u + 1 + L = u + L + 1 by omega, carP_next hp, carP_next hp, if_pos hs, if_pos hs]
      exact ha u (by omega)
    · rw [sq_fw hp hs, sq_fw hp hs]
      exact fw_pd hL (st_pd ha hb).1 (st_pd ha hb).2 t ht
  · rw [if_neg hp, Nat.zero_mul] at ht
    by_cases hf : k ∈ future
    · rw [sq_fut hp hf, sq_fut hp hf, ha t ht, hb t ht, show t + L + 1 = t + 1 + L by omega, carF_pd ha hb (t + 1) (by omega)]
    · rw [sq_pl hp hf, sq_pl hp hf, ha t ht, hb t ht]
/-- the future's value handed back at the word's end is the one at the loop's start after one round -/
def rndF (k : Str) (a b : Nat → Bool) (N : Nat) : Nat → Bool
  | 0 => ini k
  | j + 1 => if k ∈ steps then a (N - (j + 1)) else tofB k (a (N - (j + 1))) (b (N - (j + 1))) (rndF k a b N j)
theorem rndF_bk {k : Str} {a b : Nat → Bool} {N : Nat} (hs : ¬ k ∈ steps) : ∀ j, j ≤ N → rndF k a b N j = bk (stA k a b) (stB k a b) (N - j) j (ini k)
  | 0, _ => rfl
  | j + 1, h => by
    show (if k ∈ steps then a (N - (j + 1)) else tofB k (a (N - (j + 1))) (b (N - (j + 1))) (rndF k a b N j)) = _
    rw [if_neg hs, rndF_bk hs j (by omega), tof_st]
    show _ = (stB k a b (N - (j + 1)) || (stA k a b (N - (j + 1)) && bk (stA k a b) (stB k a b) (N - (j + 1) + 1) j (ini k)))
    rw [show N - (j + 1) + 1 = N - j by omega]
theorem rndF_end {k : Str} {a b : Nat → Bool} {m L : Nat} (hL : 0 < L) (ha : Pd a m L) (hb : Pd b m L) : rndF k a b (m + L) L = carF k a b (m + L) := by
  rw [carF_pd ha hb m (Nat.le_refl _)]
  unfold carF
  by_cases hs : k ∈ steps
  · obtain ⟨j, rfl⟩ : ∃ j, L = j + 1 := ⟨L - 1, by omega⟩
    show (if k ∈ steps then a (m + (j + 1) - (j + 1)) else _) = _
    rw [if_pos hs, if_pos hs, Nat.add_sub_cancel]
  · rw [if_neg hs, rndF_bk hs L (by omega), Nat.add_sub_cancel, lim_loop hL (st_pd ha hb).1 (st_pd ha hb).2]
/-! a formula's truth -/
def bitI (z : Int) (i : Nat) : Bool := decide (z / 2 ^ i % 2 = 1)
noncomputable def sem (nm : List Str) (x : Nat → Int) : Fm → Nat → Bool
  | .c0 k => sq k (fun _ => false) (fun _ => false)
  | .sg s => fun t => bitI (x t) (nm.idxOf s)
  | .un k f => sq k (sem nm x f) (fun _ => false)
  | .bin k f g => sq k (sem nm x f) (sem nm x g)
def pd : Fm → Nat
  | .c0 k => tb k
  | .sg _ => 0
  | .un k f => pd f + tb k
  | .bin k f g => max (pd f) (pd g) + tb k
theorem pd_c (m L : Nat) (c : Bool) : Pd (fun _ => c) m L := fun _ _ => rfl
theorem sem_pd {nm : List Str} {x : Nat → Int} {h L : Nat} (hL : 0 < L) (hx : ∀ t, h ≤ t → x (t + L) = x t) : ∀ f : Fm, Pd (sem nm x f) (h + pd f * L) L
  | .c0 k => sq_pd hL (pd_c h L false) (pd_c h L false)
  | .sg s => fun t ht => by
    show bitI (x (t + L)) _ = bitI (x t) _
    rw [hx t (by have : h ≤ h + pd (.sg s) * L := Nat.le_add_right _ _; omega)]
  | .un k f => by
    have q := sq_pd (k := k) hL (sem_pd (nm := nm) hL hx f) (pd_c _ L false)
    rw [Nat.add_assoc, ← Nat.add_mul] at q
    exact q
  | .bin k f g => by
    have e1 : h + pd f * L ≤ h + max (pd f) (pd g) * L := Nat.add_le_add_left (Nat.mul_le_mul_right L (Nat.le_max_left _ _)) h
    have e2 : h + pd g * L ≤ h + max (pd f) (pd g) * L := Nat.add_le_add_left (Nat.mul_le_mul_right L (Nat.le_max_right _ _)) h
    have q := sq_pd (k := k) hL ((sem_pd (nm := nm) hL hx f).up e1) ((sem_pd (nm := nm) hL hx g).up e2)
    rw [Nat.add_assoc, ← Nat.add_mul] at q
    exact q
/-! the parts -/
abbrev Pt := Str × Int × Int
def kids : Fm → List Fm
  | .c0 _ => []
  | .sg _ => []
  | .un _ f => [f]
  | .bin _ f g => [f, g]
def kd : Fm → Str
  | .c0 k => k
  | .sg _ => sSig
  | .un k _ => k
  | .bin k _ _ => k
def sz : Fm → Nat
  | .c0 _ => 1
  | .sg _ => 1
  | .un _ f => sz f + 1
  | .bin _ f g => sz f + sz g + 1
def pre : Fm → List Fm
  | .c0 k => [.c0 k]
  | .sg s => [.sg s]
  | .un k f => .un k f :: pre f
  | .bin k f g => .bin k f g :: (pre f ++ pre g)
theorem pre_kids (f : Fm) : pre f = f :: ((kids f).map pre).flatten := by
  cases f <;> simp [pre, kids]
theorem pre_len : ∀ f : Fm, (pre f).length = sz f
  | .c0 _ => rfl
  | .sg _ => rfl
  | .un k f => by
    show (pre f).length + 1 = sz f + 1
    rw [pre_len f]
  | .bin k f g => by
    show (pre f ++ pre g).length + 1 = sz f + sz g + 1
    rw [List.length_append, pre_len f, pre_len g]
theorem sz_pos (f : Fm) : 0 < sz f := by cases f <;> exact Nat.succ_pos _
/-- what stands in the formula is no sign of another kind, and its signals are named -/
def Wf (nm : List Str) : Fm → Prop
  | .c0 k => k ≠ sSig
  | .sg s => s ∈ nm
  | .un k f => k ≠ sSig ∧ Wf nm f
  | .bin k f g => k ≠ sSig ∧ Wf nm f ∧ Wf nm g
/-- the stack S, fed with the rest of the row, ends as the root alone -/
def Vl (root : Fm) : List Fm → List Fm → Prop
  | S, [] => S = [root]
  | S, g :: R => ∃ S', S = kids g ++ S' ∧ Vl root (g :: S') R
theorem vl_pre (root : Fm) : ∀ (f : Fm) (S R : List Fm), Vl root (f :: S) R → Vl root S ((pre f).reverse ++ R)
  | .c0 k, S, R, h => ⟨S, rfl, h⟩
  | .sg s, S, R, h => ⟨S, rfl, h⟩
  | .un k f, S, R, h => by
    show Vl root S ((Fm.un k f :: pre f).reverse ++ R)
    rw [List.reverse_cons, List.append_assoc]
    exact vl_pre root f S _ ⟨S, rfl, h⟩
  | .bin k f g, S, R, h => by
    show Vl root S ((Fm.bin k f g :: (pre f ++ pre g)).reverse ++ R)
    rw [List.reverse_cons, List.reverse_append, List.append_assoc, List.append_assoc]
    exact vl_pre root g S _ (vl_pre root f (g :: S) _ ⟨S, rfl, h⟩)
theorem vl_root (f : Fm) : Vl f [] (pre f).reverse := by
  have q := vl_pre f f [] [] rfl
  rwa [List.append_nil] at q
def Node (nm : List Str) (Fs : List Fm) (k : Nat) : Fm → Pt → Prop
  | .c0 c, p => c ≠ sSig ∧ p = (c, -1, -1)
  | .sg s, p => s ∈ nm ∧ p = (sSig, ((nm.idxOf s : Nat) : Int), -1)
  | .un c f, p => c ≠ sSig ∧ ∃ i : Nat, i < k ∧ Fs[i]? = some f ∧ p = (c, (i : Int), -1)
  | .bin c f g, p => c ≠ sSig ∧ ∃ i j : Nat, i < k ∧ j < k ∧ Fs[i]? = some f ∧ Fs[j]? = some g ∧ p = (c, (i : Int), (j : Int))
structure Good (nm : List Str) (P : List Pt) (Fs : List Fm) : Prop where
  len : P.length = Fs.length
  nd : ∀ k f p, Fs[k]? = some f → P[k]? = some p → Node nm Fs k f p
theorem Node.up {nm : List Str} {Fs : List Fm} {k k' : Nat} {f g : Fm} {p : Pt} (h : Node nm Fs k f p) (hk : k ≤ k') (hl : k ≤ Fs.length) : Node nm (Fs ++ [g]) k' f p := by
  cases f with
  | c0 c => exact h
  | sg s => exact h
  | un c f =>
    obtain ⟨h1, i, h2, h3, h4⟩ := h
    exact ⟨h1, i, by omega, by rw [List.getElem?_append_left (by omega)]; exact h3, h4⟩
  | bin c f f2 =>
    obtain ⟨h1, i, j, h2, h3, h4, h5, h6⟩ := h
    exact ⟨h1, i, j, by omega, by omega, by rw [List.getElem?_append_left (by omega)]; exact h4, by rw [List.getElem?_append_left (by omega)]; exact h5, h6⟩
theorem Good.snoc {nm : List Str} {P : List Pt} {Fs : List Fm} {f : Fm} {p : Pt} (h : Good nm P Fs) (n : Node nm Fs P.length f p) : Good nm (P ++ [p]) (Fs ++ [f]) := by
  refine ⟨by rw [List.length_append, List.length_append, h.len]; rfl, fun k g q hg hq => ?_⟩
  have e := h.len
  rcases Nat.lt_or_ge k P.length with c | c
  · rw [List.getElem?_append_left (by omega)] at hg
    rw [List.getElem?_append_left c] at hq
    exact (h.nd k g q hg hq).up (Nat.le_refl _) (by omega)
  · rw [List.getElem?_append_right (by omega)] at hg
    rw [List.getElem?_append_right c] at hq
    have hk : k = P.length := by
      rcases Nat.eq_or_lt_of_le c with z | z
      · exact z.symm
      · rw [List.getElem?_eq_none (by simp; omega)] at hq
        cases hq
    rw [hk, Nat.sub_self] at hq
    rw [hk, e, Nat.sub_self] at hg
    cases hg
    cases hq
    rw [hk]
    exact n.up (Nat.le_refl _) (by omega)
theorem node_uniq {nm : List Str} {Fs : List Fm} {k k' : Nat} {f g : Fm} {p : Pt} (h : Node nm Fs k f p) (h' : Node nm Fs k' g p) : f = g := by
  cases f with
  | c0 c =>
    obtain ⟨h1, rfl⟩ := h
    cases g with
    | c0 c' => obtain ⟨_, e⟩ := h'; cases e; rfl
    | sg s => obtain ⟨_, e⟩ := h'; injection e with e _; exact absurd e h1
    | un c' f => obtain ⟨_, i, _, _, e⟩ := h'; injection e with _ e; injection e with e _; omega
    | bin c' f f2 => obtain ⟨_, i, j, _, _, _, _, e⟩ := h'; injection e with _ e; injection e with e _; omega
  | sg s =>
    obtain ⟨h1, rfl⟩ := h
    cases g with
    | c0 c' => obtain ⟨h2, e⟩ := h'; injection e with e _; exact absurd e.symm h2
    | sg s' =>
      obtain ⟨h2, e⟩ := h'
      injection e with _ e
      injection e with e _
      have e : nm.idxOf s = nm.idxOf s' := by omega
      have a1 := List.getElem_idxOf (List.idxOf_lt_length_of_mem h1)
      have a2 := List.getElem_idxOf (List.idxOf_lt_length_of_mem h2)
      rw [← a1, ← a2]
      simp only [e]
    | un c' f => obtain ⟨h2, i, _, _, e⟩ := h'; injection e with e _; exact absurd e.symm h2
    | bin c' f f2 => obtain ⟨h2, i, j, _, _, _, _, e⟩ := h'; injection e with e _; first | exact absurd e.symm h2 | exact absurd e h2
  | un c f =>
    obtain ⟨h1, i, _, h3, rfl⟩ := h
    cases g with
    | c0 c' => obtain ⟨_, e⟩ := h'; injection e with _ e; injection e with e _; omega
    | sg s => obtain ⟨_, e⟩ := h'; injection e with e _; exact absurd e h1
    | un c' f' =>
      obtain ⟨_, i', _, h4, e⟩ := h'
      injection e with e1 e
      injection e with e2 _
      have e2 : i = i' := by omega
      rw [e2, h4] at h3
      cases h3
      rw [e1]
    | bin c' f' f2 => obtain ⟨_, i', j, _, _, _, _, e⟩ := h'; injection e with _ e; injection e with _ e; omega
  | bin c f f2 =>
    obtain ⟨h1, i, j, _, _, h3, h4, rfl⟩ := h
    cases g with
    | c0 c' => obtain ⟨_, e⟩ := h'; injection e with _ e; injection e with e _; omega
    | sg s => obtain ⟨_, e⟩ := h'; injection e with e _; exact absurd e h1
    | un c' f' => obtain ⟨_, i', _, _, e⟩ := h'; injection e with _ e; injection e with _ e; omega
    | bin c' f' f2' =>
      obtain ⟨_, i', j', _, _, h5, h6, e⟩ := h'
      injection e with e1 e
      injection e with e2 e3
      have e2 : i = i' := by omega
      have e3 : j = j' := by omega
      rw [e2, h5] at h3
      rw [e3, h6] at h4
      cases h3
      cases h4
      rw [e1]
def pc (P : List Pt) : Nat := (P.filter fun p => decide (p.1 ∈ past)).length
theorem pc_take {P : List Pt} {k : Nat} {p : Pt} (h : P[k]? = some p) : pc (P.take (k + 1)) = pc (P.take k) + tb p.1 := by
  unfold pc tb
  rw [List.take_succ, h, List.filter_append, List.length_append]
  rw [Option.toList_some, List.filter_cons, List.filter_nil]
  by_cases c : p.1 ∈ past
  · rw [if_pos c, if_pos (decide_eq_true c)]
    rfl
  · rw [if_neg c, if_neg (by rw [decide_eq_true_eq]; exact c)]
    rfl
theorem pc_mono {P : List Pt} {i j : Nat} (h : i ≤ j) : pc (P.take i) ≤ pc (P.take j) := by
  unfold pc
  rw [← List.countP_eq_length_filter, ← List.countP_eq_length_filter]
  exact (List.take_sublist_take_left h).countP_le
theorem pd_pc {nm : List Str} {P : List Pt} {Fs : List Fm} (G : Good nm P Fs) : ∀ k f, Fs[k]? = some f → pd f ≤ pc (P.take (k + 1)) := by
  intro k
  induction k using Nat.strongRecOn with
  | _ k ih =>
    intro f hf
    have hk : k < P.length := by
      rw [G.len]
      exact (List.getElem?_eq_some_iff.mp hf).1
    have hp : P[k]? = some P[k] := List.getElem?_eq_getElem hk
    have n := G.nd k f _ hf hp
    rw [pc_take hp]
    generalize P[k] = p at n
    cases f with
    | c0 c => obtain ⟨_, rfl⟩ := n; exact Nat.le_add_left _ _
    | sg s => exact Nat.zero_le _
    | un c f =>
      obtain ⟨_, i, hi, h3, rfl⟩ := n
      have := ih i hi f h3
      have := pc_mono (P := P) (show i + 1 ≤ k by omega)
      show pd f + tb c ≤ _ + tb c
      omega
    | bin c f g =>
      obtain ⟨_, i, j, hi, hj, h3, h4, rfl⟩ := n
      have := ih i hi f h3
      have := ih j hj g h4
      have := pc_mono (P := P) (show i + 1 ≤ k by omega)
      have := pc_mono (P := P) (show j + 1 ≤ k by omega)
      show max (pd f) (pd g) + tb c ≤ _ + tb c
      omega
end Tr
namespace Bx
open PySem PySem.Spec PyProof.Rows L2 Tr Tx
section
variable {X : Cx} {K : PySem.W.Frag}
theorem op_inK (h : X.K = K) : OpR X (compareOp .In) (rIn K false) := by
  subst h
  exact op_in_seq
theorem op_notInK (h : X.K = K) : OpR X (compareOp .NotIn) (rIn K true) := by
  subst h
  exact op_notIn_seq
theorem mt_indexK (h : X.K = K) : MtR X "list.index" (rIndex K) := by
  subst h
  exact mt_index
theorem pe_revLK {e : Expr} {te : TE} {k : Nat} {p1 p2 p3 pos : Pos} (h : X.K = K) (he : PE X e te) : PE X (.Subscript e (.Slice none none (some (.UnaryOp .USub (.Constant (.int 1) k p1) p2)) p3) pos) (tRevL K te) := by
  subst h
  exact pe_revL he
end
theorem in_strs (k : Str) : ∀ ss : List Str, inV (.str k) (ss.map V.str) = decide (k ∈ ss)
  | [] => by simp [inV]
  | s :: ss => by
    have ih := in_strs k ss
    unfold inV at ih ⊢
    rw [List.map_cons, List.any_cons, ih]
    show ((s == k) || _) = _
    by_cases c : s = k
    · subst c
      simp
    · have c2 : k ≠ s := fun z => c z.symm
      simp [c, c2]
theorem flat_strs : ∀ ss : List Str, (ss.map V.str).all flatV = true
  | [] => rfl
  | _ :: ss => by
    rw [List.map_cons, List.all_cons, flat_strs ss]
    rfl
theorem inq {K : PySem.W.Frag} {H : Hp} {p : Addr} {ss : List Str} {k : Str} {Q : VK} (h : SqT K H p (ss.map V.str)) (q : Q (.bl (decide (k ∈ ss))) H) : rIn K false (.str k) (.ref p) H Q :=
  ⟨p, _, rfl, .inr h, rfl, flat_strs ss, by rw [in_strs]; exact q⟩
theorem rev0 : pk3 ([] : List V) none none (-1) = [] := by simp [pk3, Builtin.Slice.slicePlaces, Builtin.Slice.sliceAdjust]
theorem rev1 (x : V) : pk3 [x] none none (-1) = [x] := by
  have e : Builtin.Slice.slicePlaces (Builtin.Slice.sliceAdjust none none (-1) ((1 : Nat) : Int)).1 (Builtin.Slice.sliceAdjust none none (-1) ((1 : Nat) : Int)).2 (-1) = 1 := by decide
  unfold pk3
  rw [show [x].length = 1 from rfl, e]
  rfl
theorem rev2 (x y : V) : pk3 [x, y] none none (-1) = [y, x] := by
  have e : Builtin.Slice.slicePlaces (Builtin.Slice.sliceAdjust none none (-1) ((2 : Nat) : Int)).1 (Builtin.Slice.sliceAdjust none none (-1) ((2 : Nat) : Int)).2 (-1) = 2 := by decide
  unfold pk3
  rw [show [x, y].length = 2 from rfl, e]
  rfl
/-! ### formulas in the heap -/
theorem sqt_same {K : PySem.W.Frag} {H H' : Hp} {a : Addr} {xs : List V} (e : Same H H') (h : SqT K H a xs) : SqT K H' a xs := by
  rcases h with (h | ⟨o, h⟩) | h
  · exact .inl (.inl (e _ _ h))
  · exact .inl (.inr ⟨o, e _ _ h⟩)
  · exact .inr h
theorem sqt_kp {K : PySem.W.Frag} {H H' : Hp} {d a : Addr} {xs : List V} {ys : List V} (hd : H d = some (.lst ys)) (e : Kp d H H') (h : SqT K H a xs) : SqT K H' a xs := by
  rcases h with (h | ⟨o, h⟩) | h
  · exact .inl (.inl (e _ _ (ne_of h hd (by intro z; cases z)) h))
  · exact .inl (.inr ⟨o, e _ _ (ne_of h hd (by intro z; cases z)) h⟩)
  · exact .inr h
def FmAt (K : PySem.W.Frag) (H : Hp) : V → Fm → Prop
  | v, .c0 k => ∃ a, v = .ref a ∧ SqT K H a [.str k]
  | v, .sg s => ∃ a, v = .ref a ∧ SqT K H a [.str sSig, .str s]
  | v, .un k f => ∃ a x, v = .ref a ∧ SqT K H a [.str k, x] ∧ FmAt K H x f
  | v, .bin k f g => ∃ a x y, v = .ref a ∧ SqT K H a [.str k, x, y] ∧ FmAt K H x f ∧ FmAt K H y g
theorem FmAt.same {K : PySem.W.Frag} {H H' : Hp} (e : Same H H') : ∀ {f : Fm} {v : V}, FmAt K H v f → FmAt K H' v f
  | .c0 _, _, ⟨a, h1, h2⟩ => ⟨a, h1, sqt_same e h2⟩
  | .sg _, _, ⟨a, h1, h2⟩ => ⟨a, h1, sqt_same e h2⟩
  | .un _ _, _, ⟨a, x, h1, h2, h3⟩ => ⟨a, x, h1, sqt_same e h2, h3.same e⟩
  | .bin _ _ _, _, ⟨a, x, y, h1, h2, h3, h4⟩ => ⟨a, x, y, h1, sqt_same e h2, h3.same e, h4.same e⟩
theorem FmAt.kp {K : PySem.W.Frag} {H H' : Hp} {d : Addr} {ys : List V} (hd : H d = some (.lst ys)) (e : Kp d H H') : ∀ {f : Fm} {v : V}, FmAt K H v f → FmAt K H' v f
  | .c0 _, _, ⟨a, h1, h2⟩ => ⟨a, h1, sqt_kp hd e h2⟩
  | .sg _, _, ⟨a, h1, h2⟩ => ⟨a, h1, sqt_kp hd e h2⟩
  | .un _ _, _, ⟨a, x, h1, h2, h3⟩ => ⟨a, x, h1, sqt_kp hd e h2, h3.kp hd e⟩
  | .bin _ _ _, _, ⟨a, x, y, h1, h2, h3, h4⟩ => ⟨a, x, y, h1, sqt_kp hd e h2, h3.kp hd e, h4.kp hd e⟩
/-- its sign -/
theorem FmAt.tup {K : PySem.W.Frag} {H : Hp} : ∀ {f : Fm} {v : V}, FmAt K H v f → ∃ a xs, v = .ref a ∧ SqT K H a (.str (kd f) :: xs)
  | .c0 _, _, ⟨a, h1, h2⟩ => ⟨a, _, h1, h2⟩
  | .sg _, _, ⟨a, h1, h2⟩ => ⟨a, _, h1, h2⟩
  | .un _ _, _, ⟨a, x, h1, h2, h3⟩ => ⟨a, _, h1, h2⟩
  | .bin _ _ _, _, ⟨a, x, y, h1, h2, h3, h4⟩ => ⟨a, _, h1, h2⟩
def FmsAt (K : PySem.W.Frag) (H : Hp) : List V → List Fm → Prop
  | [], [] => True
  | v :: vs, f :: fs => FmAt K H v f ∧ FmsAt K H vs fs
  | _, _ => False
theorem FmsAt.same {K : PySem.W.Frag} {H H' : Hp} (e : Same H H') : ∀ {vs : List V} {fs : List Fm}, FmsAt K H vs fs → FmsAt K H' vs fs
  | [], [], _ => trivial
  | _ :: _, _ :: _, h => ⟨h.1.same e, h.2.same e⟩
theorem FmsAt.kp {K : PySem.W.Frag} {H H' : Hp} {d : Addr} {ys : List V} (hd : H d = some (.lst ys)) (e : Kp d H H') : ∀ {vs : List V} {fs : List Fm}, FmsAt K H vs fs → FmsAt K H' vs fs
  | [], [], _ => trivial
  | _ :: _, _ :: _, h => ⟨h.1.kp hd e, h.2.kp hd e⟩
theorem FmsAt.len {K : PySem.W.Frag} {H : Hp} : ∀ {vs : List V} {fs : List Fm}, FmsAt K H vs fs → vs.length = fs.length
  | [], [], _ => rfl
  | _ :: _, _ :: _, h => congrArg (· + 1) h.2.len
theorem FmsAt.app {K : PySem.W.Frag} {H : Hp} : ∀ {vs us : List V} {fs gs : List Fm}, FmsAt K H vs fs → FmsAt K H us gs → FmsAt K H (vs ++ us) (fs ++ gs)
  | [], _, [], _, _, h => h
  | _ :: _, _, _ :: _, _, h, h' => ⟨h.1, h.2.app h'⟩
theorem FmsAt.rev {K : PySem.W.Frag} {H : Hp} : ∀ {vs : List V} {fs : List Fm}, FmsAt K H vs fs → FmsAt K H vs.reverse fs.reverse
  | [], [], _ => trivial
  | v :: vs, f :: fs, h => by
    rw [List.reverse_cons, List.reverse_cons]
    exact h.2.rev.app ⟨h.1, trivial⟩
theorem FmsAt.get {K : PySem.W.Frag} {H : Hp} : ∀ {vs : List V} {fs : List Fm} {i : Nat} {v : V}, FmsAt K H vs fs → vs[i]? = some v → ∃ f, fs[i]? = some f ∧ FmAt K H v f
  | [], [], _, _, _, e => by simp at e
  | v :: vs, f :: fs, 0, _, h, e => ⟨f, rfl, by cases e; exact h.1⟩
  | _ :: vs, _ :: fs, i + 1, _, h, e => by
    rw [List.getElem?_cons_succ] at e ⊢
    exact h.2.get e
/-! ### promises -/
def bi (b : Bool) : Int := if b = true then 1 else 0
/-- a module's tuple of texts -/
structure GloT (K : PySem.W.Frag) (mg : Str → Option Value) (x : Str) (ss : List Str) (a : Addr) : Prop where
  g : mg x = some (.ref a)
  q : ∀ H, SqT K H a (ss.map V.str)
def spOpers (K : PySem.W.Frag) : Sp := fun vs H Q _ => ∃ (v : V) (f : Fm) (nm : List Str), vs = [v] ∧ FmAt K H v f ∧ Wf nm f ∧
  ∀ (H' : Hp) (p : Addr) (xs : List V), Same H H' → H' p = some (.tup xs) → FmsAt K H' xs (kids f) → Q (.ref p) H'
def spSubs (K : PySem.W.Frag) : Sp := fun vs H Q _ => ∃ (v : V) (f : Fm) (nm : List Str), vs = [v] ∧ FmAt K H v f ∧ Wf nm f ∧ sz f ≤ 1000 ∧
  ∀ (H' : Hp) (p : Addr) (xs : List V), Same H H' → H' p = some (.lst xs) → FmsAt K H' xs (pre f) → Q (.ref p) H'
def PtsAt (H : Hp) : List Addr → List Pt → Prop
  | [], [] => True
  | a :: as, p :: ps => H a = some (.tup [.str p.1, .int p.2.1, .int p.2.2]) ∧ PtsAt H as ps
  | _, _ => False
def spParts (K : PySem.W.Frag) : Sp := fun vs H Q _ => ∃ (v : V) (n : Addr) (f : Fm) (nm : List Str), vs = [v, .ref n] ∧ FmAt K H v f ∧ SqL K H n (nm.map V.str) ∧ Wf nm f ∧ sz f ≤ 1000 ∧
  ∀ (H' : Hp) (p : Addr) (as : List Addr) (P : List Pt) (Fs : List Fm), Same H H' → H' p = some (.lst (as.map V.ref)) → PtsAt H' as P → Good nm P Fs → Fs.getLast? = some f → P.length ≤ sz f → Q (.ref p) H'
def spTof : Sp := fun vs H Q _ => ∃ (k : Str) (a b c : Bool), vs = [.str k, .int (bi a), .int (bi b), .int (bi c), .int 1] ∧ ∀ H', Same H H' → Q (.int (bi (tofB k a b c))) H'
def spPl : Sp := fun vs H Q _ => ∃ (k : Str) (a b : Bool), vs = [.str k, .int (bi a), .int (bi b), .int 1] ∧ ∀ H', Same H H' → Q (.int (bi (plB k a b))) H'
def Arr (H : Hp) (a : Addr) (N : Nat) (s : Nat → Bool) : Prop := H a = some (.lst ((List.range N).map fun t => V.int (bi (s t))))
def spPast : Sp := fun vs H Q _ => ∃ (k : Str) (l r : Addr) (N : Nat) (a b : Nat → Bool), vs = [.str k, .ref l, .ref r] ∧ k ∈ past ∧ Arr H l N a ∧ Arr H r N b ∧ N ≤ 1000000 ∧
  ∀ (H' : Hp) (p : Addr), Same H H' → Arr H' p N (sq k a b) → Q (.ref p) H'
def spFut : Sp := fun vs H Q _ => ∃ (k : Str) (l r : Addr) (m L : Nat) (a b : Nat → Bool), vs = [.str k, .ref l, .ref r, .int m] ∧ ¬ k ∈ past ∧ k ∈ future ∧ 0 < L ∧ Pd a m L ∧ Pd b m L ∧ Arr H l (m + L) a ∧ Arr H r (m + L) b ∧ m + L ≤ 1000000 ∧
  ∀ (H' : Hp) (p : Addr), Same H H' → Arr H' p (m + L) (sq k a b) → Q (.ref p) H'
def ArrsAt (H : Hp) (N : Nat) : List Addr → List (Nat → Bool) → Prop
  | [], [] => True
  | a :: as, s :: ss => Arr H a N s ∧ ArrsAt H N as ss
  | _, _ => False
def spPv (K : PySem.W.Frag) : Sp := fun vs H Q _ => ∃ (p q : Addr) (h m L : Nat) (as : List Addr) (P : List Pt) (Fs : List Fm) (nm : List Str) (x : Nat → Int), vs = [.ref p, .ref q, .int m] ∧ H p = some (.lst (as.map V.ref)) ∧ PtsAt H as P ∧ P.length ≤ 1000 ∧
  TupI H q ((List.range (m + L)).map x) ∧ 0 < L ∧ m + L ≤ 1000000 ∧ h + pc P * L ≤ m ∧ (∀ t, h ≤ t → x (t + L) = x t) ∧ (∀ t, 0 ≤ x t) ∧ Good nm P Fs ∧
  ∀ (H' : Hp) (f : Addr) (fs : List Addr), Same H H' → H' f = some (.lst (fs.map V.ref)) → ArrsAt H' (m + L) fs (Fs.map (sem nm x)) → Q (.ref f) H'
def spCheckN : Sp := fun vs H Q _ => ∃ (p : Addr) (h l : List Int) (n : Int), vs = [.ref p, .int n] ∧ Las H p h l ∧ l ≠ [] ∧ h.length ≤ 1000 ∧ l.length ≤ 1000 ∧ (∀ x, x ∈ h ∨ x ∈ l → x < n) ∧ ∀ H', Same H H' → Q .non H'
def spTw (K : PySem.W.Frag) : Sp := fun vs H Q _ => ∃ (v : V) (n p : Addr) (f : Fm) (nm : List Str) (h l : List Int), vs = [v, .ref n, .ref p] ∧ FmAt K H v f ∧ SqL K H n (nm.map V.str) ∧ nm.length ≤ 30 ∧ Wf nm f ∧ sz f ≤ 500 ∧ Las H p h l ∧ l ≠ [] ∧ h.length ≤ 100 ∧ l.length ≤ 100 ∧
  (∀ z, z ∈ h ∨ z ∈ l → 0 ≤ z ∧ z < 2 ^ nm.length) ∧
  ∀ (H' : Hp) (q : Addr) (h' l' : List Int), Same H H' → Las H' q h' l' → Nrm h' l' → (∀ t, wat h' l' t = bi (sem nm (wat h l) f t)) → Q (.ref q) H'
end Bx
local macro_rules | `(tactic| walk_at "bx") => `(tactic| repeat (first
  | refine ⟨_, rfl, ?_⟩
  | refine ⟨_, _, rfl, rfl, ?_⟩
  | refine ⟨rfl, ?_⟩
  | refine Or.inl ⟨_, rfl, ?_⟩
  | refine ⟨Or.inr ⟨by decide, by decide⟩, ?_⟩
  | refine ⟨Or.inl ⟨by decide, by decide⟩, ?_⟩
  | refine ⟨(show (0 : Int) < _ by decide), ?_⟩
  | refine ⟨⟨by decide, by decide⟩, ?_⟩
  | refine ⟨_, _, rfl, Or.inl (L2.SqL.of (by assumption)), ?_⟩
  | refine ⟨_, _, rfl, Or.inr (L2.SqT.of (by assumption)), ?_⟩
  | refine ⟨Or.inl ⟨rfl, _, L2.SqL.of (by assumption)⟩, ?_⟩
  | refine ⟨_, _, _, rfl, rfl, (by assumption), ?_⟩
  | refine ⟨_, _, rfl, rfl, (by assumption), ?_⟩
  | refine ⟨_, _, _, _, rfl, rfl, L2.SqT.of (by assumption), (by assumption), ?_⟩
  | refine ⟨_, _, _, _, rfl, rfl, L2.SqL.of (by assumption), (by assumption), ?_⟩
  | refine ⟨_, _, rfl, Bx.SeqI.sq (by assumption), ?_⟩
  | refine And.intro (by assumption) ?_))
local macro_rules | `(tactic| walk_at "nl") => `(tactic| ((try unfold L2.tNil); (try unfold L2.tNoPart)))

namespace My
open PySem PySem.Spec PyProof.Rows L2 Bx Tx Tr
def topS (i : Nat) : Stmt := PySem.Challenge.pw_reactivesynth_k12_holds.main.body.getD i (.Pass ⟨0, 0, 0, 0⟩)
abbrev s_operands : Stmt := topS 7
abbrev N_operands : List Str := ["formula"]
theorem sc_operands : FnScope N_operands ["formula"] (defScope s_operands) := ⟨rfl, rfl, rfl, by decide +kernel, rfl, by decide +kernel, by decide +kernel⟩
abbrev s_subformulas : Stmt := topS 8
abbrev N_subformulas : List Str := ["formula", "found", "waiting", "part"]
theorem sc_subformulas : FnScope N_subformulas ["formula"] (defScope s_subformulas) := ⟨rfl, rfl, rfl, by decide +kernel, rfl, by decide +kernel, by decide +kernel⟩
abbrev s_number_parts : Stmt := topS 12
abbrev N_number_parts : List Str := ["formula", "names", "parts", "numbers", "waiting", "formula_part", "kind", "count", "part", "first", "second"]
theorem sc_number_parts : FnScope N_number_parts ["formula", "names"] (defScope s_number_parts) := ⟨rfl, rfl, rfl, by decide +kernel, rfl, by decide +kernel, by decide +kernel⟩
abbrev s_truth_of : Stmt := topS 13
abbrev N_truth_of : List Str := ["kind", "first", "second", "carried", "full"]
theorem sc_truth_of : FnScope N_truth_of ["kind", "first", "second", "carried", "full"] (defScope s_truth_of) := ⟨rfl, rfl, rfl, by decide +kernel, rfl, by decide +kernel, by decide +kernel⟩
abbrev s_plain_truth : Stmt := topS 14
abbrev N_plain_truth : List Str := ["kind", "first", "second", "full"]
theorem sc_plain_truth : FnScope N_plain_truth ["kind", "first", "second", "full"] (defScope s_plain_truth) := ⟨rfl, rfl, rfl, by decide +kernel, rfl, by decide +kernel, by decide +kernel⟩
abbrev s_is_quantified : Stmt := topS 17
abbrev N_is_quantified : List Str := ["prop"]
theorem sc_is_quantified : FnScope N_is_quantified ["prop"] (defScope s_is_quantified) := ⟨rfl, rfl, rfl, by decide +kernel, rfl, by decide +kernel, by decide +kernel⟩
abbrev s_shortest_lasso : Stmt := topS 27
abbrev N_shortest_lasso : List Str := ["head", "loop", "size", "kept", "cut"]
theorem sc_shortest_lasso : FnScope N_shortest_lasso ["head", "loop"] (defScope s_shortest_lasso) := ⟨rfl, rfl, rfl, by decide +kernel, rfl, by decide +kernel, by decide +kernel⟩
abbrev s_shortest_period : Stmt := topS 28
abbrev N_shortest_period : List Str := ["loop", "borders", "border", "at", "size"]
theorem sc_shortest_period : FnScope N_shortest_period ["loop"] (defScope s_shortest_period) := ⟨rfl, rfl, rfl, by decide +kernel, rfl, by decide +kernel, by decide +kernel⟩
abbrev s_letter_at : Stmt := topS 29
abbrev N_letter_at : List Str := ["lasso", "turn", "head", "loop"]
theorem sc_letter_at : FnScope N_letter_at ["lasso", "turn"] (defScope s_letter_at) := ⟨rfl, rfl, rfl, by decide +kernel, rfl, by decide +kernel, by decide +kernel⟩
abbrev s_check_letters : Stmt := topS 30
abbrev N_check_letters : List Str := ["lasso", "letters", "head", "loop"]
theorem sc_check_letters : FnScope N_check_letters ["lasso", "letters"] (defScope s_check_letters) := ⟨rfl, rfl, rfl, by decide +kernel, rfl, by decide +kernel, by decide +kernel⟩
abbrev s_holds : Stmt := topS 37
abbrev N_holds : List Str := ["prop", "names", "lasso", "turn", "word", "quantifier", "hidden", "formula"]
theorem sc_holds : FnScope N_holds ["prop", "names", "lasso", "turn"] (defScope s_holds) := ⟨rfl, rfl, rfl, by decide +kernel, rfl, by decide +kernel, by decide +kernel⟩
abbrev s_truth_word : Stmt := topS 38
abbrev N_truth_word : List Str := ["formula", "names", "lasso", "head", "loop", "parts", "rounds", "letters", "back", "values", "part"]
theorem sc_truth_word : FnScope N_truth_word ["formula", "names", "lasso"] (defScope s_truth_word) := ⟨rfl, rfl, rfl, by decide +kernel, rfl, by decide +kernel, by decide +kernel⟩
abbrev s_part_values : Stmt := topS 39
abbrev N_part_values : List Str := ["parts", "letters", "back", "nothing", "found", "kind", "first", "second", "left", "right", "letter", "one", "two"]
theorem sc_part_values : FnScope N_part_values ["parts", "letters", "back"] (defScope s_part_values) := ⟨rfl, rfl, rfl, by decide +kernel, rfl, by decide +kernel, by decide +kernel⟩
abbrev s_past_values : Stmt := topS 40
abbrev N_past_values : List Str := ["kind", "left", "right", "values", "carried", "one", "two", "value"]
theorem sc_past_values : FnScope N_past_values ["kind", "left", "right"] (defScope s_past_values) := ⟨rfl, rfl, rfl, by decide +kernel, rfl, by decide +kernel, by decide +kernel⟩
abbrev s_future_values : Stmt := topS 41
abbrev N_future_values : List Str := ["kind", "left", "right", "back", "values", "carried", "turns", "turn"]
theorem sc_future_values : FnScope N_future_values ["kind", "left", "right", "back"] (defScope s_future_values) := ⟨rfl, rfl, rfl, by decide +kernel, rfl, by decide +kernel, by decide +kernel⟩
abbrev s_law_draws : Stmt := topS 43
abbrev N_law_draws : List Str := ["script", "count", "cells", "found", "mixed", "k", "j", "cell", "again"]
theorem sc_law_draws : FnScope N_law_draws ["script", "count"] (defScope s_law_draws) := ⟨rfl, rfl, rfl, by decide +kernel, rfl, by decide +kernel, by decide +kernel⟩
abbrev s_law_take : Stmt := topS 44
abbrev N_law_take : List Str := ["draws", "limit"]
theorem sc_law_take : FnScope N_law_take ["draws", "limit"] (defScope s_law_take) := ⟨rfl, rfl, rfl, by decide +kernel, rfl, by decide +kernel, by decide +kernel⟩
abbrev s_law_at : Stmt := topS 45
abbrev N_law_at : List Str := ["lasso", "turn"]
theorem sc_law_at : FnScope N_law_at ["lasso", "turn"] (defScope s_law_at) := ⟨rfl, rfl, rfl, by decide +kernel, rfl, by decide +kernel, by decide +kernel⟩
abbrev s_law_lasso : Stmt := topS 46
abbrev N_law_lasso : List Str := ["draws", "letters", "longest", "head", "loop", "k"]
theorem sc_law_lasso : FnScope N_law_lasso ["draws", "letters", "longest"] (defScope s_law_lasso) := ⟨rfl, rfl, rfl, by decide +kernel, rfl, by decide +kernel, by decide +kernel⟩
abbrev s_law_name : Stmt := topS 47
abbrev N_law_name : List Str := ["draws", "k", "chars", "name", "j"]
theorem sc_law_name : FnScope N_law_name ["draws", "k"] (defScope s_law_name) := ⟨rfl, rfl, rfl, by decide +kernel, rfl, by decide +kernel, by decide +kernel⟩
abbrev s_law_names : Stmt := topS 48
abbrev N_law_names : List Str := ["draws", "count", "k"]
theorem sc_law_names : FnScope N_law_names ["draws", "count"] (defScope s_law_names) := ⟨rfl, rfl, rfl, by decide +kernel, rfl, by decide +kernel, by decide +kernel⟩
abbrev s_law_leaf : Stmt := topS 49
abbrev N_law_leaf : List Str := ["draws", "names", "choice"]
theorem sc_law_leaf : FnScope N_law_leaf ["draws", "names"] (defScope s_law_leaf) := ⟨rfl, rfl, rfl, by decide +kernel, rfl, by decide +kernel, by decide +kernel⟩
abbrev s_law_formula : Stmt := topS 50
abbrev N_law_formula : List Str := ["draws", "names", "budget", "deep", "choice", "unary", "operator", "part", "left"]
theorem sc_law_formula : FnScope N_law_formula ["draws", "names", "budget", "deep"] (defScope s_law_formula) := ⟨rfl, rfl, rfl, by decide +kernel, rfl, by decide +kernel, by decide +kernel⟩
abbrev s_law_logic : Stmt := topS 51
abbrev N_law_logic : List Str := ["operator", "left", "right"]
theorem sc_law_logic : FnScope N_law_logic ["operator", "left", "right"] (defScope s_law_logic) := ⟨rfl, rfl, rfl, by decide +kernel, rfl, by decide +kernel, by decide +kernel⟩
abbrev s_law_fold : Stmt := topS 52
abbrev N_law_fold : List Str := ["operator", "left", "right", "after"]
theorem sc_law_fold : FnScope N_law_fold ["operator", "left", "right", "after"] (defScope s_law_fold) := ⟨rfl, rfl, rfl, by decide +kernel, rfl, by decide +kernel, by decide +kernel⟩
abbrev s_law_shifted : Stmt := topS 53
abbrev N_law_shifted : List Str := ["operator", "left", "back", "size"]
theorem sc_law_shifted : FnScope N_law_shifted ["operator", "left", "back"] (defScope s_law_shifted) := ⟨rfl, rfl, rfl, by decide +kernel, rfl, by decide +kernel, by decide +kernel⟩
abbrev s_law_fixed : Stmt := topS 54
abbrev N_law_fixed : List Str := ["operator", "left", "right", "back", "size", "found", "after", "k", "turn"]
theorem sc_law_fixed : FnScope N_law_fixed ["operator", "left", "right", "back"] (defScope s_law_fixed) := ⟨rfl, rfl, rfl, by decide +kernel, rfl, by decide +kernel, by decide +kernel⟩
abbrev s_law_table : Stmt := topS 55
abbrev N_law_table : List Str := ["formula", "names", "letters", "back", "operator", "k", "left", "right", "letter"]
theorem sc_law_table : FnScope N_law_table ["formula", "names", "letters", "back"] (defScope s_law_table) := ⟨rfl, rfl, rfl, by decide +kernel, rfl, by decide +kernel, by decide +kernel⟩
abbrev s_law_past_count : Stmt := topS 56
abbrev N_law_past_count : List Str := ["formula", "total", "part"]
theorem sc_law_past_count : FnScope N_law_past_count ["formula"] (defScope s_law_past_count) := ⟨rfl, rfl, rfl, by decide +kernel, rfl, by decide +kernel, by decide +kernel⟩
abbrev s_law_truth : Stmt := topS 57
abbrev N_law_truth : List Str := ["formula", "names", "lasso", "copies", "letters", "back", "found", "value"]
theorem sc_law_truth : FnScope N_law_truth ["formula", "names", "lasso"] (defScope s_law_truth) := ⟨rfl, rfl, rfl, by decide +kernel, rfl, by decide +kernel, by decide +kernel⟩
abbrev s_law_outcome : Stmt := topS 58
abbrev N_law_outcome : List Str := ["formula", "names", "lasso", "turn"]
theorem sc_law_outcome : FnScope N_law_outcome ["formula", "names", "lasso", "turn"] (defScope s_law_outcome) := ⟨rfl, rfl, rfl, by decide +kernel, rfl, by decide +kernel, by decide +kernel⟩
abbrev s_law : Stmt := topS 59
abbrev N_law : List Str := ["script", "draws", "names", "formula", "letters", "lasso", "turn", "loop", "expected", "found", "first"]
theorem sc_law : FnScope N_law ["script"] (defScope s_law) := ⟨rfl, rfl, rfl, by decide +kernel, rfl, by decide +kernel, by decide +kernel⟩
structure Has (K : PySem.W.Frag) (mg : Str → Option Value) (x : Str) (st : Stmt) (ps : List Str) : Prop where
  ex : ∃ (f : Addr) (fd : FuncData), L2.Fun K x x st f fd ∧ mg x = some (.ref f) ∧ Binds K fd ps []
structure HasD (K : PySem.W.Frag) (mg : Str → Option Value) (x : Str) (st : Stmt) (kws : List (Str × V)) : Prop where
  ex : ∃ (f : Addr) (fd : FuncData), FunD K x x (defArgs st) (defBody st) (defScope st) [] kws f fd ∧ mg x = some (.ref f)
structure Txt (K : PySem.W.Frag) (mg : Str → Option Value) : Prop where
  h_operands : Has K mg "operands" s_operands ["formula"]
  h_subformulas : Has K mg "subformulas" s_subformulas ["formula"]
  h_number_parts : Has K mg "number_parts" s_number_parts ["formula", "names"]
  h_truth_of : Has K mg "truth_of" s_truth_of ["kind", "first", "second", "carried", "full"]
  h_plain_truth : Has K mg "plain_truth" s_plain_truth ["kind", "first", "second", "full"]
  h_is_quantified : Has K mg "is_quantified" s_is_quantified ["prop"]
  h_shortest_lasso : Has K mg "shortest_lasso" s_shortest_lasso ["head", "loop"]
  h_shortest_period : Has K mg "shortest_period" s_shortest_period ["loop"]
  h_letter_at : Has K mg "letter_at" s_letter_at ["lasso", "turn"]
  h_check_letters : Has K mg "check_letters" s_check_letters ["lasso", "letters"]
  h_holds : HasD K mg "holds" s_holds [("turn", .int 0)]
  h_truth_word : Has K mg "truth_word" s_truth_word ["formula", "names", "lasso"]
  h_part_values : Has K mg "part_values" s_part_values ["parts", "letters", "back"]
  h_past_values : Has K mg "past_values" s_past_values ["kind", "left", "right"]
  h_future_values : Has K mg "future_values" s_future_values ["kind", "left", "right", "back"]
  h_law_draws : Has K mg "_law_draws" s_law_draws ["script", "count"]
  h_law_take : Has K mg "_law_take" s_law_take ["draws", "limit"]
  h_law_at : Has K mg "_law_at" s_law_at ["lasso", "turn"]
  h_law_lasso : Has K mg "_law_lasso" s_law_lasso ["draws", "letters", "longest"]
  h_law_name : Has K mg "_law_name" s_law_name ["draws", "k"]
  h_law_names : Has K mg "_law_names" s_law_names ["draws", "count"]
  h_law_leaf : Has K mg "_law_leaf" s_law_leaf ["draws", "names"]
  h_law_formula : Has K mg "_law_formula" s_law_formula ["draws", "names", "budget", "deep"]
  h_law_logic : Has K mg "_law_logic" s_law_logic ["operator", "left", "right"]
  h_law_fold : Has K mg "_law_fold" s_law_fold ["operator", "left", "right", "after"]
  h_law_shifted : Has K mg "_law_shifted" s_law_shifted ["operator", "left", "back"]
  h_law_fixed : Has K mg "_law_fixed" s_law_fixed ["operator", "left", "right", "back"]
  h_law_table : Has K mg "_law_table" s_law_table ["formula", "names", "letters", "back"]
  h_law_past_count : Has K mg "_law_past_count" s_law_past_count ["formula"]
  h_law_truth : Has K mg "_law_truth" s_law_truth ["formula", "names", "lasso"]
  h_law_outcome : Has K mg "_law_outcome" s_law_outcome ["formula", "names", "lasso", "turn"]
  z_bool : mg "bool" = none
  z_int : mg "int" = none
  z_isinstance : mg "isinstance" = none
  z_len : mg "len" = none
  z_list : mg "list" = none
  z_max : mg "max" = none
  z_range : mg "range" = none
  z_tuple : mg "tuple" = none
  z_zip : mg "zip" = none
  er : ∃ (cT cL aF aP aS aB aQ : Addr), ErrC K mg "InvalidTurn" cT ∧ ErrC K mg "InvalidLetter" cL ∧ PySem.W.subIn K (.ref cL) (.ref cT) = some false ∧ GloT K mg "FUTURE" Tr.future aF ∧ GloT K mg "PAST" Tr.past aP ∧ GloT K mg "STEPS" Tr.steps aS ∧ GloT K mg "TRUE_BEYOND" Tr.beyond aB ∧ GloT K mg "QUANTIFIERS" ["exists", "forall"] aQ

-- BODY
def spLaw (K : PySem.W.Frag) : Sp := fun vs H Q _ => ∃ (a : Addr) (ns : List Int), vs = [.ref a] ∧ SqL K H a (ns.map V.int) ∧ ns.length ≤ 63 ∧ ∀ H', Q (.bl true) H'
section
variable {P : Program} {w : World} {K : PySem.W.Frag} {mg : Str → Option Value} {base : Heap}
theorem glo (T : Txt K mg) : ∃ aF aP aS aB : Addr, GloT K mg "FUTURE" Tr.future aF ∧ GloT K mg "PAST" Tr.past aP ∧ GloT K mg "STEPS" Tr.steps aS ∧ GloT K mg "TRUE_BEYOND" Tr.beyond aB := by
  obtain ⟨cT, cL, aF, aP, aS, aB, aQ, _, _, _, g1, g2, g3, g4, _⟩ := T.er
  exact ⟨aF, aP, aS, aB, g1, g2, g3, g4⟩
theorem gloE (T : Txt K mg) : ∃ cT cL aQ : Addr, ErrC K mg "InvalidTurn" cT ∧ ErrC K mg "InvalidLetter" cL ∧ PySem.W.subIn K (.ref cL) (.ref cT) = some false ∧ GloT K mg "QUANTIFIERS" ["exists", "forall"] aQ := by
  obtain ⟨cT, cL, aF, aP, aS, aB, aQ, e1, e2, e3, _, _, _, _, g⟩ := T.er
  exact ⟨cT, cL, aQ, e1, e2, e3, g⟩
theorem cal_take (T : Txt K mg) : C8.Cal P w K mg base 1 "_law_take" spTake [] := by
  obtain ⟨f, fd, F, hm, hb⟩ := T.h_law_take
  refine ⟨f, fd, _, [], F.ok sc_law_take (fun vs H Q E h => ?_) (fun cdv A outer s H vs Q E hr h => ?_), hm, F.kp, hb, .nil⟩
  · obtain ⟨d, n, rfl, _⟩ := h
    rfl
  · obtain ⟨d, n, rfl, ⟨ds, hd⟩, hn, q⟩ := h
    refine ⟨_, (pss_cons
      (ps_if (pt_cmpR op_eq (pe_callB (call_lenK (K := K) rfl) (by rfl) T.z_len PySem.boot_len (pa_cons (pv 0) pa_nil)) pe_int (nomark _)) (pss_one
      (ps_ret pe_int)) pss_nil)
      (pss_one
      (ps_ret (pe_op op_mod (pe_callTy call_int1 (by rfl) T.z_int (by decide +kernel) (pa_cons (pe_bm0 PySem.F.plainAttrs_list PySem.F.slot_list_pop PySem.F.type_list_pop mt_pop (pv 0)) pa_nil)) (pv 1))))), ?_⟩
    walk_at "bx"
    refine ite2 (fun e => ?_) (fun e => ?_)
    · have q0 := q 0 ds (Int.le_refl 0) hn
      rw [upd_self hd] at q0
      exact q0
    · have hne : ds ≠ [] := fun z => e (by rw [z]; rfl)
      refine ⟨_, rfl, .inl ⟨rfl, _, SqL.of hd⟩, d, _, .int (ds.getLast hne), rfl, rfl, hd, ?_, ?_⟩
      · rw [List.length_map, List.getElem?_map, ← List.getLast?_eq_getElem?, List.getLast?_eq_getLast hne]
        rfl
      · walk_at "bx"
        rw [← List.map_dropLast]
        exact q _ _ (Int.emod_nonneg _ (by omega)) (Int.emod_lt_of_pos _ hn)
theorem cal_draws (T : Txt K mg) : C8.Cal P w K mg base 1 "_law_draws" (spDraws K) [] := by
  obtain ⟨f, fd, F, hm, hb⟩ := T.h_law_draws
  refine ⟨f, fd, _, [], F.ok sc_law_draws (fun vs H Q E h => ?_) (fun cdv A outer s H vs Q E hr h => ?_), hm, F.kp, hb, .nil⟩
  · obtain ⟨a, ns, c, rfl, _⟩ := h
    rfl
  · obtain ⟨a, ns, n, rfl, hS, hn, q⟩ := h
    refine ⟨_, (pss_cons
      (ps_set (i := 2) sc_law_draws.nd rfl (Or.inl rfl) (pe_callTy (call_list_ofK (K := K) rfl) (by rfl) T.z_list (by decide +kernel) (pa_cons (pv 0) pa_nil)))
      (C8.pss_cut
      (ps_if (pt_cmpR op_eq (pe_callB (call_lenK (K := K) rfl) (by rfl) T.z_len PySem.boot_len (pa_cons (pv 2) pa_nil)) pe_int (nomark _)) (pss_one
      (ps_set (i := 2) sc_law_draws.nd rfl (Or.inl rfl) (pe_lst (pa_cons pe_int pa_nil)))) pss_nil)
      (pss_cons
      (ps_set (i := 3) sc_law_draws.nd rfl (Or.inl rfl) (pe_lst pa_nil))
      (pss_cons
      (ps_set (i := 4) sc_law_draws.nd rfl (Or.inl rfl) pe_int)
      (pss_cons
      (ps_for PassesOwn.never rfl (pi_range1 (by rfl) T.z_range (pa_cons (pv 1) pa_nil)) (pg_name (i := 5) sc_law_draws.nd rfl (.inl rfl)) (pss_cons
      (ps_set (i := 6) sc_law_draws.nd rfl (Or.inl rfl) (pe_op op_mod (pv 5) (pe_callB (call_lenK (K := K) rfl) (by rfl) T.z_len PySem.boot_len (pa_cons (pv 2) pa_nil))))
      (pss_cons
      (ps_set (i := 7) sc_law_draws.nd rfl (Or.inl rfl) (pe_ix (ix_listK (K := K) rfl) (pv 2) (pv 6) (fun _ _ => rfl)))
      (pss_cons
      (ps_set (i := 4) sc_law_draws.nd rfl (Or.inl rfl) (pe_op op_mod (pe_callTy call_int1 (by rfl) T.z_int (by decide +kernel) (pa_cons (pe_op op_add (pe_op op_add (pe_op op_add (pe_op op_mul (pv 4) pe_int) (pe_op op_mul (pe_op op_mod (pe_callTy call_int1 (by rfl) T.z_int (by decide +kernel) (pa_cons (pv 7) pa_nil)) pe_int) pe_int)) (pe_op op_mul (pv 5) pe_int)) pe_int) pa_nil)) pe_int))
      (pss_cons
      (ps_set (i := 8) sc_law_draws.nd rfl (Or.inl rfl) (pe_op op_mod (pe_callTy call_int1 (by rfl) T.z_int (by decide +kernel) (pa_cons (pe_op op_add (pe_op op_add (pe_op op_mul (pv 4) (pv 4)) (pe_op op_mul pe_int (pv 4))) (pv 5)) pa_nil)) pe_int))
      (pss_one
      (ps_if (pt_cmpR op_ge (pv 7) (pe_op op_pow pe_int pe_int) (nomark _)) (pss_cons
      (ps_expr (pe_bm PySem.F.plainAttrs_list PySem.F.slot_list_append PySem.F.type_list_append mt_append (pv 3) (pa_cons (pe_op op_mod (pe_callTy call_int1 (by rfl) T.z_int (by decide +kernel) (pa_cons (pv 7) pa_nil)) pe_int) pa_nil)))
      (pss_one
      (ps_asg (pe_op op_fdiv (pv 7) pe_int) (pg_sub (pv 2) (pv 6) set_list)))) (pss_one
      (ps_expr (pe_bm PySem.F.plainAttrs_list PySem.F.slot_list_append PySem.F.type_list_append mt_append (pv 3) (pa_cons (pe_op op_mod (pe_callTy call_int1 (by rfl) T.z_int (by decide +kernel) (pa_cons (pv 8) pa_nil)) pe_int) pa_nil)))))))))))
      (pss_cons
      (ps_expr (pe_bm0 PySem.F.plainAttrs_list PySem.F.slot_list_reverse PySem.F.type_list_reverse mt_reverse (pv 3)))
      (pss_one
      (ps_ret (pv 3))))))))), ?_⟩
    -- cells = list(script)
    refine ⟨_, rfl, a, _, rfl, .inl hS, fun l hl => ?_⟩
    -- if len(cells) == 0: cells = [7]
    refine ⟨fun σ H2 => ∃ (c : Addr) (cs : List Int), σ = [some (.ref a), some (.int n), some (.ref c), none, none, none, none, none, none] ∧ H c = none ∧ Same H H2 ∧ H2 c = some (.lst (cs.map V.int)) ∧ cs ≠ [], ?_, ?_⟩
    · have h0 : (upd H l (.lst (ns.map V.int))) l = some (.lst (ns.map V.int)) := upd_same
      walk_at "bx"
      refine ite2 (fun e => ?_) (fun e => ?_)
      · refine ⟨by show 1 ≤ sizeLine; decide, fun l2 h2 => ?_⟩
        have s1 : Same H (upd H l (.lst (ns.map V.int))) := same_new hl
        exact ⟨l2, [7], rfl, s1.free h2, s1.trans (same_new h2), upd_same, by decide⟩
      · exact ⟨l, ns, rfl, hl, same_new hl, upd_same, fun z => e (by rw [z]; rfl)⟩
    · rintro σ H2 ⟨c, cs, rfl, hc0, s2, hc, hcs⟩
      -- found = [], mixed = 12345
      refine ⟨Nat.zero_le _, fun o ho => ?_⟩
      have hco : c ≠ o := ne_of_none hc ho
      have ho0 : H o = none := s2.free ho
      -- for k in range(count)
      refine ⟨_, rfl, _, rfl, by omega, by omega, for_range (lo := 0) (n := ((n : Int)).toNat) (fun i σ H3 => ∃ (m : Int) (cs fs : List Int) (v5 v6 v7 v8 : Option V), σ = [some (.ref a), some (.int n), some (.ref c), some (.ref o), some (.int m), v5, v6, v7, v8] ∧ 0 ≤ m ∧ m < 2147483647 ∧ Same H H3 ∧ H3 c = some (.lst (cs.map V.int)) ∧ cs ≠ [] ∧ H3 o = some (.lst (fs.map V.int)) ∧ fs.length ≤ i)
        ⟨12345, cs, [], none, none, none, none, rfl, by decide, by decide, s2.trans (same_new ho), by rw [upd_ne hco]; exact hc, hcs, upd_same, Nat.le_refl _⟩ ?_ ?_⟩
      · rintro i σ H3 hi ⟨m, cs, fs, v5, v6, v7, v8, rfl, m0, m1, s3, hc, hcs, hf, hfl⟩
        have hl : 0 < cs.length := List.length_pos_iff.mpr hcs
        obtain ⟨z, hz⟩ : ∃ z, cs[i % cs.length]? = some z := ⟨_, List.getElem?_eq_getElem (Nat.mod_lt _ hl)⟩
        have ej : ((0 : Int) + (i : Int)) % (((cs.map V.int).length : Nat) : Int) = ((i % cs.length : Nat) : Int) := by
          rw [Int.zero_add, List.length_map]
          rfl
        -- j = k % len(cells)
        walk_at "bx"
        refine ⟨(show (0 : Int) < _ by rw [List.length_map]; omega), ?_⟩
        -- cell = cells[j]
        refine ⟨_, rfl, _, rfl, c, _, _, .int z, rfl, rfl, SqL.of hc, ?_, ?_⟩
        · rw [ej]
          exact atI_nat (by rw [List.getElem?_map, hz]; rfl)
        -- mixed, again
        walk_at "bx"
        have b1 : (0 : Int) ≤ z % 1000003 := Int.emod_nonneg _ (by decide)
        refine ⟨.inl ⟨?_, ?_⟩, ?_⟩
        · have := Int.emod_nonneg (m * 48271 + z % 1000003 * 69621 + (0 + (i : Int)) * 7919 + 11) (show (2147483647 : Int) ≠ 0 by decide)
          show -(2 ^ 64) < (m * 48271 + z % 1000003 * 69621 + (0 + (i : Int)) * 7919 + 11) % 2147483647
          omega
        · have := Int.emod_lt_of_pos (m * 48271 + z % 1000003 * 69621 + (0 + (i : Int)) * 7919 + 11) (show (0 : Int) < 2147483647 by decide)
          show (m * 48271 + z % 1000003 * 69621 + (0 + (i : Int)) * 7919 + 11) % 2147483647 < 2 ^ 64
          omega
        have c0 : 0 ≤ (m * 48271 + z % 1000003 * 69621 + (0 + (i : Int)) * 7919 + 11) % 2147483647 := Int.emod_nonneg _ (by decide)
        have c1 : (m * 48271 + z % 1000003 * 69621 + (0 + (i : Int)) * 7919 + 11) % 2147483647 < 2147483647 := Int.emod_lt_of_pos _ (by decide)
        walk_at "bx"
        refine ite2 (fun e => ?_) (fun e => ?_)
        · walk_at "bx"
          refine ⟨lenI (by omega), ?_⟩
          walk_at "bx"
          refine ⟨c, cs.map V.int, _, i % cs.length, rfl, rfl, by rw [upd_ne hco]; exact hc, by rw [ej]; exact ixN_at (by rw [List.length_map]; exact Nat.mod_lt _ hl), ?_⟩
          refine ⟨_, cs.set (i % cs.length) (z / 1000), fs ++ [z % 1000], _, _, _, _, rfl, c0, c1, fun b o' hb => ?_, by rw [upd_same, set_mapI], by simpa using hcs, by rw [upd_ne hco.symm, upd_same]; simp, by simp; omega⟩
          rw [upd_ne (fun z => by rw [z, hc0] at hb; cases hb), upd_ne (fun z => by rw [z, ho0] at hb; cases hb)]
          exact s3 _ _ hb
        · walk_at "bx"
          refine ⟨lenI (by omega), ?_⟩
          refine ⟨_, cs, fs ++ [_], _, _, _, _, rfl, c0, c1, fun b o' hb => ?_, by rw [upd_ne hco]; exact hc, hcs, by rw [upd_same, List.map_append]; rfl, by simp; omega⟩
          rw [upd_ne (fun z => by rw [z, ho0] at hb; cases hb)]
          exact s3 _ _ hb
      · rintro σ H3 ⟨m, cs, fs, v5, v6, v7, v8, rfl, m0, m1, s3, hc, hcs, hf, hfl⟩
        -- found.reverse()
        walk_at "bx"
        refine q _ o (fun b o' hb => ?_) ho0 ⟨fs.reverse, ?_⟩
        · rw [upd_ne (fun z => by rw [z, ho0] at hb; cases hb)]
          exact s3 _ _ hb
        · rw [upd_same, List.map_reverse]
theorem cal_lasso (T : Txt K mg) : C8.Cal P w K mg base 2 "_law_lasso" spLasso [] := by
  have C_law_take : C8.Cal P w K mg base 1 "_law_take" spTake [] := cal_take T
  obtain ⟨f, fd, F, hm, hb⟩ := T.h_law_lasso
  refine ⟨f, fd, _, [], F.ok sc_law_lasso (fun vs H Q E h => ?_) (fun cdv A outer s H vs Q E hr h => ?_), hm, F.kp, hb, .nil⟩
  · obtain ⟨d, n, m, rfl, _⟩ := h
    rfl
  · obtain ⟨d, n, m, rfl, hd, hn, hm0, hm1, q⟩ := h
    refine ⟨_, (pss_cons
      (ps_setLc (i := 3) (own := [("k", 5)]) (g := gName 5) (tt := tYes) rfl sc_law_lasso.nd rfl rfl (sw_true rfl rfl rfl (by decide +kernel)) (pi_range1 (by rfl) T.z_range (pa_cons (C8.pe_c C_law_take hr (by decide) (by rfl) (pa_cons (pv 0) (pa_cons (pe_op op_add (pv 2) pe_int) pa_nil))) pa_nil)) (blkOk_by (N := N_law_lasso) (sc := defScope s_law_lasso) (by decide +kernel)) (fun _ _ _ _ _ => (pg_name (i := 5) sc_law_lasso.nd rfl (Or.inl rfl))) (fun _ _ _ _ _ => pts_nil) (fun _ _ _ _ _ => (C8.pe_c C_law_take hr (by decide) (by rfl) (pa_cons (pv 0) (pa_cons (pv 1) pa_nil)))))
      (pss_cons
      (ps_setLc (i := 4) (own := [("k", 5)]) (g := gName 5) (tt := tYes) rfl sc_law_lasso.nd rfl rfl (sw_true rfl rfl rfl (by decide +kernel)) (pi_range1 (by rfl) T.z_range (pa_cons (pe_op op_add pe_int (C8.pe_c C_law_take hr (by decide) (by rfl) (pa_cons (pv 0) (pa_cons (pv 2) pa_nil)))) pa_nil)) (blkOk_by (N := N_law_lasso) (sc := defScope s_law_lasso) (by decide +kernel)) (fun _ _ _ _ _ => (pg_name (i := 5) sc_law_lasso.nd rfl (Or.inl rfl))) (fun _ _ _ _ _ => pts_nil) (fun _ _ _ _ _ => (C8.pe_c C_law_take hr (by decide) (by rfl) (pa_cons (pv 0) (pa_cons (pv 1) pa_nil)))))
      (pss_one
      (ps_ret (pe_tup (pa_cons (pe_callTy (call_tuple_ofK (K := K) rfl) (by rfl) T.z_tuple (by decide +kernel) (pa_cons (pv 3) pa_nil)) (pa_cons (pe_callTy (call_tuple_ofK (K := K) rfl) (by rfl) T.z_tuple (by decide +kernel) (pa_cons (pv 4) pa_nil)) pa_nil))))))), ?_⟩
    -- head
    refine ⟨_, rfl, _, rfl, _, _, rfl, rfl, d, _, rfl, hd, by omega, fun r ds r0 r1 => ?_⟩
    refine ⟨_, rfl, by omega, by omega, fun D hD => ?_⟩
    have nDd : D ≠ d := fun z => by rw [z, upd_same] at hD; cases hD
    refine lc_range (lo := 0) (n := r.toNat) (fun i H' => ∃ xs : List Int, Kp d H H' ∧ Drw H' d ∧ H' D = some (.lst (xs.map V.int)) ∧ xs.length = i ∧ ∀ x ∈ xs, 0 ≤ x ∧ x < n)
      ⟨[], Kp.own.trans (Kp.new hD), Drw.own.new hD, upd_same, rfl, by simp⟩ ?_ ?_
    · rintro i H1 hi ⟨xs, k1, d1, e1, el, hx⟩
      refine ⟨rfl, _, rfl, _, rfl, d, _, rfl, d1, hn, fun u us u0 u1 => ?_⟩
      refine ⟨xs.map V.int, by rw [upd_ne nDd]; exact e1, lenI (by omega), xs ++ [u], ?_, ?_, ?_, ?_, ?_⟩
      · intro b o nb hb
        have nbD : b ≠ D := fun z => by
          have h0 : (upd H d (.lst (ds.map V.int))) D = none := hD
          rw [upd_ne nDd] at h0
          rw [z, h0] at hb
          cases hb
        rw [upd_ne nbD, upd_ne nb]
        exact k1 _ _ nb hb
      · exact ⟨us, by rw [upd_ne nDd.symm, upd_same]⟩
      · rw [upd_same, List.map_append]
        rfl
      · simp [el]
      · intro x hx2
        rcases List.mem_append.mp hx2 with z | z
        · exact hx x z
        · rw [List.mem_singleton.mp z]
          exact ⟨u0, u1⟩
    · rintro H1 ⟨xs, k1, d1, e1, el, hx⟩
      have hD0 : H D = none := by
        have h0 : (upd H d (.lst (ds.map V.int))) D = none := hD
        rw [upd_ne nDd] at h0
        exact h0
      -- loop
      refine ⟨_, rfl, _, rfl, d, _, rfl, d1, by omega, fun r2 ds2 r20 r21 => ?_⟩
      refine ⟨_, _, rfl, rfl, _, rfl, by omega, by omega, fun D2 hD2 => ?_⟩
      have nD2d : D2 ≠ d := fun z => by rw [z, upd_same] at hD2; cases hD2
      have hD2' : H1 D2 = none := by rw [upd_ne nD2d] at hD2; exact hD2
      have nDD : D ≠ D2 := ne_of_none e1 hD2'
      have hD20 : H D2 = none := by
        cases e : H D2 with
        | none => rfl
        | some o => rw [k1 _ _ nD2d e] at hD2'; cases hD2'
      refine lc_range (lo := 0) (n := (1 + r2).toNat) (fun i H' => ∃ ys : List Int, Kp d H H' ∧ Drw H' d ∧ H' D = some (.lst (xs.map V.int)) ∧ H' D2 = some (.lst (ys.map V.int)) ∧ ys.length = i ∧ ∀ x ∈ ys, 0 ≤ x ∧ x < n)
        ⟨[], k1.trans (Kp.own.trans (Kp.new hD2)), Drw.own.new hD2, by rw [upd_ne nDD, upd_ne nDd]; exact e1, upd_same, rfl, by simp⟩ ?_ ?_
      · rintro i H2 hi ⟨ys, k2, d2, e2, e3, el2, hy⟩
        refine ⟨rfl, _, rfl, _, rfl, d, _, rfl, d2, hn, fun u us u0 u1 => ?_⟩
        refine ⟨ys.map V.int, by rw [upd_ne nD2d]; exact e3, lenI (by omega), ys ++ [u], ?_, ?_, ?_, ?_, ?_, ?_⟩
        · intro b o nb hb
          rw [upd_ne (fun z => by rw [z, hD20] at hb; cases hb), upd_ne nb]
          exact k2 _ _ nb hb
        · exact ⟨us, by rw [upd_ne nD2d.symm, upd_same]⟩
        · rw [upd_ne nDD, upd_ne nDd]
          exact e2
        · rw [upd_same, List.map_append]
          rfl
        · simp [el2]
        · intro x hx2
          rcases List.mem_append.mp hx2 with z | z
          · exact hy x z
          · rw [List.mem_singleton.mp z]
            exact ⟨u0, u1⟩
      · rintro H2 ⟨ys, k2, d2, e2, e3, el2, hy⟩
        -- return (tuple(head), tuple(loop))
        refine ⟨_, rfl, D, _, rfl, .inl ⟨.of e2, fun a ha => ?_⟩⟩
        have e3' : (upd H2 a (.tup (xs.map V.int))) D2 = some (.lst (ys.map V.int)) := same_new ha _ _ e3
        refine ⟨_, rfl, D2, _, rfl, .inl ⟨.of e3', fun b hb => ?_⟩⟩
        refine ⟨by show 2 ≤ sizeLine; decide, fun p hp => ?_⟩
        have nab : a ≠ b := fun z => by rw [← z, upd_same] at hb; cases hb
        have nap : a ≠ p := fun z => by rw [← z, upd_ne nab, upd_same] at hp; cases hp
        have nbp : b ≠ p := fun z => by rw [← z, upd_same] at hp; cases hp
        refine q _ p xs ys (k2.trans ((Kp.new ha).trans ((Kp.new hb).trans (Kp.new hp)))) (((d2.new ha).new hb).new hp) ⟨a, b, upd_same, by rw [upd_ne nap, upd_ne nab, upd_same], by rw [upd_ne nbp, upd_same]⟩ (by omega) (fun z => ?_) (by omega) hx hy
        rw [z] at el2
        have : (0 : Nat) = (1 + r2).toNat := el2
        omega
theorem cal_period (T : Txt K mg) : C8.Cal P w K mg base 1 "shortest_period" spPeriod [] := by
  obtain ⟨f, fd, F, hm, hb⟩ := T.h_shortest_period
  refine ⟨f, fd, _, [], F.ok sc_shortest_period (fun vs H Q E h => ?_) (fun cdv A outer s H vs Q E hr h => ?_), hm, F.kp, hb, .nil⟩
  · obtain ⟨a, l, rfl, _⟩ := h
    rfl
  · obtain ⟨a, l, rfl, hl, hne, hlen, q⟩ := h
    have hn : 0 < l.length := List.length_pos_iff.mpr hne
    refine ⟨_, (pss_cons
      (ps_set (i := 1) sc_shortest_period.nd rfl (Or.inl rfl) (pe_lst (pa_cons pe_int pa_nil)))
      (pss_cons
      (ps_set (i := 2) sc_shortest_period.nd rfl (Or.inl rfl) pe_int)
      (pss_cons
      (ps_for PassesOwn.never rfl (pi_range2 (by rfl) T.z_range (pa_cons pe_int (pa_cons (pe_callB (call_lenK (K := K) rfl) (by rfl) T.z_len PySem.boot_len (pa_cons (pv 0) pa_nil)) pa_nil))) (pg_name (i := 3) sc_shortest_period.nd rfl (.inl rfl)) (C8.pss_cut
      (ps_while PassesOwn.never (PW.pt (pw_and (pt_cmpR op_gt (pv 2) pe_int (nomark _)) (pw_and1 (pt_cmpR op_ne (pe_ix (ix_seqK (K := K) rfl) (pv 0) (pv 3) (fun _ _ => rfl)) (pe_ix (ix_seqK (K := K) rfl) (pv 0) (pv 2) (fun _ _ => rfl)) (nomark _))))) (pss_one
      (ps_set (i := 2) sc_shortest_period.nd rfl (Or.inl rfl) (pe_ix (ix_listK (K := K) rfl) (pv 1) (pe_op op_sub (pv 2) pe_int) (fun _ _ => rfl)))))
      (C8.pss_cut
      (ps_if (pt_cmpR op_eq (pe_ix (ix_seqK (K := K) rfl) (pv 0) (pv 3) (fun _ _ => rfl)) (pe_ix (ix_seqK (K := K) rfl) (pv 0) (pv 2) (fun _ _ => rfl)) (nomark _)) (pss_one
      (ps_aug (i := 2) sc_shortest_period.nd rfl (.inl rfl) pe_int ip_add)) pss_nil)
      (pss_one
      (ps_expr (pe_bm PySem.F.plainAttrs_list PySem.F.slot_list_append PySem.F.type_list_append mt_append (pv 1) (pa_cons (pv 2) pa_nil)))))))
      (pss_cons
      (ps_set (i := 4) sc_shortest_period.nd rfl (Or.inl rfl) (pe_op op_sub (pe_callB (call_lenK (K := K) rfl) (by rfl) T.z_len PySem.boot_len (pa_cons (pv 0) pa_nil)) (pv 2)))
      (pss_one
      (ps_ret (pe_ifExp (pt_cmpR op_eq (pe_op op_mod (pe_callB (call_lenK (K := K) rfl) (by rfl) T.z_len PySem.boot_len (pa_cons (pv 0) pa_nil)) (pv 4)) pe_int (nomark _)) (pv 4) (pe_callB (call_lenK (K := K) rfl) (by rfl) T.z_len PySem.boot_len (pa_cons (pv 0) pa_nil))))))))), ?_⟩
    -- borders = [0]; border = 0
    refine ⟨by show 1 ≤ sizeLine; decide, fun o ho => ?_⟩
    have hl1 : SeqI (upd H o (.lst [.int 0])) a l := hl.same (same_new ho)
    -- for at in range(1, len(loop))
    refine ⟨_, rfl, a, _, rfl, hl1.sq, _, _, rfl, (by rw [List.length_map]; omega), for_range (lo := 1) (n := ((((l.map V.int).length : Nat) : Int) - 1).toNat)
      (fun i σ H' => ∃ (b : Nat) (bs : List Nat) (v : Option V), σ = [some (.ref a), some (.ref o), some (.int (b : Nat)), v, none] ∧ Same H H' ∧ H' o = some (.lst (bs.map fun n => V.int (n : Nat))) ∧ bs.length = i + 1 ∧ i + 1 ≤ l.length ∧
        Wd.Lg (lw l) (i + 1) b ∧ ∀ j x, bs[j]? = some x → Wd.Lg (lw l) (j + 1) x)
      ⟨0, [0], none, rfl, same_new ho, upd_same, rfl, hn, ⟨Wd.Bd.zero (by omega), fun j hj => by have := hj.1; omega⟩, fun j x hx => ?_⟩ ?_ ?_⟩
    · cases j with
      | zero =>
        have : x = 0 := (Option.some.inj hx).symm
        rw [this]
        exact ⟨Wd.Bd.zero (by omega), fun j hj => by have := hj.1; omega⟩
      | succ j => simp at hx
    · rintro i σ H1 hi ⟨b, bs, v, rfl, s1, ho1, hbl, hil, hLg, hall⟩
      rw [List.length_map] at hi
      have hi2 : i + 1 < l.length := by omega
      have hl2 : SeqI H1 a l := hl.same s1
      have e1 : (1 : Int) + (i : Int) = ((i + 1 : Nat) : Int) := by omega
      -- while
      refine ⟨fun σ H2 => ∃ b : Nat, σ = [some (.ref a), some (.ref o), some (.int (b : Nat)), some (.int (1 + (i : Int))), none] ∧ H2 = H1 ∧ Wd.In (lw l) (i + 1) b ∧ (b = 0 ∨ lw l (i + 1) = lw l b), ?_, ?_⟩
      · refine ⟨fun m σ H2 => ∃ b : Nat, m = b ∧ σ = [some (.ref a), some (.ref o), some (.int (b : Nat)), some (.int (1 + (i : Int))), none] ∧ H2 = H1 ∧ Wd.In (lw l) (i + 1) b, ⟨b, b, rfl, rfl, rfl, Wd.In.start hLg⟩, ?_⟩
        rintro b σ H2 ⟨_, rfl, rfl, rfl, hin⟩
        refine ⟨_, rfl, _, _, rfl, rfl, _, rfl, ?_⟩
        refine ite2 (fun e => ?_) (fun e => ?_)
        · have hb0 : 0 < b := by have := of_decide_eq_true e; omega
          have hbl2 : b < i + 1 := hin.1.1
          refine ⟨_, rfl, _, rfl, ixq hl2 e1 (at_map hi2) ⟨_, rfl, _, rfl, ixq hl2 rfl (at_map (by omega)) ?_⟩⟩
          refine ⟨rfl, _, rfl, ?_⟩
          refine ite_ne (fun c => ?_) (fun c => ⟨b, rfl, rfl, hin, .inr c⟩)
          · have c : lw l (i + 1) ≠ lw l b := c
            obtain ⟨x, hx⟩ : ∃ x, bs[b - 1]? = some x := ⟨_, List.getElem?_eq_getElem (by omega)⟩
            have hL2 := hall _ _ hx
            rw [Nat.sub_add_cancel hb0] at hL2
            obtain ⟨hs1, hs2⟩ := hin.step hb0 c hL2
            refine ⟨fun σ' H' => σ' = [some (.ref a), some (.ref o), some (.int (x : Nat)), some (.int (1 + (i : Int))), none] ∧ H' = H2, fun σ' H' hN => ⟨x, hs2, x, rfl, hN.1, hN.2, hs1⟩, ?_⟩
            refine ⟨_, rfl, _, rfl, _, _, rfl, rfl, o, _, _, .int (x : Nat), rfl, rfl, .of ho1, ?_, rfl, rfl⟩
            rw [show ((b : Nat) : Int) - 1 = ((b - 1 : Nat) : Int) by omega]
            exact atI_nat (by rw [List.getElem?_map, hx]; rfl)
        · have : b = 0 := by
            rcases Nat.eq_zero_or_pos b with z | z
            · exact z
            · exact absurd (decide_eq_true (show (0 : Int) < (b : Int) by omega)) e
          exact ⟨b, rfl, rfl, hin, .inl this⟩
      · rintro σ H2 ⟨b, rfl, rfl, hin, hor⟩
        have hbl2 : b < i + 1 := hin.1.1
        -- if loop[at] == loop[border]: border += 1
        refine ⟨fun σ H3 => ∃ b : Nat, σ = [some (.ref a), some (.ref o), some (.int (b : Nat)), some (.int (1 + (i : Int))), none] ∧ H3 = H2 ∧ Wd.Lg (lw l) (i + 1 + 1) b, ?_, ?_⟩
        · refine ⟨_, rfl, _, rfl, ixq hl2 e1 (at_map hi2) ⟨_, rfl, _, rfl, ixq hl2 rfl (at_map (by omega)) ?_⟩⟩
          refine ⟨rfl, _, rfl, ite_eq (fun c => ?_) (fun c => ?_)⟩
          · have c : lw l (i + 1) = lw l b := c
            exact ⟨_, rfl, _, _, rfl, rfl, b + 1, rfl, rfl, hin.found c⟩
          · have c : lw l (i + 1) ≠ lw l b := c
            rcases hor with z | z
            · subst z
              exact ⟨0, rfl, rfl, hin.none c⟩
            · exact absurd z c
        · rintro σ H3 ⟨b, rfl, rfl, hLg2⟩
          -- borders.append(border)
          refine ⟨_, rfl, .inl ⟨rfl, _, .of ho1⟩, _, rfl, o, _, _, rfl, rfl, ho1, ?_, ?_⟩
          · rw [List.length_map]
            exact Nat.lt_of_le_of_lt (show bs.length ≤ 1000000 by omega) (by decide)
          · refine ⟨b, bs ++ [b], _, rfl, fun c u hc => ?_, by rw [upd_same, List.map_append]; rfl, by simp [hbl], by omega, hLg2, fun j x hx => ?_⟩
            · rw [upd_ne (ne_of_none hc ho)]
              exact s1 _ _ hc
            · rcases Nat.lt_or_ge j bs.length with z | z
              · rw [List.getElem?_append_left z] at hx
                exact hall j x hx
              · rw [List.getElem?_append_right z] at hx
                have hj : j - bs.length = 0 := by
                  rcases Nat.eq_zero_or_pos (j - bs.length) with y | y
                  · exact y
                  · rw [List.getElem?_eq_none (by simp; omega)] at hx
                    cases hx
                rw [hj] at hx
                have hxb : x = b := (Option.some.inj hx).symm
                rw [hxb, show j = i + 1 by omega]
                exact hLg2
    · rintro σ H1 ⟨b, bs, v, rfl, s1, ho1, hbl, hil, hLg, hall⟩
      rw [List.length_map] at hbl hil hLg
      have en : (((l.length : Nat) : Int) - 1).toNat + 1 = l.length := by omega
      rw [en] at hLg
      have hb0 : b < l.length := hLg.1.1
      have hl2 : SeqI H1 a l := hl.same s1
      -- size
      refine ⟨_, rfl, a, _, rfl, hl2.sq, _, rfl, _, _, rfl, rfl, ?_⟩
      have es : (((l.map V.int).length : Nat) : Int) - (b : Int) = ((l.length - b : Nat) : Int) := by
        rw [List.length_map]
        omega
      have em : (((l.map V.int).length : Nat) : Int) % ((((l.map V.int).length : Nat) : Int) - (b : Int)) = ((l.length % (l.length - b) : Nat) : Int) := by
        rw [es, List.length_map]
        rfl
      refine ⟨_, rfl, a, _, rfl, hl2.sq, _, rfl, _, _, rfl, rfl, (show (0 : Int) < _ by rw [es]; omega), rfl, _, rfl, ?_⟩
      have L := Wd.least_of hn hLg
      refine ite2 (fun e => ?_) (fun e => ?_)
      · have c : l.length % (l.length - b) = 0 := by
          have := V.int.inj (of_decide_eq_true e)
          rw [em] at this
          omega
        rw [if_pos c] at L
        refine ⟨_, rfl, ?_⟩
        show Q (V.int ((((l.map V.int).length : Nat) : Int) - (b : Int))) H1
        rw [es]
        exact q H1 _ s1 L
      · have c : ¬ l.length % (l.length - b) = 0 := fun z => e (decide_eq_true (congrArg V.int (by rw [em, z]; rfl)))
        rw [if_neg c] at L
        refine ⟨_, rfl, a, _, rfl, hl2.sq, ?_⟩
        show Q (V.int (((l.map V.int).length : Nat) : Int)) H1
        rw [List.length_map]
        exact q H1 _ s1 L
theorem cal_short (T : Txt K mg) : C8.Cal P w K mg base 2 "shortest_lasso" spShort [] := by
  have C_shortest_period : C8.Cal P w K mg base 1 "shortest_period" spPeriod [] := cal_period T
  obtain ⟨f, fd, F, hm, hb⟩ := T.h_shortest_lasso
  refine ⟨f, fd, _, [], F.ok sc_shortest_lasso (fun vs H Q E h => ?_) (fun cdv A outer s H vs Q E hr h => ?_), hm, F.kp, hb, .nil⟩
  · obtain ⟨a, b, h, l, rfl, _⟩ := h
    rfl
  · obtain ⟨a, b, h, l, rfl, ha, hb, hne, hh, hl, q⟩ := h
    have hn : 0 < l.length := List.length_pos_iff.mpr hne
    refine ⟨_, (pss_cons
      (ps_set (i := 2) sc_shortest_lasso.nd rfl (Or.inl rfl) (C8.pe_c C_shortest_period hr (by decide) (by rfl) (pa_cons (pv 1) pa_nil)))
      (pss_cons
      (ps_set (i := 3) sc_shortest_lasso.nd rfl (Or.inl rfl) (pe_callB (call_lenK (K := K) rfl) (by rfl) T.z_len PySem.boot_len (pa_cons (pv 0) pa_nil)))
      (C8.pss_cut
      (ps_while PassesOwn.never (PW.pt (pw_and (pt_cmpR op_gt (pv 3) pe_int (nomark _)) (pw_and1 (pt_cmpR op_eq (pe_ix (ix_seqK (K := K) rfl) (pv 0) (pe_op op_sub (pv 3) pe_int) (fun _ _ => rfl)) (pe_ix (ix_seqK (K := K) rfl) (pv 1) (pe_op op_mod (pe_op op_sub (pe_op op_sub (pv 3) pe_int) (pe_callB (call_lenK (K := K) rfl) (by rfl) T.z_len PySem.boot_len (pa_cons (pv 0) pa_nil))) (pv 2)) (fun _ _ => rfl)) (nomark _))))) (pss_one
      (ps_aug (i := 3) sc_shortest_lasso.nd rfl (.inl rfl) pe_int ip_sub)))
      (pss_cons
      (ps_set (i := 4) sc_shortest_lasso.nd rfl (Or.inl rfl) (pe_op op_mod (pe_op op_sub (pv 3) (pe_callB (call_lenK (K := K) rfl) (by rfl) T.z_len PySem.boot_len (pa_cons (pv 0) pa_nil))) (pv 2)))
      (pss_one
      (ps_ret (pe_tup (pa_cons (pe_callTy (call_tuple_ofK (K := K) rfl) (by rfl) T.z_tuple (by decide +kernel) (pa_cons (pe_slice (sl_seqK (K := K) rfl) (pv 0) po_none (po_some (pv 3))) pa_nil)) (pa_cons (pe_op (op_catK (K := K) rfl) (pe_callTy (call_tuple_ofK (K := K) rfl) (by rfl) T.z_tuple (by decide +kernel) (pa_cons (pe_slice (sl_seqK (K := K) rfl) (pv 1) (po_some (pv 4)) (po_some (pv 2))) pa_nil)) (pe_callTy (call_tuple_ofK (K := K) rfl) (by rfl) T.z_tuple (by decide +kernel) (pa_cons (pe_slice (sl_seqK (K := K) rfl) (pv 1) po_none (po_some (pv 4))) pa_nil))) pa_nil))))))))), ?_⟩
    refine ⟨_, rfl, b, l, rfl, hb, hne, by omega, fun H1 r s1 L => ?_⟩
    have ha1 := ha.same s1
    have hb1 := hb.same s1
    have hr0 := L.pos
    have hrl := least_le hn L
    have hri : (0 : Int) < (r : Int) := by omega
    -- kept = len(head)
    refine ⟨_, rfl, a, _, rfl, ha1.sq, ?_⟩
    -- while
    refine ⟨fun σ H2 => ∃ k : Nat, σ = [some (.ref a), some (.ref b), some (.int (r : Nat)), some (.int (k : Nat)), none] ∧ H2 = H1 ∧ k ≤ h.length ∧ (∀ t, k ≤ t → t < h.length → lw h t = bk l r ((t : Int) - (h.length : Int))) ∧ (k = 0 ∨ lw h (k - 1) ≠ bk l r ((k : Int) - 1 - (h.length : Int))), ?_, ?_⟩
    · refine ⟨fun m σ H2 => ∃ k : Nat, m = k ∧ σ = [some (.ref a), some (.ref b), some (.int (r : Nat)), some (.int (k : Nat)), none] ∧ H2 = H1 ∧ k ≤ h.length ∧ (∀ t, k ≤ t → t < h.length → lw h t = bk l r ((t : Int) - (h.length : Int))),
        ⟨h.length, h.length, rfl, (by rw [List.length_map]; rfl), rfl, Nat.le_refl _, fun t h1 h2 => by omega⟩, ?_⟩
      rintro k σ H2 ⟨_, rfl, rfl, rfl, hk, hB⟩
      refine ⟨_, rfl, _, _, rfl, rfl, _, rfl, ?_⟩
      refine ite_lt (fun e => ?_) (fun e => ⟨k, rfl, rfl, hk, hB, .inl (by omega)⟩)
      have ez : ((k : Int) - 1 - (((h.map V.int).length : Nat) : Int)) % (r : Int) = ((((k : Int) - 1 - (h.length : Int)) % (r : Int)).toNat : Nat) := by
        rw [List.length_map, Int.toNat_of_nonneg (Int.emod_nonneg _ (by omega))]
      refine ⟨_, rfl, _, rfl, _, _, rfl, rfl, ixq (j := k - 1) ha1 (by omega) (at_map (by omega)) ?_⟩
      refine ⟨_, rfl, _, rfl, _, _, rfl, rfl, _, rfl, a, _, rfl, ha1.sq, _, _, rfl, rfl, _, rfl, _, _, rfl, rfl, hri, ixq hb1 ez (at_map (Nat.lt_of_lt_of_le (cut_lt hr0 _) hrl)) ?_⟩
      refine ⟨rfl, _, rfl, ite_eq (fun c => ?_) (fun c => ⟨k, rfl, rfl, hk, hB, .inr c⟩)⟩
      refine ⟨fun σ' H' => σ' = [some (.ref a), some (.ref b), some (.int (r : Nat)), some (.int ((k - 1 : Nat) : Int)), none] ∧ H' = H2, fun σ' H' hN => ⟨k - 1, by omega, k - 1, rfl, hN.1, hN.2, by omega, fun t h1 h2 => ?_⟩, ?_⟩
      · rcases Nat.lt_or_ge t k with z | z
        · have : t = k - 1 := by omega
          subst this
          rw [show ((k - 1 : Nat) : Int) - (h.length : Int) = (k : Int) - 1 - (h.length : Int) by omega]
          exact c
        · exact hB t z h2
      · refine ⟨_, rfl, _, _, rfl, rfl, ?_, rfl⟩
        show [some (V.ref a), some (.ref b), some (.int (r : Nat)), some (.int ((k : Int) - 1)), none] = _
        rw [show (k : Int) - 1 = ((k - 1 : Nat) : Int) by omega]
    · rintro σ H2 ⟨k, rfl, rfl, hk, hB, hX⟩
      -- cut
      refine ⟨_, rfl, _, rfl, a, _, rfl, ha1.sq, _, _, rfl, rfl, _, rfl, _, _, rfl, rfl, hri, ?_⟩
      have ec : ((k : Int) - (((h.map V.int).length : Nat) : Int)) % (r : Int) = ((((k : Int) - (h.length : Int)) % (r : Int)).toNat : Nat) := by
        rw [List.length_map, Int.toNat_of_nonneg (Int.emod_nonneg _ (by omega))]
      have hc := cut_lt hr0 ((k : Int) - (h.length : Int))
      -- tuple(head[:kept])
      refine ⟨_, rfl, _, rfl, k, rfl, ?_⟩
      refine slq_to ha1 rfl fun H3 p3 s3 e3 => ?_
      walk_at "nl"
      refine tupq e3 fun H4 p4 s4 e4 => ?_
      have hb4 := (hb1.same s3).same s4
      refine ⟨_, rfl, _, rfl, _, rfl, _, rfl, _, rfl, ?_⟩
      refine slq_mid hb4 ec rfl (by omega) hrl fun H5 p5 s5 e5 => ?_
      walk_at "nl"
      refine tupq e5 fun H6 p6 s6 e6 => ?_
      have hb6 := (hb4.same s5).same s6
      refine ⟨_, rfl, _, rfl, _, rfl, ?_⟩
      refine slq_to hb6 ec fun H7 p7 s7 e7 => ?_
      walk_at "nl"
      refine tupq e7 fun H8 p8 s8 e8 => ?_
      have S68 := s7.trans s8
      refine catq (S68 _ _ e6) e8 ?_ fun H9 p9 s9 e9 => ?_
      · rw [List.length_take, List.length_drop, List.length_take]
        omega
      refine ⟨by show 2 ≤ sizeLine; decide, fun p hp => ?_⟩
      have s10 : Same H9 (upd H9 p (.tup [.ref p4, .ref p9])) := same_new hp
      refine q _ p (h.take k) (rot l r (((k : Int) - (h.length : Int)) % (r : Int)).toNat) ?_ ⟨p4, p9, upd_same, ?_, s10 _ _ e9⟩ (short_of hne L hk hB hX)
      · exact s1.trans (s3.trans (s4.trans (s5.trans (s6.trans (S68.trans (s9.trans s10))))))
      · exact s10 _ _ (s9 _ _ (S68 _ _ (s6 _ _ (s5 _ _ e4))))
theorem cal_opers (T : Txt K mg) : C8.Cal P w K mg base 1 "operands" (spOpers K) [] := by
  obtain ⟨f, fd, F, hm, hb⟩ := T.h_operands
  refine ⟨f, fd, _, [], F.ok sc_operands (fun vs H Q E h => ?_) (fun cdv A outer s H vs Q E hr h => ?_), hm, F.kp, hb, .nil⟩
  · obtain ⟨v, f, nm, rfl, _⟩ := h
    rfl
  · obtain ⟨v, f, nm, rfl, hf, hw, q⟩ := h
    refine ⟨_, (pss_cons
      (ps_if (pt_cmpR op_eq (pe_ix (ix_tupK (K := K) rfl) (pv 0) pe_int (fun _ _ => rfl)) pe_str (nomark _)) (pss_one
      (ps_ret (pe_tup pa_nil))) pss_nil)
      (pss_one
      (ps_ret (pe_slice (sl_tupK (K := K) rfl) (pv 0) (po_some pe_int) po_none)))), ?_⟩
    have nz : ∀ {k : Str}, k ≠ sSig → (decide (V.str k = V.str "signal")) = false := fun hk => decide_eq_false fun z => hk (V.str.inj z)
    cases f with
    | sg s =>
      obtain ⟨a, rfl, ha⟩ := hf
      refine ⟨_, rfl, a, _, _, _, rfl, rfl, ha, rfl, rfl, _, rfl, iteT ?_⟩
      exact ⟨by show 0 ≤ sizeLine; decide, fun p hp => q _ p [] (same_new hp) upd_same trivial⟩
    | c0 k =>
      obtain ⟨a, rfl, ha⟩ := hf
      refine ⟨_, rfl, a, _, _, _, rfl, rfl, ha, rfl, rfl, _, rfl, ?_⟩
      rw [nz hw]
      refine iteF ?_
      refine ⟨_, rfl, _, rfl, a, _, rfl, ha, (fun z => absurd (show HT.sIx 1 0 (some 1) = 0 from z.1) (by decide)), fun _ p hp => q _ p [] (same_new hp) upd_same trivial⟩
    | un k f =>
      obtain ⟨a, x, rfl, ha, hx⟩ := hf
      refine ⟨_, rfl, a, _, _, _, rfl, rfl, ha, rfl, rfl, _, rfl, ?_⟩
      rw [nz hw.1]
      refine iteF ?_
      refine ⟨_, rfl, _, rfl, a, _, rfl, ha, (fun z => absurd (show HT.sIx 2 0 (some 1) = 0 from z.1) (by decide)), fun _ p hp => q _ p [x] (same_new hp) upd_same ⟨hx.same (same_new hp), trivial⟩⟩
    | bin k f g =>
      obtain ⟨a, x, y, rfl, ha, hx, hy⟩ := hf
      refine ⟨_, rfl, a, _, _, _, rfl, rfl, ha, rfl, rfl, _, rfl, ?_⟩
      rw [nz hw.1]
      refine iteF ?_
      refine ⟨_, rfl, _, rfl, a, _, rfl, ha, (fun z => absurd (show HT.sIx 3 0 (some 1) = 0 from z.1) (by decide)), fun _ p hp => q _ p [x, y] (same_new hp) upd_same ⟨hx.same (same_new hp), hy.same (same_new hp), trivial⟩⟩
theorem flat_ge (gs : List Fm) : gs.length ≤ (gs.reverse.map pre).flatten.length := by
  induction gs with
  | nil => exact Nat.zero_le _
  | cons a l ih =>
    have : 0 < (pre a).length := by rw [pre_len]; exact sz_pos a
    rw [List.reverse_cons, List.map_append, List.flatten_append, List.length_append]
    simp
    simp at ih
    omega
theorem unsnoc {K : PySem.W.Frag} {H : Hp} {ws : List V} {x : V} {gs : List Fm} {g : Fm} (h : FmsAt K H (ws ++ [x]) (gs ++ [g])) : FmsAt K H ws gs ∧ FmAt K H x g := by
  have r := h.rev
  rw [List.reverse_append, List.reverse_append] at r
  have r2 : FmsAt K H ws.reverse gs.reverse := r.2
  have r3 := r2.rev
  rw [List.reverse_reverse, List.reverse_reverse] at r3
  exact ⟨r3, r.1⟩
theorem wf_kids {nm : List Str} {g z : Fm} (h : Wf nm g) (m : z ∈ kids g) : Wf nm z := by
  cases g with
  | c0 k => cases m
  | sg s => cases m
  | un k f => rw [List.mem_singleton.mp m]; exact h.2
  | bin k f g =>
    rcases List.mem_cons.mp m with e | e
    · rw [e]; exact h.2.1
    · rw [List.mem_singleton.mp e]; exact h.2.2
theorem revs {K : PySem.W.Frag} {H : Hp} {xs : List V} {g : Fm} (h : FmsAt K H xs (kids g)) : pk3 xs none none (-1) = xs.reverse ∧ xs.length ≤ 2 := by
  have e := h.len
  match xs, e with
  | [], _ => exact ⟨rev0, by decide⟩
  | [x], _ => exact ⟨rev1 x, Nat.le_succ 1⟩
  | [x, y], _ => exact ⟨rev2 x y, Nat.le_refl 2⟩
  | _ :: _ :: _ :: _, e => cases g <;> simp [kids] at e
theorem cal_subs (T : Txt K mg) : C8.Cal P w K mg base 2 "subformulas" (spSubs K) [] := by
  have C_operands : C8.Cal P w K mg base 1 "operands" (spOpers K) [] := cal_opers T
  obtain ⟨f, fd, F, hm, hb⟩ := T.h_subformulas
  refine ⟨f, fd, _, [], F.ok sc_subformulas (fun vs H Q E h => ?_) (fun cdv A outer s H vs Q E hr h => ?_), hm, F.kp, hb, .nil⟩
  · obtain ⟨v, f, nm, rfl, _⟩ := h
    rfl
  · obtain ⟨v, f, nm, rfl, hf, hw, hz, q⟩ := h
    refine ⟨_, (pss_cons
      (ps_set (i := 1) sc_subformulas.nd rfl (Or.inl rfl) (pe_lst pa_nil))
      (pss_cons
      (ps_set (i := 2) sc_subformulas.nd rfl (Or.inl rfl) (pe_lst (pa_cons (pv 0) pa_nil)))
      (C8.pss_cut
      (ps_while PassesOwn.never (pt_cmpR op_gt (pe_callB (call_lenK (K := K) rfl) (by rfl) T.z_len PySem.boot_len (pa_cons (pv 2) pa_nil)) pe_int (nomark _)) (pss_cons
      (ps_set (i := 3) sc_subformulas.nd rfl (Or.inl rfl) (pe_bm0 PySem.F.plainAttrs_list PySem.F.slot_list_pop PySem.F.type_list_pop mt_pop (pv 2)))
      (pss_cons
      (ps_expr (pe_bm PySem.F.plainAttrs_list PySem.F.slot_list_append PySem.F.type_list_append mt_append (pv 1) (pa_cons (pv 3) pa_nil)))
      (pss_one
      (ps_expr (pe_bm PySem.F.plainAttrs_list PySem.F.slot_list_extend PySem.F.type_list_extend (mt_extT (K := K) rfl) (pv 2) (pa_cons (pe_sl3 (K := K) rfl (C8.pe_c C_operands hr (by decide) (by rfl) (pa_cons (pv 3) pa_nil)) po_none po_none (po_some (pe_un un_neg pe_int))) pa_nil)))))))
      (pss_one
      (ps_ret (pv 1)))))), ?_⟩
    refine ⟨by show 0 ≤ sizeLine; decide, fun o ho => ?_⟩
    refine ⟨_, rfl, by show 1 ≤ sizeLine; decide, fun wt hwt => ?_⟩
    have hwo : wt ≠ o := fun z => by rw [z, upd_same] at hwt; cases hwt
    have hwt0 : H wt = none := by rwa [upd_ne hwo] at hwt
    have s0 : Same H (upd (upd H o (.lst [])) wt (.lst [v])) := (same_new ho).trans (same_new hwt)
    refine ⟨fun σ H2 => ∃ (fs : List V) (v3 : Option V), σ = [some v, some (.ref o), some (.ref wt), v3] ∧ Same H H2 ∧ H2 o = some (.lst fs) ∧ FmsAt K H2 fs (pre f), ?_, ?_⟩
    · refine ⟨fun m σ H2 => ∃ (fs ws : List V) (ds gs : List Fm) (v3 : Option V), m = sz f - ds.length ∧ σ = [some v, some (.ref o), some (.ref wt), v3] ∧ Same H H2 ∧ H2 o = some (.lst fs) ∧ H2 wt = some (.lst ws) ∧ FmsAt K H2 fs ds ∧ FmsAt K H2 ws gs ∧
          ds ++ (gs.reverse.map pre).flatten = pre f ∧ ∀ g ∈ gs, Wf nm g,
        ⟨_, [], [v], [], [f], none, rfl, rfl, s0, by rw [upd_ne hwo.symm, upd_same], upd_same, trivial, ⟨hf.same s0, trivial⟩, by simp, fun g hg => by rw [List.mem_singleton.mp hg]; exact hw⟩, ?_⟩
      rintro m σ H2 ⟨fs, ws, ds, gs, v3, rfl, rfl, s2, h2o, h2w, hfs, hws, heq, hwf⟩
      have hlen := congrArg List.length heq
      rw [List.length_append, pre_len] at hlen
      refine ⟨_, rfl, wt, _, rfl, .inl (.of h2w), _, _, rfl, rfl, _, rfl, ?_⟩
      refine ite_lt (fun c => ?_) (fun c => ?_)
      · have hne : ws ≠ [] := fun z => by rw [z] at c; exact absurd c (by decide)
        obtain ⟨ws0, x, rfl⟩ : ∃ ws0 x, ws = ws0 ++ [x] := ⟨ws.dropLast, ws.getLast hne, (List.dropLast_concat_getLast hne).symm⟩
        have hgl := hws.len
        have hgne : gs ≠ [] := fun z => by rw [z] at hgl; simp at hgl
        obtain ⟨gs0, g, rfl⟩ : ∃ gs0 g, gs = gs0 ++ [g] := ⟨gs.dropLast, gs.getLast hgne, (List.dropLast_concat_getLast hgne).symm⟩
        obtain ⟨hws0, hx⟩ := unsnoc hws
        have hwg : Wf nm g := hwf g (by simp)
        have hsz : ds.length < sz f := by
          have : 0 < (pre g).length := by rw [pre_len]; exact sz_pos g
          rw [List.reverse_append, List.reverse_singleton, List.map_append, List.flatten_append, List.length_append] at hlen
          simp at hlen
          omega
        refine ⟨_, fun _ _ h => h, ?_⟩
        refine ⟨_, rfl, .inl ⟨rfl, _, .of h2w⟩, wt, _, x, rfl, rfl, h2w, by simp, ?_⟩
        have e3 : (upd H2 wt (.lst (ws0 ++ [x]).dropLast)) o = some (.lst fs) := by rw [upd_ne hwo.symm]; exact h2o
        have fl := hfs.len
        refine ⟨_, rfl, .inl ⟨rfl, _, .of e3⟩, _, rfl, o, fs, x, rfl, rfl, e3, Nat.lt_of_le_of_lt (show fs.length ≤ 1000 by omega) (by decide), ?_⟩
        have k4 : Kp wt H2 (upd H2 wt (.lst (ws0 ++ [x]).dropLast)) := Kp.own
        have k5 : Kp o (upd H2 wt (.lst (ws0 ++ [x]).dropLast)) (upd (upd H2 wt (.lst (ws0 ++ [x]).dropLast)) o (.lst (fs ++ [x]))) := Kp.own
        have e4 : (upd (upd H2 wt (.lst (ws0 ++ [x]).dropLast)) o (.lst (fs ++ [x]))) wt = some (.lst (ws0 ++ [x]).dropLast) := by rw [upd_ne hwo, upd_same]
        have e5 : (upd (upd H2 wt (.lst (ws0 ++ [x]).dropLast)) o (.lst (fs ++ [x]))) o = some (.lst (fs ++ [x])) := upd_same
        have x4 := (hx.kp h2w k4).kp e3 k5
        have f4 := (hfs.kp h2w k4).kp e3 k5
        have w4 := (hws0.kp h2w k4).kp e3 k5
        have s4 : Same H (upd (upd H2 wt (.lst (ws0 ++ [x]).dropLast)) o (.lst (fs ++ [x]))) := fun b u hb => by
          rw [upd_ne (ne_of_none hb ho), upd_ne (ne_of_none hb hwt0)]
          exact s2 b u hb
        generalize upd (upd H2 wt (.lst (ws0 ++ [x]).dropLast)) o (.lst (fs ++ [x])) = H4 at e4 e5 x4 f4 w4 s4 ⊢
        rw [List.dropLast_concat] at e4
        refine ⟨_, rfl, .inl ⟨rfl, _, .of e4⟩, _, rfl, x, g, nm, rfl, x4, hwg, fun H5 p xs s5 hp hk => ?_⟩
        obtain ⟨r1, r2⟩ := revs hk
        refine ⟨_, rfl, _, rfl, p, xs, -1, rfl, rfl, .of hp, by decide, by decide, by rw [r1, List.length_reverse]; exact Nat.le_trans r2 (by decide), fun p2 hp2 => ?_⟩
        rw [r1]
        have s6 : Same H4 (upd H5 p2 (.tup xs.reverse)) := s5.trans (same_new hp2)
        have e6 := s6 _ _ e4
        have wl := hws0.len
        refine ⟨wt, p2, ws0, xs.reverse, rfl, rfl, e6, .of upd_same, Nat.le_trans (show ws0.length + xs.reverse.length ≤ 1002 from ?_) (by decide), ?_⟩
        · rw [List.length_reverse, wl]
          have hg0 := flat_ge gs0
          rw [List.reverse_append, List.reverse_singleton, List.map_append, List.flatten_append, List.length_append] at hlen
          simp at hlen hg0
          omega
        · have k7 : Kp wt (upd H5 p2 (.tup xs.reverse)) (upd (upd H5 p2 (.tup xs.reverse)) wt (.lst (ws0 ++ xs.reverse))) := Kp.own
          refine ⟨sz f - (ds ++ [g]).length, ?_, fs ++ [x], ws0 ++ xs.reverse, ds ++ [g], gs0 ++ (kids g).reverse, _, rfl, rfl, fun b u hb => ?_, ?_, upd_same, ?_, ?_, ?_, ?_⟩
          · rw [List.length_append]
            simp
            omega
          · rw [upd_ne (ne_of_none hb hwt0)]
            exact s6 b u (s4 b u hb)
          · rw [upd_ne hwo.symm]
            exact s6 _ _ e5
          · exact ((f4.app (us := [x]) (gs := [g]) ⟨x4, trivial⟩).same s6).kp e6 k7
          · exact (((w4.same s6).app ((hk.same (same_new hp2)).rev))).kp e6 k7
          · rw [← heq, List.reverse_append, List.reverse_append, List.reverse_reverse, List.reverse_singleton, List.map_append, List.map_append, List.flatten_append, List.flatten_append, List.append_assoc]
            congr 1
            show g :: _ = (List.flatten [pre g]) ++ _
            rw [List.flatten_singleton, pre_kids g]
            simp
          · intro z hz
            rcases List.mem_append.mp hz with h | h
            · exact hwf z (by simp [h])
            · exact wf_kids hwg (List.mem_reverse.mp h)
      · have hws0 : ws = [] := List.length_eq_zero_iff.mp (by omega)
        subst hws0
        have hgs0 : gs = [] := List.length_eq_zero_iff.mp hws.len.symm
        subst hgs0
        rw [List.reverse_nil, List.map_nil, List.flatten_nil, List.append_nil] at heq
        rw [← heq]
        exact ⟨fs, v3, rfl, s2, h2o, hfs⟩
    · rintro σ H2 ⟨fs, v3, rfl, s2, h2o, hfs⟩
      exact ⟨_, rfl, q H2 o fs s2 h2o hfs⟩
/-- a list or a dict: what a def may change -/
def Mut : HO → Prop
  | .lst _ => True
  | .dT _ => True
  | .dK _ => True
  | _ => False
theorem sqt_mu {K : PySem.W.Frag} {H H' : Hp} {d a : Addr} {xs : List V} {o : HO} (hd : H d = some o) (m : Mut o) (e : Kp d H H') (h : SqT K H a xs) : SqT K H' a xs := by
  rcases h with (h | ⟨o2, h⟩) | h
  · refine .inl (.inl (e _ _ (fun z => ?_) h))
    rw [z, hd] at h
    cases h
    exact m
  · refine .inl (.inr ⟨o2, e _ _ (fun z => ?_) h⟩)
    rw [z, hd] at h
    cases h
    exact m
  · exact .inr h
theorem fm_mu {K : PySem.W.Frag} {H H' : Hp} {d : Addr} {o : HO} (hd : H d = some o) (m : Mut o) (e : Kp d H H') : ∀ {f : Fm} {v : V}, FmAt K H v f → FmAt K H' v f
  | .c0 _, _, ⟨a, h1, h2⟩ => ⟨a, h1, sqt_mu hd m e h2⟩
  | .sg _, _, ⟨a, h1, h2⟩ => ⟨a, h1, sqt_mu hd m e h2⟩
  | .un _ _, _, ⟨a, x, h1, h2, h3⟩ => ⟨a, x, h1, sqt_mu hd m e h2, fm_mu hd m e h3⟩
  | .bin _ _ _, _, ⟨a, x, y, h1, h2, h3, h4⟩ => ⟨a, x, y, h1, sqt_mu hd m e h2, fm_mu hd m e h3, fm_mu hd m e h4⟩
theorem fms_mu {K : PySem.W.Frag} {H H' : Hp} {d : Addr} {o : HO} (hd : H d = some o) (m : Mut o) (e : Kp d H H') : ∀ {vs : List V} {fs : List Fm}, FmsAt K H vs fs → FmsAt K H' vs fs
  | [], [], _ => trivial
  | _ :: _, _ :: _, h => ⟨fm_mu hd m e h.1, fms_mu hd m e h.2⟩
theorem pts_mu {H H' : Hp} {d : Addr} {o : HO} (hd : H d = some o) (m : Mut o) (e : Kp d H H') : ∀ {as : List Addr} {P : List Pt}, PtsAt H as P → PtsAt H' as P
  | [], [], _ => trivial
  | a :: _, _ :: _, h => ⟨e _ _ (fun z => by have h1 := h.1; rw [z, hd] at h1; cases h1; exact m) h.1, pts_mu hd m e h.2⟩
theorem pts_same {H H' : Hp} (e : Same H H') : ∀ {as : List Addr} {P : List Pt}, PtsAt H as P → PtsAt H' as P
  | [], [], _ => trivial
  | _ :: _, _ :: _, h => ⟨e _ _ h.1, pts_same e h.2⟩
theorem pts_len {H : Hp} : ∀ {as : List Addr} {P : List Pt}, PtsAt H as P → as.length = P.length
  | [], [], _ => rfl
  | _ :: _, _ :: _, h => congrArg (· + 1) (pts_len h.2)
theorem pts_snoc {H : Hp} {t : Addr} {p : Pt} (ht : H t = some (.tup [.str p.1, .int p.2.1, .int p.2.2])) : ∀ {as : List Addr} {P : List Pt}, PtsAt H as P → PtsAt H (as ++ [t]) (P ++ [p])
  | [], [], _ => ⟨ht, trivial⟩
  | _ :: _, _ :: _, h => ⟨h.1, pts_snoc ht h.2⟩
theorem pts_get {H : Hp} : ∀ {as : List Addr} {P : List Pt} {i : Nat} {a : Addr}, PtsAt H as P → as[i]? = some a → ∃ p, P[i]? = some p ∧ H a = some (.tup [.str p.1, .int p.2.1, .int p.2.2])
  | [], [], _, _, _, e => by simp at e
  | a :: as, p :: ps, 0, _, h, e => ⟨p, rfl, by cases e; exact h.1⟩
  | _ :: as, _ :: ps, i + 1, _, h, e => by
    rw [List.getElem?_cons_succ] at e ⊢
    exact pts_get h.2 e
theorem pre_sz : ∀ (f g : Fm), g ∈ pre f → g = f ∨ sz g < sz f
  | .c0 _, _, h => .inl (List.mem_singleton.mp h)
  | .sg _, _, h => .inl (List.mem_singleton.mp h)
  | .un k f, g, h => by
    rcases List.mem_cons.mp h with e | e
    · exact .inl e
    · refine .inr ?_
      show sz g < sz f + 1
      rcases pre_sz f g e with z | z
      · rw [z]; omega
      · omega
  | .bin k f f2, g, h => by
    rcases List.mem_cons.mp h with e | e
    · exact .inl e
    · refine .inr ?_
      show sz g < sz f + sz f2 + 1
      rcases List.mem_append.mp e with e | e
      · rcases pre_sz f g e with z | z
        · rw [z]; omega
        · omega
      · rcases pre_sz f2 g e with z | z
        · rw [z]; omega
        · omega
theorem pre_tail {f g : Fm} (h : g ∈ (pre f).tail) : sz g < sz f := by
  cases f with
  | c0 _ => cases h
  | sg _ => cases h
  | un k f =>
    have h : g ∈ pre f := h
    show sz g < sz f + 1
    rcases pre_sz f g h with z | z
    · rw [z]; omega
    · omega
  | bin k f f2 =>
    have h : g ∈ pre f ++ pre f2 := h
    show sz g < sz f + sz f2 + 1
    rcases List.mem_append.mp h with e | e
    · rcases pre_sz f g e with z | z
      · rw [z]; omega
      · omega
    · rcases pre_sz f2 g e with z | z
      · rw [z]; omega
      · omega
theorem wf_pre {nm : List Str} : ∀ {f g : Fm}, Wf nm f → g ∈ pre f → Wf nm g
  | .c0 _, _, w, h => by rw [List.mem_singleton.mp h]; exact w
  | .sg _, _, w, h => by rw [List.mem_singleton.mp h]; exact w
  | .un k f, g, w, h => by
    rcases List.mem_cons.mp h with e | e
    · rw [e]; exact w
    · exact wf_pre w.2 e
  | .bin k f f2, g, w, h => by
    rcases List.mem_cons.mp h with e | e
    · rw [e]; exact w
    · rcases List.mem_append.mp e with e | e
      · exact wf_pre w.2.1 e
      · exact wf_pre w.2.2 e
/-- the item of the row at i: the root behind all others -/
theorem row_at {f g : Fm} {i : Nat} (h : (pre f).reverse[i]? = some g) : (i + 1 = sz f ∧ g = f) ∨ (i + 1 < sz f ∧ sz g < sz f) := by
  have hl : i < (pre f).reverse.length := (List.getElem?_eq_some_iff.mp h).1
  rw [List.length_reverse, pre_len] at hl
  rw [List.getElem?_reverse (by rw [pre_len]; exact hl), pre_len] at h
  rcases Nat.lt_or_ge (i + 1) (sz f) with c | c
  · refine .inr ⟨c, ?_⟩
    obtain ⟨j, hj⟩ : ∃ j, sz f - 1 - i = j + 1 := ⟨sz f - 2 - i, by omega⟩
    rw [hj, ← List.getElem?_tail] at h
    exact pre_tail (List.mem_of_getElem? h)
  · refine .inl ⟨by omega, ?_⟩
    rw [show sz f - 1 - i = 0 by omega, pre_kids f] at h
    cases h
    rfl
def pkey (p : Pt) : List Key := [.inr p.1, .inl p.2.1, .inl p.2.2]
theorem pkey_inj {p q : Pt} (h : pkey p = pkey q) : p = q := by
  obtain ⟨a, b, c⟩ := p
  obtain ⟨a', b', c'⟩ := q
  unfold pkey at h
  simp at h
  obtain ⟨h1, h2, h3⟩ := h
  rw [h1, h2, h3]
/-- the dict tells places of the row alone -/
def Dct (kvs : List (List Key × V)) (P : List Pt) : Prop := ∀ k u, valV kvs k = some u → ∃ (i : Nat) (p : Pt), u = .int (i : Int) ∧ P[i]? = some p ∧ k = pkey p
theorem Dct.up {kvs : List (List Key × V)} {P : List Pt} {p : Pt} (h : Dct kvs P) : Dct (putK kvs (pkey p) (.int (P.length : Nat))) (P ++ [p]) := fun k u e => by
  rw [valV_put] at e
  split at e
  · rename_i c
    cases e
    exact ⟨P.length, p, rfl, by simp, c⟩
  · obtain ⟨i, q, h1, h2, h3⟩ := h k u e
    exact ⟨i, q, h1, by rw [List.getElem?_append_left (List.getElem?_eq_some_iff.mp h2).1]; exact h2, h3⟩
/-- the stack of numbers, its end on top -/
def Stk (Fs : List Fm) (ids : List Nat) (S : List Fm) : Prop := ids.map (fun i => Fs[i]?) = S.reverse.map some
theorem Stk.up {Fs : List Fm} {ids : List Nat} {S : List Fm} (h : Stk Fs ids S) (g : Fm) : Stk (Fs ++ [g]) ids S := by
  have h2 : ∀ i ∈ ids, i < Fs.length := fun i hi => by
    have : Fs[i]? ∈ S.reverse.map some := by
      rw [← h]
      exact List.mem_map.mpr ⟨i, hi, rfl⟩
    obtain ⟨x, _, hx⟩ := List.mem_map.mp this
    exact (List.getElem?_eq_some_iff.mp hx.symm).1
  unfold Stk at h ⊢
  rw [← h]
  exact List.map_congr_left fun i hi => List.getElem?_append_left (h2 i hi)
theorem Stk.push {Fs : List Fm} {ids : List Nat} {S : List Fm} {i : Nat} {g : Fm} (h : Stk Fs ids S) (e : Fs[i]? = some g) : Stk Fs (ids ++ [i]) (g :: S) := by
  unfold Stk at h ⊢
  rw [List.map_append, h, List.reverse_cons, List.map_append]
  show _ ++ [Fs[i]?] = _
  rw [e]
  rfl
theorem Stk.pop {Fs : List Fm} {ids : List Nat} {S : List Fm} {g : Fm} (h : Stk Fs ids (g :: S)) : ∃ ids0 i, ids = ids0 ++ [i] ∧ Fs[i]? = some g ∧ Stk Fs ids0 S := by
  unfold Stk at h
  rw [List.reverse_cons, List.map_append] at h
  have hne : ids ≠ [] := fun z => by rw [z] at h; simp at h
  refine ⟨ids.dropLast, ids.getLast hne, (List.dropLast_concat_getLast hne).symm, ?_⟩
  rw [← List.dropLast_concat_getLast hne, List.map_append] at h
  have h2 := List.append_inj' h rfl
  exact ⟨by simpa using h2.2, h2.1⟩
structure Dist (H : Hp) (o d wt p2 : Addr) : Prop where
  ho : H o = none
  hd : H d = none
  hw : H wt = none
  od : o ≠ d
  ow : o ≠ wt
  dw : d ≠ wt
  po : p2 ≠ o
  pd : p2 ≠ d
  pw : p2 ≠ wt
structure Bnd (K : PySem.W.Frag) (H : Hp) (o d wt p2 : Addr) (xs : List V) (row : List Fm) (H4 : Hp) (as : List Addr) (P : List Pt) (kvs : List (List Key × V)) (ids : List Nat) : Prop where
  s : Same H H4
  p : H4 p2 = some (.lst xs)
  f : FmsAt K H4 xs row
  o : H4 o = some (.lst (as.map V.ref))
  d : H4 d = some (.dT kvs)
  w : H4 wt = some (.lst (ids.map fun i => V.int (i : Nat)))
  t : PtsAt H4 as P
section
variable {H H4 H5 : Hp} {o d wt p2 : Addr} {xs : List V} {row : List Fm} {as : List Addr} {P : List Pt} {kvs : List (List Key × V)} {ids : List Nat}
theorem Bnd.same (B : Bnd K H o d wt p2 xs row H4 as P kvs ids) (e : Same H4 H5) : Bnd K H o d wt p2 xs row H5 as P kvs ids :=
  ⟨B.s.trans e, e _ _ B.p, B.f.same e, e _ _ B.o, e _ _ B.d, e _ _ B.w, pts_same e B.t⟩
theorem Bnd.setW (D : Dist H o d wt p2) (B : Bnd K H o d wt p2 xs row H4 as P kvs ids) (ids' : List Nat) : Bnd K H o d wt p2 xs row (upd H4 wt (.lst (ids'.map fun i => V.int (i : Nat)))) as P kvs ids' :=
  ⟨fun b u hb => by rw [upd_ne (ne_of_none hb D.hw)]; exact B.s b u hb, by rw [upd_ne D.pw]; exact B.p, fms_mu B.w trivial Kp.own B.f, by rw [upd_ne D.ow]; exact B.o, by rw [upd_ne D.dw]; exact B.d, upd_same, pts_mu B.w trivial Kp.own B.t⟩
theorem Bnd.setD (D : Dist H o d wt p2) (B : Bnd K H o d wt p2 xs row H4 as P kvs ids) (kvs' : List (List Key × V)) : Bnd K H o d wt p2 xs row (upd H4 d (.dT kvs')) as P kvs' ids :=
  ⟨fun b u hb => by rw [upd_ne (ne_of_none hb D.hd)]; exact B.s b u hb, by rw [upd_ne D.pd]; exact B.p, fms_mu B.d trivial Kp.own B.f, by rw [upd_ne D.od]; exact B.o, upd_same, by rw [upd_ne D.dw.symm]; exact B.w, pts_mu B.d trivial Kp.own B.t⟩
theorem tup_mu {x t : Addr} {u u' : HO} {ys : List V} (hx : H4 x = some u) (m : Mut u) (ht : H4 t = some (.tup ys)) : (upd H4 x u') t = some (.tup ys) := by
  rw [upd_ne (fun z => by rw [z, hx] at ht; cases ht; exact m)]
  exact ht
theorem Bnd.setO (D : Dist H o d wt p2) (B : Bnd K H o d wt p2 xs row H4 as P kvs ids) {t : Addr} {p : Pt} (ht : H4 t = some (.tup [.str p.1, .int p.2.1, .int p.2.2])) :
    Bnd K H o d wt p2 xs row (upd H4 o (.lst ((as ++ [t]).map V.ref))) (as ++ [t]) (P ++ [p]) kvs ids :=
  ⟨fun b u hb => by rw [upd_ne (ne_of_none hb D.ho)]; exact B.s b u hb, by rw [upd_ne D.po]; exact B.p, fms_mu B.o trivial Kp.own B.f, upd_same, by rw [upd_ne D.od.symm]; exact B.d, by rw [upd_ne D.ow.symm]; exact B.w,
    pts_snoc (tup_mu B.o trivial ht) (pts_mu B.o trivial Kp.own B.t)⟩
end
/-- names.index(s) -/
theorem idxq {H : Hp} {n : Addr} {nm : List Str} {s : Str} {Q : VK} (h : SqL K H n (nm.map V.str)) (m : s ∈ nm) (q : Q (.int ((nm.idxOf s : Nat) : Int)) H) : rIndex K (.ref n) [.str s] H Q := by
  have hl := List.idxOf_lt_length_of_mem m
  refine ⟨n, _, .str s, nm.idxOf s, .str s, rfl, rfl, h, rfl, flat_strs _, ?_, ?_, fun k z hk hz => ?_, q⟩
  · rw [List.getElem?_map, List.getElem?_eq_getElem hl, List.getElem_idxOf]
    rfl
  · show (s == s) = true
    exact beq_self_eq_true s
  · rw [List.getElem?_map, List.getElem?_eq_getElem (by omega)] at hz
    cases hz
    show (nm[k] == s) = false
    exact List.not_of_lt_findIdx (p := fun y => y == s) (xs := nm) hk
theorem pop_map {ids : List Nat} {i : Nat} : ((ids ++ [i]).map fun j => V.int (j : Nat)).dropLast = ids.map fun j => V.int (j : Nat) := by
  rw [List.map_append]
  exact List.dropLast_concat
theorem pop_last {ids : List Nat} {i : Nat} : ((ids ++ [i]).map fun j => V.int (j : Nat))[((ids ++ [i]).map fun j => V.int (j : Nat)).length - 1]? = some (.int (i : Nat)) := by
  simp
theorem cal_parts (T : Txt K mg) : C8.Cal P w K mg base 3 "number_parts" (spParts K) [] := by
  have C_operands : C8.Cal P w K mg base 1 "operands" (spOpers K) [] := cal_opers T
  have C_subformulas : C8.Cal P w K mg base 2 "subformulas" (spSubs K) [] := cal_subs T
  obtain ⟨f, fd, F, hm, hb⟩ := T.h_number_parts
  refine ⟨f, fd, _, [], F.ok sc_number_parts (fun vs H Q E h => ?_) (fun cdv A outer s H vs Q E hr h => ?_), hm, F.kp, hb, .nil⟩
  · obtain ⟨v, n, f, nm, rfl, _⟩ := h
    rfl
  · obtain ⟨v, n, f, nm, rfl, hf, hn, hw, hz, q⟩ := h
    refine ⟨_, (pss_cons
      (ps_set (i := 2) sc_number_parts.nd rfl (Or.inl rfl) (pe_lst pa_nil))
      (pss_cons
      (ps_set (i := 3) sc_number_parts.nd rfl (Or.inl rfl) pe_dnewT)
      (pss_cons
      (ps_set (i := 4) sc_number_parts.nd rfl (Or.inl rfl) (pe_lst pa_nil))
      (pss_cons
      (ps_for PassesOwn.never rfl (pi_list (pe_revLK (K := K) rfl (C8.pe_c C_subformulas hr (by decide) (by rfl) (pa_cons (pv 0) pa_nil)))) (pg_name (i := 5) sc_number_parts.nd rfl (.inl rfl)) (pss_cons
      (ps_set (i := 6) sc_number_parts.nd rfl (Or.inl rfl) (pe_ix (ix_tupK (K := K) rfl) (pv 5) pe_int (fun _ _ => rfl)))
      (pss_cons
      (ps_set (i := 7) sc_number_parts.nd rfl (Or.inl rfl) (pe_callB (call_lenK (K := K) rfl) (by rfl) T.z_len PySem.boot_len (pa_cons (C8.pe_c C_operands hr (by decide) (by rfl) (pa_cons (pv 5) pa_nil)) pa_nil)))
      (C8.pss_cut
      (ps_if (pt_cmpR op_eq (pv 6) pe_str (nomark _)) (pss_one
      (ps_set (i := 8) sc_number_parts.nd rfl (Or.inl rfl) (pe_tup (pa_cons (pv 6) (pa_cons (pe_bm PySem.F.plainAttrs_list PySem.F.slot_list_index PySem.F.type_list_index (mt_indexK (K := K) rfl) (pv 1) (pa_cons (pe_ix (ix_tupK (K := K) rfl) (pv 5) pe_int (fun _ _ => rfl)) pa_nil)) (pa_cons (pe_un un_neg pe_int) pa_nil)))))) (pss_cons
      (ps_set (i := 9) sc_number_parts.nd rfl (Or.inl rfl) (pe_ifExp (pt_cmpR op_gt (pv 7) pe_int (nomark _)) (pe_bm0 PySem.F.plainAttrs_list PySem.F.slot_list_pop PySem.F.type_list_pop mt_pop (pv 4)) (pe_un un_neg pe_int)))
      (pss_cons
      (ps_set (i := 10) sc_number_parts.nd rfl (Or.inl rfl) (pe_ifExp (pt_cmpR op_gt (pv 7) pe_int (nomark _)) (pe_bm0 PySem.F.plainAttrs_list PySem.F.slot_list_pop PySem.F.type_list_pop mt_pop (pv 4)) (pe_un un_neg pe_int)))
      (pss_one
      (ps_set (i := 8) sc_number_parts.nd rfl (Or.inl rfl) (pe_tup (pa_cons (pv 6) (pa_cons (pv 9) (pa_cons (pv 10) pa_nil)))))))))
      (C8.pss_cut
      (ps_if (pt_cmp (pc_dnotin (hu_of hr) (pv 8) (pv 3))) (pss_cons
      (ps_dput (hu_of hr) (pv 3) (pv 8) (pe_callB (call_lenK (K := K) rfl) (by rfl) T.z_len PySem.boot_len (pa_cons (pv 2) pa_nil)) rfl)
      (pss_one
      (ps_expr (pe_bm PySem.F.plainAttrs_list PySem.F.slot_list_append PySem.F.type_list_append mt_append (pv 2) (pa_cons (pv 8) pa_nil))))) pss_nil)
      (pss_one
      (ps_expr (pe_bm PySem.F.plainAttrs_list PySem.F.slot_list_append PySem.F.type_list_append mt_append (pv 4) (pa_cons (pe_dget (hu_of hr) (pv 3) (pv 8) (fun _ _ => rfl)) pa_nil)))))))))
      (pss_one
      (ps_ret (pv 2))))))), ?_⟩
    refine ⟨by show 0 ≤ sizeLine; decide, fun o ho => ?_⟩
    refine fun d hd => ?_
    refine ⟨by show 0 ≤ sizeLine; decide, fun wt hwt => ?_⟩
    have hdo : d ≠ o := fun z => by rw [z, upd_same] at hd; cases hd
    have hd0 : H d = none := by rwa [upd_ne hdo] at hd
    have hwd : wt ≠ d := fun z => by rw [z, upd_same] at hwt; cases hwt
    have hwo : wt ≠ o := fun z => by rw [z, upd_ne hdo.symm, upd_same] at hwt; cases hwt
    have hwt0 : H wt = none := by rwa [upd_ne hwd, upd_ne hwo] at hwt
    have s0 : Same H (upd (upd (upd H o (.lst [])) d (.dT [])) wt (.lst [])) := ((same_new ho).trans (same_new hd)).trans (same_new hwt)
    have a1 : (upd (upd (upd H o (.lst [])) d (.dT [])) wt (.lst [])) o = some (.lst []) := by rw [upd_ne hwo.symm, upd_ne hdo.symm, upd_same]
    have a2 : (upd (upd (upd H o (.lst [])) d (.dT [])) wt (.lst [])) d = some (.dT []) := by rw [upd_ne hwd.symm, upd_same]
    have a3 : (upd (upd (upd H o (.lst [])) d (.dT [])) wt (.lst [])) wt = some (.lst []) := upd_same
    generalize upd (upd (upd H o (.lst [])) d (.dT [])) wt (.lst []) = H1 at s0 a1 a2 a3 ⊢
    refine ⟨_, rfl, v, f, nm, rfl, hf.same s0, hw, hz, fun H2 p xs s2 hp hx => ?_⟩
    refine ⟨p, xs, rfl, .of hp, fun p2 hp2 => ?_⟩
    have s3 : Same H2 (upd H2 p2 (.lst xs.reverse)) := same_new hp2
    have b1 := s3 _ _ (s2 _ _ a1)
    have b2 := s3 _ _ (s2 _ _ a2)
    have b3 := s3 _ _ (s2 _ _ a3)
    have b4 : (upd H2 p2 (.lst xs.reverse)) p2 = some (.lst xs.reverse) := upd_same
    have np1 : p2 ≠ o := fun z => by rw [z, s2 _ _ a1] at hp2; cases hp2
    have np2 : p2 ≠ d := fun z => by rw [z, s2 _ _ a2] at hp2; cases hp2
    have np3 : p2 ≠ wt := fun z => by rw [z, s2 _ _ a3] at hp2; cases hp2
    have hx3 := (hx.same s3).rev
    have sH : Same H (upd H2 p2 (.lst xs.reverse)) := s0.trans (s2.trans s3)
    have hxl := hx.len
    rw [pre_len] at hxl
    have hrl : xs.reverse.length = sz f := by rw [List.length_reverse, hxl]
    have D : Dist H o d wt p2 := ⟨ho, hd0, hwt0, hdo.symm, hwo.symm, hwd.symm, np1, np2, np3⟩
    generalize upd H2 p2 (.lst xs.reverse) = H3 at b1 b2 b3 b4 hx3 sH ⊢
    refine ⟨p2, rfl, ⟨_, .of b4⟩, for_list (xs := xs.reverse) (fun i σ H4 => ∃ (as : List Addr) (P : List Pt) (Fs : List Fm) (kvs : List (List Key × V)) (S : List Fm) (ids : List Nat) (v5 v6 v7 v8 v9 v10 : Option V),
        σ = [some v, some (.ref n), some (.ref o), some (.ref d), some (.ref wt), v5, v6, v7, v8, v9, v10] ∧ Bnd K H o d wt p2 xs.reverse (pre f).reverse H4 as P kvs ids ∧ Good nm P Fs ∧ Dct kvs P ∧ Stk Fs ids S ∧ Vl f S ((pre f).reverse.drop i) ∧
        P.length ≤ i ∧ kvs.length ≤ i ∧ ids.length ≤ i ∧ (i < sz f → ∀ g ∈ Fs, sz g < sz f) ∧ (i = sz f → Fs.getLast? = some f))
      ⟨[], [], [], [], [], [], none, none, none, none, none, none, rfl, ⟨sH, b4, hx3, b1, b2, b3, trivial⟩, ⟨rfl, fun k g p hk => by simp at hk⟩, fun k u e => by simp [valV] at e, rfl, vl_root f, Nat.le_refl _, Nat.le_refl _, Nat.le_refl _, fun _ g hg => by simp at hg, fun z => absurd z.symm (Nat.ne_of_gt (sz_pos f))⟩
      (fun i σ H4 _ hh => by obtain ⟨_, _, _, _, _, _, _, _, _, _, _, _, _, e, _⟩ := hh; exact .of e.p) ?_ ?_⟩
    · rintro i x σ H4 hix ⟨as, P, Fs, kvs, S, ids, v5, v6, v7, v8, v9, v10, rfl, B, hG, hD, hS, hV, l1, l2, l3, hlt, _⟩
      obtain ⟨g, hg, hxg⟩ := B.f.get hix
      have hrow := row_at hg
      have hgw : Wf nm g := wf_pre hw (List.mem_reverse.mp (List.mem_of_getElem? hg))
      have hi : i < sz f := by omega
      have hV2 : ∃ S', S = kids g ++ S' ∧ Vl f (g :: S') ((pre f).reverse.drop (i + 1)) := by
        have hil := (List.getElem?_eq_some_iff.mp hg).1
        rw [List.drop_eq_getElem_cons hil, (List.getElem?_eq_some_iff.mp hg).2] at hV
        exact hV
      obtain ⟨S', rfl, hV3⟩ := hV2
      have hnn := fun H' (e : Same H H') => e.seq hn
      obtain ⟨a, us, rfl, hat⟩ := hxg.tup
      refine ⟨_, rfl, a, _, _, _, rfl, rfl, hat, atI_nat (j := 0) List.getElem?_cons_zero, ?_⟩
      refine ⟨_, rfl, .ref a, g, nm, rfl, hxg, hgw, fun H5 p5 ys s5 hp5 hk5 => ⟨p5, ys, rfl, .inr (.of hp5), ?_⟩⟩
      have B5 := B.same s5
      have hxg5 := hxg.same s5
      refine ⟨fun σ H6 => ∃ (t : Addr) (pt : Pt) (ids' : List Nat) (v9 v10 : Option V), σ = [some v, some (.ref n), some (.ref o), some (.ref d), some (.ref wt), some (.ref a), some (.str (kd g)), some (.int (ys.length : Nat)), some (.ref t), v9, v10] ∧
          Bnd K H o d wt p2 xs.reverse (pre f).reverse H6 as P kvs ids' ∧ Stk Fs ids' S' ∧ ids'.length ≤ i ∧ H6 t = some (.tup [.str pt.1, .int pt.2.1, .int pt.2.2]) ∧ Node nm Fs P.length g pt, ?_, ?_⟩
      · have nz : ∀ {k : Str}, k ≠ sSig → (decide (V.str k = V.str "signal")) = false := fun hk => decide_eq_false fun z => hk (V.str.inj z)
        cases g with
        | sg s =>
          obtain ⟨a2, e2, ht2⟩ := hxg5
          cases e2
          refine ⟨_, rfl, rfl, _, rfl, iteT ?_⟩
          refine ⟨_, rfl, _, rfl, .inl ⟨rfl, _, hnn _ B5.s⟩, _, rfl, a, _, _, .str s, rfl, rfl, ht2, rfl, ?_⟩
          walk_at "nl"
          refine idxq (hnn _ B5.s) hgw ?_
          refine ⟨1, rfl, by show 3 ≤ sizeLine; decide, fun t ht => ?_⟩
          exact ⟨t, (sSig, ((nm.idxOf s : Nat) : Int), -1), ids, _, _, rfl, B5.same (same_new ht), hS, l3, upd_same, hgw, rfl⟩
        | c0 k =>
          have hys : ys = [] := List.length_eq_zero_iff.mp hk5.len
          subst hys
          refine ⟨_, rfl, rfl, _, rfl, ?_⟩
          rw [show (decide (V.str (kd (Fm.c0 k)) = V.str "signal")) = false from nz hgw]
          refine iteF ?_
          refine ⟨_, rfl, _, _, rfl, rfl, _, rfl, iteF ?_⟩
          refine ⟨1, rfl, ?_⟩
          refine ⟨_, rfl, _, _, rfl, rfl, _, rfl, iteF ?_⟩
          refine ⟨1, rfl, ?_⟩
          refine ⟨_, rfl, _, rfl, _, rfl, by show 3 ≤ sizeLine; decide, fun t ht => ?_⟩
          exact ⟨t, (k, -1, -1), ids, _, _, rfl, B5.same (same_new ht), hS, l3, upd_same, hgw, rfl⟩
        | un k g1 =>
          obtain ⟨y, rfl⟩ : ∃ y, ys = [y] := List.length_eq_one_iff.mp hk5.len
          obtain ⟨ids0, j, rfl, hj, hS0⟩ := hS.pop
          have hj2 : j < Fs.length := (List.getElem?_eq_some_iff.mp hj).1
          rw [List.length_append] at l3
          refine ⟨_, rfl, rfl, _, rfl, ?_⟩
          rw [show (decide (V.str (kd (Fm.un k g1)) = V.str "signal")) = false from nz hgw.1]
          refine iteF ?_
          refine ⟨_, rfl, _, _, rfl, rfl, _, rfl, iteT ?_⟩
          refine ⟨_, rfl, .inl ⟨rfl, _, .of B5.w⟩, wt, _, .int (j : Nat), rfl, rfl, B5.w, pop_last, ?_⟩
          rw [pop_map]
          have B6 := B5.setW D ids0
          refine ⟨_, rfl, _, _, rfl, rfl, _, rfl, iteF ?_⟩
          refine ⟨1, rfl, ?_⟩
          refine ⟨_, rfl, _, rfl, _, rfl, by show 3 ≤ sizeLine; decide, fun t ht => ?_⟩
          exact ⟨t, (k, (j : Int), -1), ids0, _, _, rfl, B6.same (same_new ht), hS0, by omega, upd_same, hgw.1, j, by rw [hG.len]; exact hj2, hj, rfl⟩
        | bin k g1 g2 =>
          obtain ⟨y1, y2, rfl⟩ : ∃ y1 y2, ys = [y1, y2] := by
            match ys, hk5.len with
            | [a, b], _ => exact ⟨a, b, rfl⟩
          obtain ⟨ids1, j1, rfl, hj1, hS1⟩ := hS.pop
          obtain ⟨ids0, j2, rfl, hj2, hS0⟩ := hS1.pop
          have hl1 : j1 < Fs.length := (List.getElem?_eq_some_iff.mp hj1).1
          have hl2 : j2 < Fs.length := (List.getElem?_eq_some_iff.mp hj2).1
          rw [List.length_append, List.length_append] at l3
          refine ⟨_, rfl, rfl, _, rfl, ?_⟩
          rw [show (decide (V.str (kd (Fm.bin k g1 g2)) = V.str "signal")) = false from nz hgw.1]
          refine iteF ?_
          refine ⟨_, rfl, _, _, rfl, rfl, _, rfl, iteT ?_⟩
          refine ⟨_, rfl, .inl ⟨rfl, _, .of B5.w⟩, wt, _, .int (j1 : Nat), rfl, rfl, B5.w, pop_last, ?_⟩
          rw [pop_map]
          have B6 := B5.setW D (ids0 ++ [j2])
          refine ⟨_, rfl, _, _, rfl, rfl, _, rfl, iteT ?_⟩
          refine ⟨_, rfl, .inl ⟨rfl, _, .of B6.w⟩, wt, _, .int (j2 : Nat), rfl, rfl, B6.w, pop_last, ?_⟩
          rw [pop_map]
          have B7 := B6.setW D ids0
          refine ⟨_, rfl, _, rfl, _, rfl, by show 3 ≤ sizeLine; decide, fun t ht => ?_⟩
          exact ⟨t, (k, (j1 : Int), (j2 : Int)), ids0, _, _, rfl, B7.same (same_new ht), hS0, by simp at l3; omega, upd_same, hgw.1, j1, j2, by rw [hG.len]; exact hl1, by rw [hG.len]; exact hl2, hj1, hj2, rfl⟩
      · rintro σ H6 ⟨t, pt, ids', w9, w10, rfl, B6, hS6, l6, ht6, hnd⟩
        have eqk : ([V.str pt.1, .int pt.2.1, .int pt.2.2] : List V) = (pkey pt).map kV := rfl
        have gd : ∀ {H' : Hp} {kv : List (List Key × V)}, H' d = some (.dT kv) → H' t = some (.tup [.str pt.1, .int pt.2.1, .int pt.2.2]) → DGet H' d (.ref t) (valV kv (pkey pt)) := fun h1 h2 => DGet.t h1 (by rw [← eqk]; exact h2)
        refine ⟨fun σ H7 => ∃ (as' : List Addr) (P' : List Pt) (Fs' : List Fm) (kvs' : List (List Key × V)) (j : Nat), σ = [some v, some (.ref n), some (.ref o), some (.ref d), some (.ref wt), some (.ref a), some (.str (kd g)), some (.int (ys.length : Nat)), some (.ref t), w9, w10] ∧
          Bnd K H o d wt p2 xs.reverse (pre f).reverse H7 as' P' kvs' ids' ∧ H7 t = some (.tup [.str pt.1, .int pt.2.1, .int pt.2.2]) ∧ Good nm P' Fs' ∧ Dct kvs' P' ∧ Stk Fs' ids' S' ∧ valV kvs' (pkey pt) = some (.int (j : Nat)) ∧ Fs'[j]? = some g ∧ P'.length ≤ i + 1 ∧ kvs'.length ≤ i + 1 ∧
          (i + 1 < sz f → ∀ g ∈ Fs', sz g < sz f) ∧ (i + 1 = sz f → Fs'.getLast? = some f), ?_, ?_⟩
        · refine ⟨_, rfl, _, rfl, d, _, rfl, gd B6.d ht6, _, rfl, ?_⟩
          cases hval : valV kvs (pkey pt) with
          | some u =>
            refine iteF ?_
            obtain ⟨j, p', rfl, hj, hkey⟩ := hD _ _ hval
            cases pkey_inj hkey
            have hjl : j < Fs.length := by rw [← hG.len]; exact (List.getElem?_eq_some_iff.mp hj).1
            have hFj : Fs[j]? = some Fs[j] := List.getElem?_eq_getElem hjl
            have e := node_uniq (hG.nd j _ _ hFj hj) ((show Node nm Fs P.length g pt from hnd))
            rw [e] at hFj
            refine ⟨as, P, Fs, kvs, j, rfl, B6, ht6, hG, hD, hS6, hval, hFj, by omega, by omega, fun c => hlt hi, fun c => ?_⟩
            have hz2 := hlt hi g (List.mem_of_getElem? hFj)
            rcases hrow with ⟨_, z⟩ | ⟨z, _⟩
            · rw [z] at hz2
              exact absurd hz2 (Nat.lt_irrefl _)
            · omega
          | none =>
            refine iteT ?_
            have hol : as.length = P.length := pts_len B6.t
            refine ⟨_, rfl, o, _, rfl, .inl (.of B6.o), _, rfl, _, rfl, d, _, rfl, .t B6.d (by rw [← eqk]; exact ht6) (Nat.lt_of_le_of_lt (show kvs.length ≤ 1000 by omega) (by decide)), ?_⟩
            have hl2 : (as.map V.ref).length = P.length := by rw [List.length_map, hol]
            rw [hl2]
            have B7 := B6.setD D (putK kvs (pkey pt) (.int (P.length : Nat)))
            have ht7 := tup_mu (u' := .dT (putK kvs (pkey pt) (.int (P.length : Nat)))) B6.d trivial ht6
            refine ⟨_, rfl, .inl ⟨rfl, _, .of B7.o⟩, _, rfl, o, _, _, rfl, rfl, B7.o, by rw [hl2]; exact Nat.lt_of_le_of_lt (show P.length ≤ 1000 by omega) (by decide), ?_⟩
            have B8 := B7.setO D ht7
            have ht8 := tup_mu (u' := .lst ((as ++ [t]).map V.ref)) B7.o trivial ht7
            rw [show as.map V.ref ++ [V.ref t] = (as ++ [t]).map V.ref by rw [List.map_append]; rfl]
            refine ⟨as ++ [t], P ++ [pt], Fs ++ [g], _, P.length, rfl, B8, ht8, hG.snoc hnd, hD.up, hS6.up g, by rw [valV_put, if_pos rfl], by rw [hG.len]; simp, by rw [List.length_append]; exact Nat.add_le_add_right l1 1, ?_, fun c z hz => ?_, fun c => ?_⟩
            · exact Nat.le_trans (length_putK _ _ _) (Nat.add_le_add_right l2 1)
            · rcases List.mem_append.mp hz with h | h
              · exact hlt hi z h
              · rw [List.mem_singleton.mp h]
                rcases hrow with ⟨z, _⟩ | ⟨_, z⟩
                · omega
                · exact z
            · rcases hrow with ⟨_, z⟩ | ⟨z, _⟩
              · rw [z]
                simp
              · omega
        · rintro σ H7 ⟨as', P', Fs', kvs', j, rfl, B7, ht7, hG7, hD7, hS7, hv7, hF7, m1, m2, m3, m4⟩
          refine ⟨_, rfl, .inl ⟨rfl, _, .of B7.w⟩, _, rfl, _, rfl, d, _, rfl, by rw [← hv7]; exact gd B7.d ht7, wt, _, _, rfl, rfl, B7.w, by rw [List.length_map]; exact Nat.lt_of_le_of_lt (show ids'.length ≤ 1000 by omega) (by decide), ?_⟩
          rw [show ids'.map (fun i => V.int (i : Nat)) ++ [V.int (j : Nat)] = (ids' ++ [j]).map (fun i => V.int (i : Nat)) by rw [List.map_append]; rfl]
          exact ⟨as', P', Fs', kvs', g :: S', ids' ++ [j], _, _, _, _, _, _, rfl, B7.setW D _, hG7, hD7, hS7.push hF7, hV3, m1, m2, by rw [List.length_append]; exact Nat.add_le_add_right l6 1, m3, m4⟩
    · rintro σ H4 ⟨as, P, Fs, kvs, S, ids, v5, v6, v7, v8, v9, v10, rfl, B, hG, hD, hS, hV, l1, l2, l3, _, hend⟩
      exact ⟨_, rfl, q H4 o as P Fs B.s B.o B.t hG (hend hrl) (by omega)⟩
theorem or_bi (a b : Bool) : Builtin.bitOr (bi a) (bi b) = bi (a || b) := by cases a <;> cases b <;> rfl
theorem and_bi (a b : Bool) : Builtin.bitAnd (bi a) (bi b) = bi (a && b) := by cases a <;> cases b <;> rfl
theorem not_bi (a : Bool) : Builtin.bitXor 1 (bi a) = bi (!a) := by cases a <;> rfl
theorem xor_bi (a b : Bool) : Builtin.bitXor (bi (!a)) (bi b) = bi (a == b) := by cases a <;> cases b <;> rfl
theorem cal_pl (T : Txt K mg) : C8.Cal P w K mg base 1 "plain_truth" spPl [] := by
  obtain ⟨f, fd, F, hm, hb⟩ := T.h_plain_truth
  refine ⟨f, fd, _, [], F.ok sc_plain_truth (fun vs H Q E h => ?_) (fun cdv A outer s H vs Q E hr h => ?_), hm, F.kp, hb, .nil⟩
  · obtain ⟨k, a, b, rfl, _⟩ := h
    rfl
  · obtain ⟨k, a, b, rfl, q⟩ := h
    refine ⟨_, (pss_cons
      (ps_if (pt_cmpR op_eq (pv 0) pe_str (nomark _)) (pss_one
      (ps_ret (pe_op op_xor (pv 3) (pv 1)))) pss_nil)
      (pss_cons
      (ps_if (pt_cmpR op_eq (pv 0) pe_str (nomark _)) (pss_one
      (ps_ret (pe_op op_and (pv 1) (pv 2)))) pss_nil)
      (pss_cons
      (ps_if (pt_cmpR op_eq (pv 0) pe_str (nomark _)) (pss_one
      (ps_ret (pe_op op_or (pv 1) (pv 2)))) pss_nil)
      (pss_cons
      (ps_if (pt_cmpR op_eq (pv 0) pe_str (nomark _)) (pss_one
      (ps_ret (pe_op op_or (pe_op op_xor (pv 3) (pv 1)) (pv 2)))) pss_nil)
      (pss_cons
      (ps_if (pt_cmpR op_eq (pv 0) pe_str (nomark _)) (pss_one
      (ps_ret (pe_op op_xor (pe_op op_xor (pv 3) (pv 1)) (pv 2)))) pss_nil)
      (pss_one
      (ps_ret (pe_ifExp (pt_cmpR op_eq (pv 0) pe_str (nomark _)) (pv 3) pe_int)))))))), ?_⟩
    have st : ∀ {x : Str} {A B : Prop}, (k = x → A) → (k ≠ x → B) → if decide (V.str k = V.str x) = true then A else B := fun {x A B} h1 h2 => by
      by_cases c : k = x
      · rw [if_pos (by rw [c]; exact decide_eq_true rfl)]
        exact h1 c
      · rw [if_neg (by rw [decide_eq_false (fun z => c (V.str.inj z))]; exact Bool.false_ne_true)]
        exact h2 c
    have q0 := q H (Same.refl H)
    unfold plB at q0
    refine ⟨_, rfl, rfl, _, rfl, st (fun c => ?_) (fun c1 => ?_)⟩
    · rw [if_pos c, ← not_bi] at q0
      exact ⟨_, rfl, _, rfl, _, _, rfl, rfl, q0⟩
    rw [if_neg c1] at q0
    refine ⟨_, rfl, rfl, _, rfl, st (fun c => ?_) (fun c2 => ?_)⟩
    · rw [if_pos c, ← and_bi] at q0
      exact ⟨_, rfl, _, rfl, _, _, rfl, rfl, q0⟩
    rw [if_neg c2] at q0
    refine ⟨_, rfl, rfl, _, rfl, st (fun c => ?_) (fun c3 => ?_)⟩
    · rw [if_pos c, ← or_bi] at q0
      exact ⟨_, rfl, _, rfl, _, _, rfl, rfl, q0⟩
    rw [if_neg c3] at q0
    refine ⟨_, rfl, rfl, _, rfl, st (fun c => ?_) (fun c4 => ?_)⟩
    · rw [if_pos c, ← or_bi, ← not_bi] at q0
      exact ⟨_, rfl, _, rfl, _, _, rfl, rfl, _, rfl, _, _, rfl, rfl, q0⟩
    rw [if_neg c4] at q0
    refine ⟨_, rfl, rfl, _, rfl, st (fun c => ?_) (fun c5 => ?_)⟩
    · rw [if_pos c, ← xor_bi, ← not_bi] at q0
      exact ⟨_, rfl, _, rfl, _, _, rfl, rfl, _, rfl, _, _, rfl, rfl, q0⟩
    rw [if_neg c5] at q0
    refine ⟨_, rfl, rfl, _, rfl, st (fun c => ?_) (fun c6 => ?_)⟩
    · rw [decide_eq_true c] at q0
      exact ⟨_, rfl, q0⟩
    · rw [decide_eq_false c6] at q0
      exact q0
theorem cal_tof (T : Txt K mg) : C8.Cal P w K mg base 2 "truth_of" spTof [] := by
  have C_plain_truth : C8.Cal P w K mg base 1 "plain_truth" spPl [] := cal_pl T
  obtain ⟨aF, aP, aS, aB, gF, gP, gS, gB⟩ := glo T
  obtain ⟨f, fd, F, hm, hb⟩ := T.h_truth_of
  refine ⟨f, fd, _, [], F.ok sc_truth_of (fun vs H Q E h => ?_) (fun cdv A outer s H vs Q E hr h => ?_), hm, F.kp, hb, .nil⟩
  · obtain ⟨k, a, b, c, rfl, _⟩ := h
    rfl
  · obtain ⟨k, a, b, c, rfl, q⟩ := h
    refine ⟨_, (pss_cons
      (ps_if (pt_cmpR (op_inK (K := K) rfl) (pv 0) (pe_glob (v := .ref aS) (by rfl) gS.g rfl) (by rfl)) (pss_one
      (ps_ret (pv 3))) pss_nil)
      (pss_cons
      (ps_if (pt_cmpR (op_inK (K := K) rfl) (pv 0) (pe_tup (pa_cons pe_str (pa_cons pe_str pa_nil))) (by rfl)) (pss_one
      (ps_ret (pe_op op_or (pv 1) (pv 3)))) pss_nil)
      (pss_cons
      (ps_if (pt_cmpR (op_inK (K := K) rfl) (pv 0) (pe_tup (pa_cons pe_str (pa_cons pe_str pa_nil))) (by rfl)) (pss_one
      (ps_ret (pe_op op_and (pv 1) (pv 3)))) pss_nil)
      (pss_cons
      (ps_if (pt_cmpR (op_inK (K := K) rfl) (pv 0) (pe_tup (pa_cons pe_str (pa_cons pe_str pa_nil))) (by rfl)) (pss_one
      (ps_ret (pe_op op_and (pv 2) (pe_op op_or (pv 1) (pv 3))))) pss_nil)
      (pss_cons
      (ps_if (pt_cmpR (op_inK (K := K) rfl) (pv 0) (pe_tup (pa_cons pe_str (pa_cons pe_str (pa_cons pe_str pa_nil)))) (by rfl)) (pss_one
      (ps_ret (pe_op op_or (pv 2) (pe_op op_and (pv 1) (pv 3))))) pss_nil)
      (pss_one
      (ps_ret (C8.pe_c C_plain_truth hr (by decide) (by rfl) (pa_cons (pv 0) (pa_cons (pv 1) (pa_cons (pv 2) (pa_cons (pv 4) pa_nil)))))))))))), ?_⟩
    unfold tofB at q
    refine ⟨_, rfl, ?_⟩
    unfold L2.tC
    show rIn K false (.str k) (.ref aS) H _
    refine inq (gS.q H) ⟨_, rfl, ite2 (fun e => ?_) (fun e1 => ?_)⟩
    · rw [if_pos (of_decide_eq_true e)] at q
      exact ⟨_, rfl, q H (Same.refl H)⟩
    rw [if_neg (fun z => e1 (decide_eq_true z))] at q
    refine ⟨_, rfl, by show 2 ≤ sizeLine; decide, fun t1 n1 => inq (ss := ["eventually", "once"]) (.of upd_same) ⟨_, rfl, ite2 (fun e => ?_) (fun e2 => ?_)⟩⟩
    · rw [if_pos (of_decide_eq_true e), ← or_bi] at q
      exact ⟨_, rfl, _, rfl, _, _, rfl, rfl, q _ (same_new n1)⟩
    rw [if_neg (fun z => e2 (decide_eq_true z))] at q
    refine ⟨_, rfl, by show 2 ≤ sizeLine; decide, fun t2 n2 => inq (ss := ["always", "historically"]) (.of upd_same) ⟨_, rfl, ite2 (fun e => ?_) (fun e3 => ?_)⟩⟩
    · rw [if_pos (of_decide_eq_true e), ← and_bi] at q
      exact ⟨_, rfl, _, rfl, _, _, rfl, rfl, q _ ((same_new n1).trans (same_new n2))⟩
    rw [if_neg (fun z => e3 (decide_eq_true z))] at q
    refine ⟨_, rfl, by show 2 ≤ sizeLine; decide, fun t3 n3 => inq (ss := ["release", "trigger"]) (.of upd_same) ⟨_, rfl, ite2 (fun e => ?_) (fun e4 => ?_)⟩⟩
    · rw [if_pos (of_decide_eq_true e), ← and_bi, ← or_bi] at q
      exact ⟨_, rfl, _, rfl, _, rfl, _, _, rfl, rfl, _, _, rfl, rfl, q _ (((same_new n1).trans (same_new n2)).trans (same_new n3))⟩
    rw [if_neg (fun z => e4 (decide_eq_true z))] at q
    refine ⟨_, rfl, by show 3 ≤ sizeLine; decide, fun t4 n4 => inq (ss := ["until", "weak_until", "since"]) (.of upd_same) ⟨_, rfl, ite2 (fun e => ?_) (fun e5 => ?_)⟩⟩
    · rw [if_pos (of_decide_eq_true e), ← or_bi, ← and_bi] at q
      exact ⟨_, rfl, _, rfl, _, rfl, _, _, rfl, rfl, _, _, rfl, rfl, q _ ((((same_new n1).trans (same_new n2)).trans (same_new n3)).trans (same_new n4))⟩
    rw [if_neg (fun z => e5 (decide_eq_true z))] at q
    exact ⟨_, rfl, _, rfl, _, rfl, _, rfl, k, a, b, rfl, fun H' s' => q H' (((((same_new n1).trans (same_new n2)).trans (same_new n3)).trans (same_new n4)).trans s')⟩
theorem arr_get {N t : Nat} {s : Nat → Bool} (h : t < N) : ((List.range N).map fun t => V.int (bi (s t)))[t]? = some (.int (bi (s t))) := by
  rw [List.getElem?_map, List.getElem?_range h]
  rfl
theorem arr_inv {N t : Nat} {s : Nat → Bool} {x : V} (h : ((List.range N).map fun t => V.int (bi (s t)))[t]? = some x) : t < N ∧ x = .int (bi (s t)) := by
  have hl := (List.getElem?_eq_some_iff.mp h).1
  rw [List.length_map, List.length_range] at hl
  rw [arr_get hl] at h
  exact ⟨hl, (Option.some.inj h).symm⟩
theorem arr_len {N : Nat} {s : Nat → Bool} : ((List.range N).map fun t => V.int (bi (s t))).length = N := by rw [List.length_map, List.length_range]
theorem arr_snoc {N : Nat} {s : Nat → Bool} : ((List.range N).map fun t => V.int (bi (s t))) ++ [.int (bi (s N))] = (List.range (N + 1)).map fun t => V.int (bi (s t)) := by
  rw [List.range_succ, List.map_append]
  rfl
theorem arr_set {N i : Nat} {s : Nat → Bool} {c : Bool} : ((List.range N).map fun t => V.int (bi (s t))).set i (.int (bi c)) = (List.range N).map fun t => V.int (bi (if t = i then c else s t)) := by
  apply List.ext_getElem?
  intro j
  rw [List.getElem?_set]
  by_cases h : i = j
  · subst h
    rw [if_pos rfl, arr_len]
    by_cases hl : i < N
    · rw [if_pos hl, arr_get hl, if_pos rfl]
    · rw [if_neg hl, List.getElem?_eq_none (by rw [arr_len]; omega)]
  · rw [if_neg h, List.getElem?_map, List.getElem?_map]
    by_cases hl : j < N
    · rw [List.getElem?_range hl]
      simp [show ¬ j = i from fun z => h z.symm]
    · rw [List.getElem?_eq_none (by rw [List.length_range]; omega)]
      rfl
theorem arr_zero {N : Nat} : ((List.replicate N [V.int 0]).flatten) = (List.range N).map fun t => V.int (bi ((fun _ => false) t)) := by
  induction N with
  | zero => rfl
  | succ n ih =>
    rw [List.replicate_succ', List.flatten_append, ih, List.range_succ, List.map_append]
    rfl
theorem cal_past (T : Txt K mg) : C8.Cal P w K mg base 3 "past_values" spPast [] := by
  have C_truth_of : C8.Cal P w K mg base 2 "truth_of" spTof [] := cal_tof T
  obtain ⟨aF, aP, aS, aB, gF, gP, gS, gB⟩ := glo T
  obtain ⟨f, fd, F, hm, hb⟩ := T.h_past_values
  refine ⟨f, fd, _, [], F.ok sc_past_values (fun vs H Q E h => ?_) (fun cdv A outer s H vs Q E hr h => ?_), hm, F.kp, hb, .nil⟩
  · obtain ⟨k, l, r, N, a, b, rfl, _⟩ := h
    rfl
  · obtain ⟨k, l, r, N, a, b, rfl, hk, hl, hr', hN, q⟩ := h
    refine ⟨_, (pss_cons
      (ps_set (i := 3) sc_past_values.nd rfl (Or.inl rfl) (pe_lst pa_nil))
      (C8.pss_cut
      (ps_set (i := 4) sc_past_values.nd rfl (Or.inl rfl) (pe_ifExp (pt_cmpR (op_inK (K := K) rfl) (pv 0) (pe_glob (v := .ref aB) (by rfl) gB.g rfl) (by rfl)) pe_int pe_int))
      (pss_cons
      (ps_for PassesOwn.never rfl (pi_zip (by rfl) T.z_zip (pa_cons (pv 1) (pa_cons (pv 2) pa_nil))) (pg_tup (by rfl) (pgs_cons (pg_name (i := 5) sc_past_values.nd rfl (.inl rfl)) (pgs_cons (pg_name (i := 6) sc_past_values.nd rfl (.inl rfl)) pgs_nil))) (pss_cons
      (ps_set (i := 7) sc_past_values.nd rfl (Or.inl rfl) (C8.pe_c C_truth_of hr (by decide) (by rfl) (pa_cons (pv 0) (pa_cons (pv 5) (pa_cons (pv 6) (pa_cons (pv 4) (pa_cons pe_int pa_nil)))))))
      (pss_cons
      (ps_expr (pe_bm PySem.F.plainAttrs_list PySem.F.slot_list_append PySem.F.type_list_append mt_append (pv 3) (pa_cons (pv 7) pa_nil)))
      (pss_one
      (ps_set (i := 4) sc_past_values.nd rfl (Or.inl rfl) (pe_ifExp (pt_cmpR (op_inK (K := K) rfl) (pv 0) (pe_glob (v := .ref aS) (by rfl) gS.g rfl) (by rfl)) (pv 5) (pv 7)))))))
      (pss_one
      (ps_ret (pv 3)))))), ?_⟩
    refine ⟨by show 0 ≤ sizeLine; decide, fun o ho => ?_⟩
    refine ⟨fun σ H2 => σ = [some (.str k), some (.ref l), some (.ref r), some (.ref o), some (.int (bi (ini k))), none, none, none] ∧ H2 = upd H o (.lst []), ?_, ?_⟩
    · refine ⟨_, rfl, ?_⟩
      unfold L2.tC
      show rIn K false (.str k) (.ref aB) _ _
      refine inq (gB.q _) ⟨_, rfl, ite2 (fun e => ?_) (fun e => ?_)⟩
      · have e2 : ini k = true := e
        rw [e2]
        exact ⟨rfl, rfl⟩
      · have e2 : ini k = false := Bool.eq_false_iff.mpr e
        rw [e2]
        exact ⟨rfl, rfl⟩
    · rintro σ H2 ⟨rfl, rfl⟩
      have s0 : Same H (upd H o (.lst [])) := same_new ho
      refine ⟨_, rfl, _, rfl, l, r, _, _, rfl, .of (s0 _ _ hl), .of (s0 _ _ hr'), RZ.for_zipL (by rw [arr_len, arr_len]) (fun i σ H3 => ∃ (v5 v6 v7 : Option V), σ = [some (.str k), some (.ref l), some (.ref r), some (.ref o), some (.int (bi (carP k a b i))), v5, v6, v7] ∧ Same H H3 ∧
          H3 o = some (.lst ((List.range i).map fun t => V.int (bi (sq k a b t)))))
        ⟨none, none, none, rfl, s0, upd_same⟩ (fun i σ H3 ⟨_, _, _, _, s3, _⟩ => ⟨.of (s3 _ _ hl), .of (s3 _ _ hr')⟩) ?_ ?_⟩
      · rintro i x y t σ H3 hx hy ⟨v5, v6, v7, rfl, s3, e3⟩ ht
        obtain ⟨hi, rfl⟩ := arr_inv hx
        obtain ⟨_, rfl⟩ := arr_inv hy
        refine ⟨t, _, rfl, .of upd_same, rfl, _, _, rfl, _, _, rfl, rfl, ?_⟩
        have s4 : Same H3 (upd H3 t (.tup [.int (bi (a i)), .int (bi (b i))])) := same_new ht
        refine ⟨_, rfl, _, rfl, _, rfl, _, rfl, k, a i, b i, carP k a b i, rfl, fun H5 s5 => ?_⟩
        have e5 := (s4.trans s5) _ _ e3
        refine ⟨_, rfl, .inl ⟨rfl, _, .of e5⟩, _, rfl, o, _, _, rfl, rfl, e5, by rw [arr_len]; exact Nat.lt_of_le_of_lt (show i ≤ 1000000 by omega) (by decide), ?_⟩
        rw [← sq_past hk, arr_snoc]
        have s6 : Same H (upd H5 o (.lst ((List.range (i + 1)).map fun t => V.int (bi (sq k a b t))))) := fun c u hc => by
          rw [upd_ne (ne_of_none hc ho)]
          exact s5 _ _ (s4 _ _ (s3 _ _ hc))
        refine ⟨_, rfl, ?_⟩
        unfold L2.tC
        show rIn K false (.str k) (.ref aS) _ _
        refine inq (gS.q _) ⟨_, rfl, ite2 (fun e => ?_) (fun e => ?_)⟩
        · have ec := carP_next hk a b i
          rw [if_pos (of_decide_eq_true e)] at ec
          refine ⟨_, rfl, some (.int (bi (a i))), some (.int (bi (b i))), some (.int (bi (sq k a b i))), ?_, s6, upd_same⟩
          rw [ec]
          rfl
        · have ec := carP_next hk a b i
          rw [if_neg (fun z => e (decide_eq_true z))] at ec
          refine ⟨_, rfl, some (.int (bi (a i))), some (.int (bi (b i))), some (.int (bi (sq k a b i))), ?_, s6, upd_same⟩
          rw [ec]
          rfl
      · rintro σ H3 ⟨v5, v6, v7, rfl, s3, e3⟩
        rw [arr_len] at e3
        exact ⟨_, rfl, q H3 o s3 e3⟩
theorem turns_at {m L j : Nat} (h : j < m + L + L) : ((rgV 0 ((m + L : Nat) : Int) ++ rgV (m : Int) ((m + L : Nat) : Int)).reverse)[j]? = some (.int (((if j < L then m + L - 1 - j else m + L - 1 - (j - L) : Nat)) : Int)) := by
  have l1 : (rgV 0 ((m + L : Nat) : Int)).length = m + L := by rw [rgV_length]; omega
  have l2 : (rgV (m : Int) ((m + L : Nat) : Int)).length = L := by rw [rgV_length]; omega
  rw [List.reverse_append]
  by_cases c : j < L
  · rw [if_pos c, List.getElem?_append_left (by rw [List.length_reverse, l2]; exact c), List.getElem?_reverse (by rw [l2]; exact c), l2]
    unfold rgV
    rw [List.getElem?_map, List.getElem?_range (by omega)]
    show some (V.int ((m : Int) + ((L - 1 - j : Nat) : Int))) = _
    congr 2
    omega
  · rw [if_neg c, List.getElem?_append_right (by rw [List.length_reverse, l2]; omega), List.length_reverse, l2, List.getElem?_reverse (by rw [l1]; omega), l1]
    unfold rgV
    rw [List.getElem?_map, List.getElem?_range (by omega)]
    show some (V.int ((0 : Int) + ((m + L - 1 - (j - L) : Nat) : Int))) = _
    congr 2
    omega
theorem cal_fut (T : Txt K mg) : C8.Cal P w K mg base 3 "future_values" spFut [] := by
  have C_truth_of : C8.Cal P w K mg base 2 "truth_of" spTof [] := cal_tof T
  obtain ⟨aF, aP, aS, aB, gF, gP, gS, gB⟩ := glo T
  obtain ⟨f, fd, F, hm, hb⟩ := T.h_future_values
  refine ⟨f, fd, _, [], F.ok sc_future_values (fun vs H Q E h => ?_) (fun cdv A outer s H vs Q E hr h => ?_), hm, F.kp, hb, .nil⟩
  · obtain ⟨k, l, r, m, L, a, b, rfl, _⟩ := h
    rfl
  · obtain ⟨k, l, r, m, L, a, b, rfl, hnp, hk, hL, pa, pb, hl, hr', hN, q⟩ := h
    have big : m + L ≤ sizeLine := Nat.le_trans hN (by decide)
    refine ⟨_, (pss_cons
      (ps_set (i := 4) sc_future_values.nd rfl (Or.inl rfl) (pe_op op_rep (pe_lst (pa_cons pe_int pa_nil)) (pe_callB (call_lenK (K := K) rfl) (by rfl) T.z_len PySem.boot_len (pa_cons (pv 1) pa_nil))))
      (C8.pss_cut
      (ps_set (i := 5) sc_future_values.nd rfl (Or.inl rfl) (pe_ifExp (pt_cmpR (op_inK (K := K) rfl) (pv 0) (pe_glob (v := .ref aB) (by rfl) gB.g rfl) (by rfl)) pe_int pe_int))
      (pss_cons
      (ps_set (i := 6) sc_future_values.nd rfl (Or.inl rfl) (pe_op op_cat (pe_listRg rfl (by rfl) T.z_list (prg_1 (by rfl) T.z_range (pe_callB (call_lenK (K := K) rfl) (by rfl) T.z_len PySem.boot_len (pa_cons (pv 1) pa_nil)))) (pe_listRg rfl (by rfl) T.z_list (prg_2 (by rfl) T.z_range (pv 3) (pe_callB (call_lenK (K := K) rfl) (by rfl) T.z_len PySem.boot_len (pa_cons (pv 1) pa_nil))))))
      (pss_cons
      (ps_for PassesOwn.never rfl (pi_list (pe_revLK (K := K) rfl (pv 6))) (pg_name (i := 7) sc_future_values.nd rfl (.inl rfl)) (pss_cons
      (ps_asg (C8.pe_c C_truth_of hr (by decide) (by rfl) (pa_cons (pv 0) (pa_cons (pe_ix (ix_listK (K := K) rfl) (pv 1) (pv 7) (fun _ _ => rfl)) (pa_cons (pe_ix (ix_listK (K := K) rfl) (pv 2) (pv 7) (fun _ _ => rfl)) (pa_cons (pv 5) (pa_cons pe_int pa_nil)))))) (pg_sub (pv 4) (pv 7) set_list))
      (pss_one
      (ps_set (i := 5) sc_future_values.nd rfl (Or.inl rfl) (pe_ifExp (pt_cmpR (op_inK (K := K) rfl) (pv 0) (pe_glob (v := .ref aS) (by rfl) gS.g rfl) (by rfl)) (pe_ix (ix_listK (K := K) rfl) (pv 1) (pv 7) (fun _ _ => rfl)) (pe_ix (ix_listK (K := K) rfl) (pv 4) (pv 7) (fun _ _ => rfl)))))))
      (pss_one
      (ps_ret (pv 4))))))), ?_⟩
    refine ⟨by show 1 ≤ sizeLine; decide, fun p1 n1 => ?_⟩
    have s1 : Same H (upd H p1 (.lst [.int 0])) := same_new n1
    refine ⟨_, rfl, l, _, rfl, .inl (.of (s1 _ _ hl)), p1, _, _, rfl, rfl, upd_same, by rw [arr_len]; omega, by rw [arr_len]; omega, by rw [arr_len]; show 1 * ((m + L : Nat) : Int).toNat ≤ sizeLine; omega, fun o ho => ?_⟩
    rw [arr_len, Int.toNat_natCast, arr_zero]
    have s2 := s1.trans (same_new (o := .lst ((List.range (m + L)).map fun t => V.int (bi ((fun _ => false) t)))) ho)
    have e2 : (upd (upd H p1 (.lst [.int 0])) o (.lst ((List.range (m + L)).map fun t => V.int (bi ((fun _ => false) t))))) o = some (.lst ((List.range (m + L)).map fun t => V.int (bi ((fun _ => false) t)))) := upd_same
    have ho1 := s1.free ho
    generalize upd (upd H p1 (.lst [.int 0])) o (.lst ((List.range (m + L)).map fun t => V.int (bi ((fun _ => false) t)))) = H2 at s2 e2 ⊢
    refine ⟨fun σ H3 => σ = [some (.str k), some (.ref l), some (.ref r), some (.int (m : Int)), some (.ref o), some (.int (bi (ini k))), none, none] ∧ H3 = H2, ?_, ?_⟩
    · refine ⟨_, rfl, ?_⟩
      unfold L2.tC
      show rIn K false (.str k) (.ref aB) _ _
      refine inq (gB.q _) ⟨_, rfl, ite2 (fun e => ?_) (fun e => ?_)⟩
      · have e2 : ini k = true := e
        rw [e2]
        exact ⟨rfl, rfl⟩
      · have e2 : ini k = false := Bool.eq_false_iff.mpr e
        rw [e2]
        exact ⟨rfl, rfl⟩
    · rintro σ H3 ⟨rfl, rfl⟩
      refine ⟨_, rfl, l, _, rfl, .inl (.of (s2 _ _ hl)), _, rfl, ⟨by decide, by decide, by rw [arr_len]; omega, by rw [arr_len]; omega, by rw [arr_len]; omega⟩, fun p2 n2 => ?_⟩
      rw [arr_len]
      have s3 := s2.trans (same_new (o := .lst (rgV 0 ((m + L : Nat) : Int))) n2)
      have g2 : (upd H3 p2 (.lst (rgV 0 ((m + L : Nat) : Int)))) p2 = _ := upd_same
      have g1 := same_new (o := .lst (rgV 0 ((m + L : Nat) : Int))) n2 _ _ e2
      generalize upd H3 p2 (.lst (rgV 0 ((m + L : Nat) : Int))) = H4 at s3 g1 g2 ⊢
      refine ⟨_, rfl, _, rfl, l, _, rfl, .inl (.of (s3 _ _ hl)), _, _, rfl, rfl, ⟨by omega, by omega, by rw [arr_len]; omega, by rw [arr_len]; omega, by rw [arr_len]; omega⟩, fun p3 n3 => ?_⟩
      rw [arr_len]
      have s4 := s3.trans (same_new (o := .lst (rgV (m : Int) ((m + L : Nat) : Int))) n3)
      have g3 : (upd H4 p3 (.lst (rgV (m : Int) ((m + L : Nat) : Int)))) p3 = _ := upd_same
      have g4 := same_new (o := .lst (rgV (m : Int) ((m + L : Nat) : Int))) n3 _ _ g2
      have g5 := same_new (o := .lst (rgV (m : Int) ((m + L : Nat) : Int))) n3 _ _ g1
      generalize upd H4 p3 (.lst (rgV (m : Int) ((m + L : Nat) : Int))) = H5 at s4 g3 g4 g5 ⊢
      have ll : (rgV 0 ((m + L : Nat) : Int) ++ rgV (m : Int) ((m + L : Nat) : Int)).length = m + L + L := by
        rw [List.length_append, rgV_length, rgV_length]
        omega
      refine ⟨p2, p3, _, _, rfl, rfl, g4, g3, ?_, fun p4 n4 => ?_⟩
      · rw [← List.length_append, ll]
        exact Nat.le_trans (show m + L + L ≤ 2000000 by omega) (by decide)
      have s5 := s4.trans (same_new (o := .lst (rgV 0 ((m + L : Nat) : Int) ++ rgV (m : Int) ((m + L : Nat) : Int))) n4)
      have g6 : (upd H5 p4 (.lst (rgV 0 ((m + L : Nat) : Int) ++ rgV (m : Int) ((m + L : Nat) : Int)))) p4 = _ := upd_same
      have g7 := same_new (o := .lst (rgV 0 ((m + L : Nat) : Int) ++ rgV (m : Int) ((m + L : Nat) : Int))) n4 _ _ g5
      generalize upd H5 p4 (.lst (rgV 0 ((m + L : Nat) : Int) ++ rgV (m : Int) ((m + L : Nat) : Int))) = H6 at s5 g6 g7 ⊢
      refine ⟨_, rfl, p4, _, rfl, .of g6, fun p5 n5 => ?_⟩
      have s6 := s5.trans (same_new (o := .lst (rgV 0 ((m + L : Nat) : Int) ++ rgV (m : Int) ((m + L : Nat) : Int)).reverse) n5)
      have g8 : (upd H6 p5 (.lst (rgV 0 ((m + L : Nat) : Int) ++ rgV (m : Int) ((m + L : Nat) : Int)).reverse)) p5 = _ := upd_same
      have g9 := same_new (o := .lst (rgV 0 ((m + L : Nat) : Int) ++ rgV (m : Int) ((m + L : Nat) : Int)).reverse) n5 _ _ g7
      have hpo : p5 ≠ o := fun z => by rw [z, g7] at n5; cases n5
      generalize upd H6 p5 (.lst (rgV 0 ((m + L : Nat) : Int) ++ rgV (m : Int) ((m + L : Nat) : Int)).reverse) = H7 at s6 g8 g9 ⊢
      have lr : (rgV 0 ((m + L : Nat) : Int) ++ rgV (m : Int) ((m + L : Nat) : Int)).reverse.length = m + L + L := by rw [List.length_reverse, ll]
      refine ⟨p5, rfl, ⟨_, .of g8⟩, for_list (xs := (rgV 0 ((m + L : Nat) : Int) ++ rgV (m : Int) ((m + L : Nat) : Int)).reverse) (fun j σ H8 => ∃ (c : Bool) (vs : Nat → Bool) (v7 : Option V),
          σ = [some (.str k), some (.ref l), some (.ref r), some (.int (m : Int)), some (.ref o), some (.int (bi c)), some (.ref p4), v7] ∧ Same H H8 ∧ H8 p5 = some (.lst (rgV 0 ((m + L : Nat) : Int) ++ rgV (m : Int) ((m + L : Nat) : Int)).reverse) ∧ Arr H8 o (m + L) vs ∧
          (j ≤ L → c = rndF k a b (m + L) j) ∧ (L ≤ j → c = carF k a b (m + L - (j - L)) ∧ ∀ t, m + L - (j - L) ≤ t → t < m + L → vs t = sq k a b t))
        ⟨ini k, fun _ => false, none, rfl, s6, g8, g9, fun _ => rfl, fun z => absurd z (by omega)⟩ (fun j σ H8 _ ⟨_, _, _, _, _, e, _⟩ => .of e) ?_ ?_⟩
      · rintro j x σ H8 hx ⟨c, vs, v7, rfl, s8, e5, eo, h1, h2⟩
        have hj : j < m + L + L := by
          have := (List.getElem?_eq_some_iff.mp hx).1
          rw [lr] at this
          exact this
        rw [turns_at hj] at hx
        cases hx
        generalize ht : (if j < L then m + L - 1 - j else m + L - 1 - (j - L) : Nat) = t
        have htl : t < m + L := by
          rw [← ht]
          split <;> omega
        refine ⟨_, rfl, _, rfl, _, rfl, l, _, _, .int (bi (a t)), rfl, rfl, .of (s8 _ _ hl), atI_nat (arr_get htl), ?_⟩
        refine ⟨_, rfl, _, rfl, r, _, _, .int (bi (b t)), rfl, rfl, .of (s8 _ _ hr'), atI_nat (arr_get htl), ?_⟩
        refine ⟨_, rfl, k, a t, b t, c, rfl, fun H9 s9 => ?_⟩
        have eo9 := s9 _ _ eo
        refine ⟨_, rfl, _, rfl, o, _, _, t, rfl, rfl, eo9, ixN_at (by rw [arr_len]; exact htl), ?_⟩
        rw [arr_set]
        have sA : Same H (upd H9 o (.lst ((List.range (m + L)).map fun u => V.int (bi (if u = t then tofB k (a t) (b t) c else vs u))))) := fun x u hc => by
          rw [upd_ne (ne_of_none hc ho1)]
          exact s9 _ _ (s8 _ _ hc)
        have eA : Arr (upd H9 o (.lst ((List.range (m + L)).map fun u => V.int (bi (if u = t then tofB k (a t) (b t) c else vs u))))) o (m + L) (fun u => if u = t then tofB k (a t) (b t) c else vs u) := upd_same
        have e5A : (upd H9 o (.lst ((List.range (m + L)).map fun u => V.int (bi (if u = t then tofB k (a t) (b t) c else vs u))))) p5 = some (.lst (rgV 0 ((m + L : Nat) : Int) ++ rgV (m : Int) ((m + L : Nat) : Int)).reverse) := by
          rw [upd_ne hpo]
          exact s9 _ _ e5
        have c1 : j + 1 ≤ L → (if k ∈ steps then a t else tofB k (a t) (b t) c) = rndF k a b (m + L) (j + 1) := fun z => by
          have et : t = m + L - (j + 1) := by rw [← ht, if_pos (by omega)]; omega
          rw [h1 (by omega), et]
          rfl
        have c2 : L ≤ j → tofB k (a t) (b t) c = sq k a b t ∧ (if k ∈ steps then a t else sq k a b t) = carF k a b t ∧ t + 1 = m + L - (j - L) := fun z => by
          have et : t + 1 = m + L - (j - L) := by rw [← ht, if_neg (by omega)]; omega
          rw [(h2 z).1, ← et, sq_fut hnp hk]
          exact ⟨rfl, by rw [← sq_fut hnp hk, carF_sq hnp hk], rfl⟩
        have fin : ∀ c', c' = (if k ∈ steps then a t else tofB k (a t) (b t) c) → (j + 1 ≤ L → c' = rndF k a b (m + L) (j + 1)) ∧ (L ≤ j + 1 → c' = carF k a b (m + L - (j + 1 - L)) ∧ ∀ u, m + L - (j + 1 - L) ≤ u → u < m + L → (if u = t then tofB k (a t) (b t) c else vs u) = sq k a b u) := fun c' ec => by
          refine ⟨fun z => ec.trans (c1 z), fun z => ?_⟩
          rcases Nat.lt_or_ge j L with y | y
          · have ej : j + 1 = L := by omega
            refine ⟨?_, fun u hu1 hu2 => absurd hu1 (by omega)⟩
            rw [ec, c1 (by omega), ej, Nat.sub_self, Nat.sub_zero]
            exact rndF_end hL pa pb
          · obtain ⟨d1, d2, d3⟩ := c2 y
            have e3 : m + L - (j + 1 - L) = t := by omega
            rw [e3]
            refine ⟨by rw [ec, d1, d2], fun u hu1 hu2 => ?_⟩
            by_cases hu : u = t
            · rw [if_pos hu, hu, d1]
            · rw [if_neg hu]
              exact (h2 y).2 u (by omega) hu2
        refine ⟨_, rfl, ?_⟩
        unfold L2.tC
        show rIn K false (.str k) (.ref aS) _ _
        refine inq (gS.q _) ⟨_, rfl, ite2 (fun e => ?_) (fun e => ?_)⟩
        · refine ⟨_, rfl, _, rfl, l, _, _, .int (bi (a t)), rfl, rfl, .of (sA _ _ hl), atI_nat (arr_get htl), ?_⟩
          obtain ⟨f1, f2⟩ := fin (a t) (by rw [if_pos (of_decide_eq_true e)])
          exact ⟨a t, _, _, rfl, sA, e5A, eA, f1, f2⟩
        · refine ⟨_, rfl, _, rfl, o, _, _, .int (bi (tofB k (a t) (b t) c)), rfl, rfl, .of eA, atI_nat (by rw [arr_get htl, if_pos rfl]), ?_⟩
          obtain ⟨f1, f2⟩ := fin (tofB k (a t) (b t) c) (by rw [if_neg (fun z => e (decide_eq_true z))])
          exact ⟨_, _, _, rfl, sA, e5A, eA, f1, f2⟩
      · rintro σ H8 ⟨c, vs, v7, rfl, s8, e5, eo, _, h2⟩
        rw [lr] at h2
        have h3 := (h2 (by omega)).2
        refine ⟨_, rfl, q H8 o s8 ?_⟩
        unfold Arr at eo ⊢
        rw [eo]
        congr 2
        apply List.map_congr_left
        intro t ht
        rw [h3 t (by omega) (List.mem_range.mp ht)]
theorem refs_get {as : List Addr} {i : Nat} {v : V} (h : (as.map V.ref)[i]? = some v) : ∃ a, as[i]? = some a ∧ v = .ref a := by
  rw [List.getElem?_map] at h
  cases e : as[i]? with
  | none => rw [e] at h; cases h
  | some a => rw [e] at h; exact ⟨a, rfl, (Option.some.inj h).symm⟩
theorem arrs_len {H : Hp} {N : Nat} : ∀ {fs : List Addr} {ss : List (Nat → Bool)}, ArrsAt H N fs ss → fs.length = ss.length
  | [], [], _ => rfl
  | _ :: _, _ :: _, h => congrArg (· + 1) (arrs_len h.2)
theorem arrs_same {H H' : Hp} {N : Nat} (e : Same H H') : ∀ {fs : List Addr} {ss : List (Nat → Bool)}, ArrsAt H N fs ss → ArrsAt H' N fs ss
  | [], [], _ => trivial
  | _ :: _, _ :: _, h => ⟨e _ _ h.1, arrs_same e h.2⟩
theorem arrs_kp {H H' : Hp} {N : Nat} {o : Addr} (e : Kp o H H') : ∀ {fs : List Addr} {ss : List (Nat → Bool)}, o ∉ fs → ArrsAt H N fs ss → ArrsAt H' N fs ss
  | [], [], _, _ => trivial
  | a :: _, _ :: _, n, h => ⟨e _ _ (fun z => n (by rw [z]; exact List.mem_cons_self)) h.1, arrs_kp e (fun z => n (List.mem_cons_of_mem _ z)) h.2⟩
theorem arrs_snoc {H : Hp} {N : Nat} {a : Addr} {s : Nat → Bool} (ha : Arr H a N s) : ∀ {fs : List Addr} {ss : List (Nat → Bool)}, ArrsAt H N fs ss → ArrsAt H N (fs ++ [a]) (ss ++ [s])
  | [], [], _ => ⟨ha, trivial⟩
  | _ :: _, _ :: _, h => ⟨h.1, arrs_snoc ha h.2⟩
theorem arrs_get {H : Hp} {N : Nat} : ∀ {fs : List Addr} {ss : List (Nat → Bool)} {i : Nat} {s : Nat → Bool}, ArrsAt H N fs ss → ss[i]? = some s → ∃ a, fs[i]? = some a ∧ Arr H a N s
  | [], [], _, _, _, e => by simp at e
  | a :: _, s :: _, 0, _, h, e => ⟨a, rfl, by cases e; exact h.1⟩
  | _ :: fs, _ :: ss, i + 1, _, h, e => by
    rw [List.getElem?_cons_succ] at e ⊢
    exact arrs_get h.2 e
/-- an operand of a part: none, or an earlier part -/
def Opd (nm : List Str) (x : Nat → Int) (Fs : List Fm) (k : Nat) (z : Int) (a : Nat → Bool) : Prop := (z = -1 ∧ a = fun _ => false) ∨ ∃ i g, i < k ∧ z = ((i : Nat) : Int) ∧ Fs[i]? = some g ∧ a = sem nm x g
theorem node_ops {nm : List Str} {x : Nat → Int} {Fs : List Fm} {k : Nat} {g : Fm} {p : Pt} (h : Node nm Fs k g p) :
    (∃ s, g = .sg s ∧ s ∈ nm ∧ p = (sSig, ((nm.idxOf s : Nat) : Int), -1)) ∨ (p.1 ≠ sSig ∧ ∃ a b, sem nm x g = sq p.1 a b ∧ Opd nm x Fs k p.2.1 a ∧ Opd nm x Fs k p.2.2 b) := by
  cases g with
  | sg s => exact .inl ⟨s, rfl, h.1, h.2⟩
  | c0 c =>
    obtain ⟨h1, rfl⟩ := h
    exact .inr ⟨h1, _, _, rfl, .inl ⟨rfl, rfl⟩, .inl ⟨rfl, rfl⟩⟩
  | un c f =>
    obtain ⟨h1, i, h2, h3, rfl⟩ := h
    exact .inr ⟨h1, _, _, rfl, .inr ⟨i, f, h2, rfl, h3, rfl⟩, .inl ⟨rfl, rfl⟩⟩
  | bin c f f2 =>
    obtain ⟨h1, i, j, h2, h3, h4, h5, rfl⟩ := h
    exact .inr ⟨h1, _, _, rfl, .inr ⟨i, f, h2, rfl, h4, rfl⟩, .inr ⟨j, f2, h3, rfl, h5, rfl⟩⟩
theorem opd_pd {nm : List Str} {x : Nat → Int} {P : List Pt} {Fs : List Fm} {h m L k : Nat} {z : Int} {a : Nat → Bool} (G : Good nm P Fs) (hL : 0 < L) (hx : ∀ t, h ≤ t → x (t + L) = x t) (hm : h + pc P * L ≤ m) (o : Opd nm x Fs k z a) : Pd a m L := by
  rcases o with ⟨_, rfl⟩ | ⟨i, g, _, _, hg, rfl⟩
  · exact pd_c m L false
  · refine (sem_pd hL hx g).up ?_
    have h1 := pd_pc G i g hg
    have hi : i < P.length := by rw [G.len]; exact (List.getElem?_eq_some_iff.mp hg).1
    have h2 := pc_mono (P := P) (show i + 1 ≤ P.length by omega)
    rw [List.take_length] at h2
    have h3 : pd g * L ≤ pc P * L := Nat.mul_le_mul_right L (by omega)
    omega
/-- an operand's row of values -/
theorem opd_arr {nm : List Str} {x : Nat → Int} {Fs : List Fm} {k N : Nat} {z : Int} {a : Nat → Bool} {H : Hp} {fs : List Addr} (A : ArrsAt H N fs ((Fs.take k).map (sem nm x))) (o : Opd nm x Fs k z a) :
    (z = -1 ∧ a = fun _ => false) ∨ ∃ (i : Nat) (u : Addr), z = (i : Int) ∧ (fs.map V.ref)[i]? = some (.ref u) ∧ Arr H u N a := by
  rcases o with h | ⟨i, g, hi, e, hg, rfl⟩
  · exact .inl h
  · obtain ⟨u, hu, hA⟩ := arrs_get (i := i) A (by rw [List.getElem?_map, List.getElem?_take, if_pos hi, hg]; rfl)
    exact .inr ⟨i, u, e, by rw [List.getElem?_map, hu]; rfl, hA⟩
theorem bit_bi (z : Int) (i : Nat) : Builtin.bitAnd (z / 2 ^ i) 1 = bi (bitI z i) := by
  rw [bitAnd_m1]
  unfold bitI bi
  have h1 := Int.emod_nonneg (z / 2 ^ i) (show (2 : Int) ≠ 0 by decide)
  have h2 := Int.emod_lt_of_pos (z / 2 ^ i) (show (0 : Int) < 2 by decide)
  generalize z / 2 ^ i % 2 = y at h1 h2
  by_cases c : y = 1
  · rw [c]
    rfl
  · rw [decide_eq_false c]
    have : y = 0 := by omega
    rw [this]
    rfl
theorem arr_ne {H : Hp} {o u : Addr} {fs : List Addr} {N : Nat} {s : Nat → Bool} (hN : 0 < N) (h1 : H o = some (.lst (fs.map V.ref))) (h2 : Arr H u N s) : u ≠ o := fun z => by
  unfold Arr at h2
  rw [z, h1] at h2
  injection h2 with h2
  injection h2 with h2
  have h3 := congrArg (fun l => l[0]?) h2
  simp only [arr_get hN] at h3
  rw [List.getElem?_map] at h3
  cases e : fs[0]? with
  | none => rw [e] at h3; cases h3
  | some a => rw [e] at h3; cases h3
theorem cal_pv (T : Txt K mg) : C8.Cal P w K mg base 4 "part_values" (spPv K) [] := by
  have C_truth_of : C8.Cal P w K mg base 2 "truth_of" spTof [] := cal_tof T
  have C_past_values : C8.Cal P w K mg base 3 "past_values" spPast [] := cal_past T
  have C_future_values : C8.Cal P w K mg base 3 "future_values" spFut [] := cal_fut T
  obtain ⟨aF, aP, aS, aB, gF, gP, gS, gB⟩ := glo T
  obtain ⟨f, fd, F, hm, hb⟩ := T.h_part_values
  refine ⟨f, fd, _, [], F.ok sc_part_values (fun vs H Q E h => ?_) (fun cdv A outer s H vs Q E hr h => ?_), hm, F.kp, hb, .nil⟩
  · obtain ⟨p, q, h, m, L, as, P, Fs, nm, x, rfl, _⟩ := h
    rfl
  · obtain ⟨p, qa, h, m, L, as, P, Fs, nm, x, rfl, hp, hpt, hPl, hq, hL, hN, hm0, hx, hx0, G, q⟩ := h
    refine ⟨_, (pss_cons
      (ps_set (i := 3) sc_part_values.nd rfl (Or.inl rfl) (pe_op op_rep (pe_lst (pa_cons pe_int pa_nil)) (pe_callB (call_lenK (K := K) rfl) (by rfl) T.z_len PySem.boot_len (pa_cons (pv 1) pa_nil))))
      (pss_cons
      (ps_set (i := 4) sc_part_values.nd rfl (Or.inl rfl) (pe_lst pa_nil))
      (pss_cons
      (ps_for PassesOwn.never rfl (pi_list (pv 0)) (pg_tup (by rfl) (pgs_cons (pg_name (i := 5) sc_part_values.nd rfl (.inr rfl)) (pgs_cons (pg_name (i := 6) sc_part_values.nd rfl (.inr rfl)) (pgs_cons (pg_name (i := 7) sc_part_values.nd rfl (.inl rfl)) pgs_nil)))) (pss_cons
      (ps_if (pt_cmpR op_eq (pv 5) pe_str (nomark _)) (pss_cons
      (ps_expr (pe_bm PySem.F.plainAttrs_list PySem.F.slot_list_append PySem.F.type_list_append mt_append (pv 4) (pa_cons (pe_lc (own := [("letter", 10)]) (g := gName 10) (tt := tYes) rfl sc_part_values.nd (pi_tup (pv 1)) (blkOk_by (N := N_part_values) (sc := defScope s_part_values) (by decide +kernel)) (fun _ _ _ _ _ => (pg_name (i := 10) sc_part_values.nd rfl (Or.inl rfl))) (fun _ _ _ _ _ => pts_nil) (fun _ _ _ _ _ => (pe_op op_and (pe_op op_shr (pv 10) (pv 6)) pe_int))) pa_nil)))
      (pss_one
      ps_continue)) pss_nil)
      (C8.pss_cut
      (ps_set (i := 8) sc_part_values.nd rfl (Or.inl rfl) (pe_ifExp (pt_cmpR op_ge (pv 6) pe_int (nomark _)) (pe_ix (ix_listK (K := K) rfl) (pv 4) (pv 6) (fun _ _ => rfl)) (pv 3)))
      (C8.pss_cut
      (ps_set (i := 9) sc_part_values.nd rfl (Or.inl rfl) (pe_ifExp (pt_cmpR op_ge (pv 7) pe_int (nomark _)) (pe_ix (ix_listK (K := K) rfl) (pv 4) (pv 7) (fun _ _ => rfl)) (pv 3)))
      (pss_one
      (ps_if (pt_cmpR (op_inK (K := K) rfl) (pv 5) (pe_glob (v := .ref aP) (by rfl) gP.g rfl) (by rfl)) (pss_one
      (ps_expr (pe_bm PySem.F.plainAttrs_list PySem.F.slot_list_append PySem.F.type_list_append mt_append (pv 4) (pa_cons (C8.pe_c C_past_values hr (by decide) (by rfl) (pa_cons (pv 5) (pa_cons (pv 8) (pa_cons (pv 9) pa_nil)))) pa_nil)))) (pss_one
      (ps_if (pt_cmpR (op_inK (K := K) rfl) (pv 5) (pe_glob (v := .ref aF) (by rfl) gF.g rfl) (by rfl)) (pss_one
      (ps_expr (pe_bm PySem.F.plainAttrs_list PySem.F.slot_list_append PySem.F.type_list_append mt_append (pv 4) (pa_cons (C8.pe_c C_future_values hr (by decide) (by rfl) (pa_cons (pv 5) (pa_cons (pv 8) (pa_cons (pv 9) (pa_cons (pv 2) pa_nil))))) pa_nil)))) (pss_one
      (ps_expr (pe_bm PySem.F.plainAttrs_list PySem.F.slot_list_append PySem.F.type_list_append mt_append (pv 4) (pa_cons (pe_lc (own := [("one", 11), ("two", 12)]) (g := gTup K 2 (gCons (gName 11) (gCons (gName 12) gNil))) (tt := tYes) rfl sc_part_values.nd (pi_zip (by rfl) T.z_zip (pa_cons (pv 8) (pa_cons (pv 9) pa_nil))) (blkOk_by (N := N_part_values) (sc := defScope s_part_values) (by decide +kernel)) (fun _ _ _ _ _ => (pg_tup (by rfl) (pgs_cons (pg_name (i := 11) sc_part_values.nd rfl (Or.inl rfl)) (pgs_cons (pg_name (i := 12) sc_part_values.nd rfl (Or.inl rfl)) pgs_nil)))) (fun _ _ _ _ _ => pts_nil) (fun _ _ _ _ _ => (C8.pe_c C_truth_of hr (by decide) (by rfl) (pa_cons (pv 5) (pa_cons (pv 11) (pa_cons (pv 12) (pa_cons pe_int (pa_cons pe_int pa_nil)))))))) pa_nil))))))))))))
      (pss_one
      (ps_ret (pv 4)))))), ?_⟩
    have ql : ((List.range (m + L)).map x).length = m + L := by rw [List.length_map, List.length_range]
    have big : m + L ≤ sizeLine := Nat.le_trans hN (by decide)
    refine ⟨by show 1 ≤ sizeLine; decide, fun p1 n1 => ?_⟩
    have s1 : Same H (upd H p1 (.lst [.int 0])) := same_new n1
    refine ⟨_, rfl, qa, _, rfl, .inr (.of (s1 _ _ hq)), p1, _, _, rfl, rfl, upd_same, by rw [List.length_map, ql]; omega, by rw [List.length_map, ql]; omega, by rw [List.length_map, ql]; show 1 * ((m + L : Nat) : Int).toNat ≤ sizeLine; omega, fun nt hnt => ?_⟩
    rw [List.length_map, ql, Int.toNat_natCast, arr_zero]
    have s2 := s1.trans (same_new (o := .lst ((List.range (m + L)).map fun t => V.int (bi ((fun _ => false) t)))) hnt)
    have e2 : Arr (upd (upd H p1 (.lst [.int 0])) nt (.lst ((List.range (m + L)).map fun t => V.int (bi ((fun _ => false) t))))) nt (m + L) (fun _ => false) := upd_same
    generalize upd (upd H p1 (.lst [.int 0])) nt (.lst ((List.range (m + L)).map fun t => V.int (bi ((fun _ => false) t)))) = H2 at s2 e2 ⊢
    refine ⟨by show 0 ≤ sizeLine; decide, fun o ho => ?_⟩
    have ho0 : H o = none := s2.free ho
    have hno : nt ≠ o := fun z => by rw [z] at e2; unfold Arr at e2; rw [ho] at e2; cases e2
    have s3 := s2.trans (same_new (o := .lst []) ho)
    have e3 : (upd H2 o (.lst [])) o = some (.lst (([] : List Addr).map V.ref)) := upd_same
    have e4 : Arr (upd H2 o (.lst [])) nt (m + L) (fun _ => false) := same_new ho _ _ e2
    generalize upd H2 o (.lst []) = H3 at s3 e3 e4 ⊢
    have hal := pts_len hpt
    have pdo := fun (k : Nat) (z : Int) (a : Nat → Bool) (hh : Opd nm x Fs k z a) => opd_pd G hL hx hm0 hh
    refine ⟨_, rfl, p, rfl, ⟨_, .of (s3 _ _ hp)⟩, for_list (xs := as.map V.ref) (fun i σ H4 => ∃ (fs : List Addr) (v5 v6 v7 v8 v9 v10 v11 v12 : Option V), σ = [some (.ref p), some (.ref qa), some (.int (m : Int)), some (.ref nt), some (.ref o), v5, v6, v7, v8, v9, v10, v11, v12] ∧ Same H H4 ∧
        H4 o = some (.lst (fs.map V.ref)) ∧ o ∉ fs ∧ ArrsAt H4 (m + L) fs ((Fs.take i).map (sem nm x)) ∧ Arr H4 nt (m + L) (fun _ => false))
      ⟨[], none, none, none, none, none, none, none, none, rfl, s3, e3, by simp, trivial, e4⟩ (fun i σ H4 _ ⟨_, _, _, _, _, _, _, _, _, _, z, _⟩ => .of (z _ _ hp)) ?_ ?_⟩
    · rintro i y σ H4 hy ⟨fs, v5, v6, v7, v8, v9, v10, v11, v12, rfl, s4, eo, hof, hA, hnt4⟩
      obtain ⟨t, ht, rfl⟩ := refs_get hy
      obtain ⟨pt, hpi, het⟩ := pts_get hpt ht
      have hiP : i < P.length := (List.getElem?_eq_some_iff.mp hpi).1
      have hiF : i < Fs.length := by rw [← G.len]; exact hiP
      obtain ⟨g, hg⟩ : ∃ g, Fs[i]? = some g := ⟨_, List.getElem?_eq_getElem hiF⟩
      have hnd := G.nd i g pt hg hpi
      have hfl := arrs_len hA
      rw [List.length_map, List.length_take, Nat.min_eq_left (by omega)] at hfl
      have tk : (Fs.take (i + 1)).map (sem nm x) = (Fs.take i).map (sem nm x) ++ [sem nm x g] := by
        rw [List.take_add_one, hg, List.map_append]
        rfl
      -- a new row is appended
      have fin : ∀ (H5 : Hp) (u : Addr), Same H4 H5 → Arr H5 u (m + L) (sem nm x g) → H5 o = some (.lst (fs.map V.ref)) ∧ (fs.map V.ref).length < sizeLine ∧
          (upd H5 o (.lst (fs.map V.ref ++ [.ref u]))) o = some (.lst ((fs ++ [u]).map V.ref)) ∧ Same H (upd H5 o (.lst (fs.map V.ref ++ [.ref u]))) ∧ o ∉ fs ++ [u] ∧ ArrsAt (upd H5 o (.lst (fs.map V.ref ++ [.ref u]))) (m + L) (fs ++ [u]) ((Fs.take (i + 1)).map (sem nm x)) ∧ Arr (upd H5 o (.lst (fs.map V.ref ++ [.ref u]))) nt (m + L) (fun _ => false) := by
        intro H5 u s5 hu
        have eo5 := s5 _ _ eo
        have huo := arr_ne (by omega) eo5 hu
        refine ⟨eo5, by rw [List.length_map, hfl]; exact Nat.lt_of_le_of_lt (show i ≤ 1000 by omega) (by decide), by rw [upd_same, List.map_append]; rfl, fun c w hc => ?_, fun z => ?_, ?_, ?_⟩
        · rw [upd_ne (ne_of_none hc ho0)]
          exact s5 _ _ (s4 _ _ hc)
        · rcases List.mem_append.mp z with z | z
          · exact hof z
          · exact huo (List.mem_singleton.mp z).symm
        · rw [tk]
          exact arrs_snoc (Kp.own _ _ huo hu) (arrs_kp Kp.own hof (arrs_same s5 hA))
        · exact Kp.own _ _ hno (s5 _ _ hnt4)
      refine ⟨t, _, rfl, .of (s4 _ _ het), rfl, _, _, rfl, _, _, rfl, _, _, rfl, rfl, ?_⟩
      rcases node_ops (x := x) hnd with ⟨s, rfl, hs, rfl⟩ | ⟨hns, a, b, hsem, oa, ob⟩
      · -- a signal
        refine ⟨_, rfl, rfl, _, rfl, iteT ?_⟩
        refine ⟨_, rfl, .inl ⟨rfl, _, .of eo⟩, _, rfl, qa, rfl, ⟨_, .of (s4 _ _ hq)⟩, fun D hD => ?_⟩
        refine lc_tup (K := K) (a := qa) (xs := ((List.range (m + L)).map x).map V.int) (fun j H5 => Same H4 H5 ∧ H5 D = some (.lst ((List.range j).map fun t => V.int (bi (bitI (x t) (nm.idxOf s))))))
          ⟨same_new hD, upd_same⟩ (fun j H5 _ ⟨z, _⟩ => .of (z _ _ (s4 _ _ hq))) ?_ ?_
        · rintro j y H5 hj ⟨s5, eD⟩
          have hjl := (List.getElem?_eq_some_iff.mp hj).1
          rw [List.length_map, ql] at hjl
          rw [List.getElem?_map, List.getElem?_map, List.getElem?_range hjl] at hj
          cases hj
          refine ⟨rfl, _, rfl, _, rfl, _, _, rfl, rfl, Int.natCast_nonneg _, _, _, rfl, rfl, _, eD, by rw [arr_len]; omega, fun c w hc => ?_, ?_⟩
          · rw [upd_ne (ne_of_none hc hD)]
            exact s5 _ _ hc
          · rw [upd_same, Int.toNat_natCast]
            show some (HO.lst (_ ++ [V.int (Builtin.bitAnd (x j / 2 ^ List.idxOf s nm) 1)])) = _
            rw [bit_bi, List.range_succ, List.map_append]
            rfl
        · rintro H5 ⟨s5, eD⟩
          rw [List.length_map, ql] at eD
          obtain ⟨f1, f2, f3, f4, f5, f6, f7⟩ := fin H5 D s5 eD
          exact ⟨o, _, _, rfl, rfl, f1, f2, fs ++ [D], _, _, _, _, _, _, _, _, rfl, f4, f3, f5, f6, f7⟩
      · refine ⟨_, rfl, rfl, _, rfl, ?_⟩
        rw [show decide (V.str pt.1 = V.str "signal") = false from decide_eq_false fun z => hns (V.str.inj z)]
        refine iteF ?_
        -- left
        refine ⟨fun σ H5 => ∃ (u : Addr), σ = [some (.ref p), some (.ref qa), some (.int (m : Int)), some (.ref nt), some (.ref o), some (.str pt.1), some (.int pt.2.1), some (.int pt.2.2), some (.ref u), v9, v10, v11, v12] ∧ H4 = H5 ∧ Arr H4 u (m + L) a, ?_, ?_⟩
        · refine ⟨_, rfl, _, _, rfl, rfl, _, rfl, ?_⟩
          rcases opd_arr hA oa with ⟨z, rfl⟩ | ⟨j, u, z, hu, hAu⟩
          · rw [z]
            exact iteF ⟨_, rfl, nt, rfl, rfl, hnt4⟩
          · rw [z]
            refine ite2 (fun _ => ?_) (fun c => absurd (decide_eq_true (show (j : Int) ≥ 0 by omega)) c)
            exact ⟨_, rfl, _, rfl, o, _, _, .ref u, rfl, rfl, .of eo, atI_nat hu, u, rfl, rfl, hAu⟩
        · rintro σ H5 ⟨lf, rfl, rfl, hlf⟩
          refine ⟨fun σ H5 => ∃ (u : Addr), σ = [some (.ref p), some (.ref qa), some (.int (m : Int)), some (.ref nt), some (.ref o), some (.str pt.1), some (.int pt.2.1), some (.int pt.2.2), some (.ref lf), some (.ref u), v10, v11, v12] ∧ H4 = H5 ∧ Arr H4 u (m + L) b, ?_, ?_⟩
          · refine ⟨_, rfl, _, _, rfl, rfl, _, rfl, ?_⟩
            rcases opd_arr hA ob with ⟨z, rfl⟩ | ⟨j, u, z, hu, hAu⟩
            · rw [z]
              exact iteF ⟨_, rfl, nt, rfl, rfl, hnt4⟩
            · rw [z]
              refine ite2 (fun _ => ?_) (fun c => absurd (decide_eq_true (show (j : Int) ≥ 0 by omega)) c)
              exact ⟨_, rfl, _, rfl, o, _, _, .ref u, rfl, rfl, .of eo, atI_nat hu, u, rfl, rfl, hAu⟩
          · rintro σ H5 ⟨rg, rfl, rfl, hrg⟩
            refine ⟨_, rfl, ?_⟩
            unfold L2.tC
            show rIn K false (.str pt.1) (.ref aP) _ _
            refine inq (gP.q _) ⟨_, rfl, ite2 (fun c => ?_) (fun c => ?_)⟩
            · have hk := of_decide_eq_true c
              refine ⟨_, rfl, .inl ⟨rfl, _, .of eo⟩, _, rfl, _, rfl, _, rfl, pt.1, lf, rg, m + L, a, b, rfl, hk, hlf, hrg, hN, fun H5 u s5 hu => ?_⟩
              rw [← hsem] at hu
              obtain ⟨f1, f2, f3, f4, f5, f6, f7⟩ := fin H5 u s5 hu
              exact ⟨o, _, _, rfl, rfl, f1, f2, fs ++ [u], _, _, _, _, _, _, _, _, rfl, f4, f3, f5, f6, f7⟩
            · have hk : ¬ pt.1 ∈ past := fun z => c (decide_eq_true z)
              refine ⟨_, rfl, ?_⟩
              try unfold L2.tC
              show rIn K false (.str pt.1) (.ref aF) _ _
              refine inq (gF.q _) ⟨_, rfl, ite2 (fun c => ?_) (fun c => ?_)⟩
              · have hk2 := of_decide_eq_true c
                refine ⟨_, rfl, .inl ⟨rfl, _, .of eo⟩, _, rfl, _, rfl, _, rfl, _, rfl, pt.1, lf, rg, m, L, a, b, rfl, hk, hk2, hL, pdo _ _ _ oa, pdo _ _ _ ob, hlf, hrg, hN, fun H5 u s5 hu => ?_⟩
                rw [← hsem] at hu
                obtain ⟨f1, f2, f3, f4, f5, f6, f7⟩ := fin H5 u s5 hu
                exact ⟨o, _, _, rfl, rfl, f1, f2, fs ++ [u], _, _, _, _, _, _, _, _, rfl, f4, f3, f5, f6, f7⟩
              · have hk2 : ¬ pt.1 ∈ future := fun z => c (decide_eq_true z)
                refine ⟨_, rfl, .inl ⟨rfl, _, .of eo⟩, _, rfl, _, rfl, lf, rg, _, _, rfl, .of hlf, .of hrg, fun D hD => ?_⟩
                refine lc_it (walk_zip (K := K) (a := lf) (b := rg) (xs := (List.range (m + L)).map fun t => V.int (bi (a t))) (ys := (List.range (m + L)).map fun t => V.int (bi (b t))) (n := m + L) (by rw [arr_len, arr_len, Nat.min_self]))
                  (fun j H5 => Same H4 H5 ∧ H5 D = some (.lst ((List.range j).map fun t => V.int (bi (sem nm x g t))))) ⟨same_new hD, upd_same⟩ (fun j H5 _ ⟨z, _⟩ => ⟨.of (z _ _ hlf), .of (z _ _ hrg)⟩) ?_ ?_
                · rintro j y H5 H6 hj ⟨s5, eD⟩ ⟨t2, y1, y2, rfl, ht2, rfl, hy1, hy2⟩
                  obtain ⟨_, rfl⟩ := arr_inv hy1
                  obtain ⟨_, rfl⟩ := arr_inv hy2
                  refine ⟨t2, _, rfl, .of upd_same, rfl, _, _, rfl, _, _, rfl, rfl, rfl, ?_⟩
                  have s6 : Same H5 (upd H5 t2 (.tup [.int (bi (a j)), .int (bi (b j))])) := same_new ht2
                  refine ⟨_, rfl, _, rfl, _, rfl, pt.1, a j, b j, false, rfl, fun H7 s7 => ?_⟩
                  refine ⟨_, (s6.trans s7) _ _ eD, by rw [arr_len]; omega, fun c w hc => ?_, ?_⟩
                  · rw [upd_ne (ne_of_none hc hD)]
                    exact s7 _ _ (s6 _ _ (s5 _ _ hc))
                  · rw [upd_same, ← sq_pl hk hk2, ← hsem, arr_snoc]
                · rintro H5 ⟨s5, eD⟩
                  obtain ⟨f1, f2, f3, f4, f5, f6, f7⟩ := fin H5 D s5 eD
                  exact ⟨o, _, _, rfl, rfl, f1, f2, fs ++ [D], _, _, _, _, _, _, _, _, rfl, f4, f3, f5, f6, f7⟩
    · rintro σ H4 ⟨fs, v5, v6, v7, v8, v9, v10, v11, v12, rfl, s4, eo, hof, hA, hnt4⟩
      rw [List.length_map, hal, G.len, List.take_length] at hA
      exact ⟨_, rfl, q H4 o fs s4 eo hA⟩
def unOps : List Str := ["not", "next", "eventually", "always", "previous", "weak_previous", "once", "historically"]
def binOps : List Str := ["and", "or", "implies", "iff", "until", "release", "since", "trigger", "weak_until"]
def Wo (nm : List Str) : Fm → Prop
  | .c0 k => k = "true" ∨ k = "false"
  | .sg s => s ∈ nm
  | .un k f => k ∈ unOps ∧ Wo nm f
  | .bin k f g => k ∈ binOps ∧ Wo nm f ∧ Wo nm g
theorem un_ne {k : Str} (h : k ∈ unOps) : k ≠ sSig := fun z => by
  subst z
  exact absurd h (by decide)
theorem bin_ne {k : Str} (h : k ∈ binOps) : k ≠ sSig := fun z => by
  subst z
  exact absurd h (by decide)
theorem Wo.wf {nm : List Str} : ∀ {f : Fm}, Wo nm f → Wf nm f
  | .c0 k, h => fun z => by
    subst z
    exact absurd (show sSig = "true" ∨ sSig = "false" from h) (by decide)
  | .sg s, h => h
  | .un k f, h => ⟨un_ne h.1, h.2.wf⟩
  | .bin k f g, h => ⟨bin_ne h.1, h.2.1.wf, h.2.2.wf⟩
def spName : Sp := fun vs H Q _ => ∃ (d : Addr) (k : Int), vs = [.ref d, .int k] ∧ Drw H d ∧ 0 ≤ k ∧ k < 8 ∧ ∀ (H' : Hp) (s : Str), Kp d H H' → Drw H' d → PyData.strOk s = true → Q (.str s) H'
def spNames : Sp := fun vs H Q _ => ∃ (d : Addr) (c : Int), vs = [.ref d, .int c] ∧ Drw H d ∧ 0 ≤ c ∧ c ≤ 8 ∧
  ∀ (H' : Hp) (p : Addr) (ss : List Str), Kp d H H' → Drw H' d → p ≠ d → H' p = some (.lst (ss.map V.str)) → ss.length = c.toNat → (∀ s ∈ ss, PyData.strOk s = true) → Q (.ref p) H'
def spLeaf (K : PySem.W.Frag) : Sp := fun vs H Q _ => ∃ (d n : Addr) (nm : List Str), vs = [.ref d, .ref n] ∧ Drw H d ∧ n ≠ d ∧ H n = some (.lst (nm.map V.str)) ∧ nm.length ≤ 30 ∧
  ∀ (H' : Hp) (v : V) (f : Fm), Kp d H H' → Drw H' d → FmAt K H' v f → Wo nm f → sz f ≤ 1 → Q v H'
def dpt : Fm → Nat
  | .c0 _ => 0
  | .sg _ => 0
  | .un _ f => dpt f + 1
  | .bin _ f g => max (dpt f) (dpt g) + 1
def Szd (f : Fm) (n : Nat) : Prop := sz f + 1 ≤ 2 ^ (n + 1) ∧ dpt f ≤ n
theorem szd_leaf {f : Fm} (h : sz f ≤ 1) (n : Nat) : Szd f n := by
  have h1 : 2 ≤ 2 ^ (n + 1) := by
    rw [Nat.pow_succ]
    have : 1 ≤ 2 ^ n := Nat.one_le_two_pow
    omega
  cases f with
  | c0 _ => exact ⟨h1, Nat.zero_le _⟩
  | sg _ => exact ⟨h1, Nat.zero_le _⟩
  | un _ f =>
    have := sz_pos f
    have h : sz f + 1 ≤ 1 := h
    omega
  | bin _ f g =>
    have := sz_pos f
    have h : sz f + sz g + 1 ≤ 1 := h
    omega
theorem szd_un {f : Fm} {n : Nat} (k : Str) (h : Szd f n) : Szd (.un k f) (n + 1) := by
  refine ⟨?_, Nat.succ_le_succ h.2⟩
  show sz f + 1 + 1 ≤ _
  have := h.1
  rw [Nat.pow_succ 2 (n + 1)]
  have : 1 ≤ 2 ^ (n + 1) := Nat.one_le_two_pow
  omega
theorem szd_bin {f g : Fm} {n : Nat} (k : Str) (h : Szd f n) (h' : Szd g n) : Szd (.bin k f g) (n + 1) := by
  refine ⟨?_, Nat.succ_le_succ (Nat.max_le.mpr ⟨h.2, h'.2⟩)⟩
  show sz f + sz g + 1 + 1 ≤ _
  have := h.1
  have := h'.1
  rw [Nat.pow_succ 2 (n + 1)]
  omega
def spForm (K : PySem.W.Frag) : Nat → Sp
  | 0 => fun _ _ _ _ => False
  | dp + 1 => fun vs H Q _ => ∃ (d n : Addr) (nm : List Str) (b : Int), vs = [.ref d, .ref n, .int b, .int (dp : Int)] ∧ Drw H d ∧ n ≠ d ∧ H n = some (.lst (nm.map V.str)) ∧ nm.length ≤ 30 ∧ 0 ≤ b ∧ b ≤ 1000 ∧
    ∀ (H' : Hp) (v : V) (f : Fm), Kp d H H' → Drw H' d → FmAt K H' v f → Wo nm f → Szd f dp → Q v H'
theorem str_at {z : Str} {i : Int} (h0 : 0 ≤ i) (h1 : i < (z.length : Nat)) : ∃ c, atI z.cps.toList i = some c := by
  have h2 : i.toNat < z.cps.toList.length := by
    rw [Array.length_toList]
    show i.toNat < z.length
    omega
  refine ⟨z.cps.toList[i.toNat], ?_⟩
  have e : ((i.toNat : Nat) : Int) = i := by omega
  have r := atI_nat (List.getElem?_eq_getElem h2)
  rwa [e] at r
theorem pick_at {ss : List Str} {i : Int} (h0 : 0 ≤ i) (h1 : i < (ss.length : Nat)) : ∃ s, s ∈ ss ∧ atI (ss.map V.str) i = some (.str s) := by
  have h2 : i.toNat < ss.length := by omega
  refine ⟨ss[i.toNat], List.getElem_mem h2, ?_⟩
  have e : ((i.toNat : Nat) : Int) = i := by omega
  have r := atI_nat (xs := ss.map V.str) (v := .str ss[i.toNat]) (by rw [List.getElem?_map, List.getElem?_eq_getElem h2]; rfl)
  rwa [e] at r
theorem one_len {c : Nat} : (⟨#[c]⟩ : Str).length = 1 := rfl
theorem app_len (a b : Str) : (a ++ b).length = a.length + b.length := by
  show (a.cps ++ b.cps).size = _
  rw [Array.size_append]
  rfl
abbrev sChars : Str := "abcdefghijklmnopqrstuvwxyz0123456789"
abbrev sEnds : Str := "xqzjkvbw"
theorem len_chars : sChars.length = 36 := by decide +kernel
theorem len_ends : sEnds.length = 8 := by decide +kernel
theorem ok_app {a b : Str} (ha : PyData.strOk a = true) (hb : PyData.strOk b = true) : PyData.strOk (a ++ b) = true := by
  show (a.cps ++ b.cps).all _ = true
  rw [Array.all_append]
  unfold PyData.strOk at ha hb
  rw [ha, hb]
  rfl
theorem ok_join {sep : Str} (hs : PyData.strOk sep = true) : ∀ xs : List Str, (∀ x ∈ xs, PyData.strOk x = true) → PyData.strOk (Str.join sep xs) = true
  | [], _ => by
    rw [Str.join]
    decide +kernel
  | [x], h => by
    rw [Str.join]
    exact h x List.mem_cons_self
  | x :: y :: rest, h => ok_app (ok_app (h x List.mem_cons_self) hs) (ok_join hs (y :: rest) fun z hz => h z (List.mem_cons_of_mem _ hz))
theorem ok_one {z : Str} {i : Int} {c : Nat} (hz : PyData.strOk z = true) (h : atI z.cps.toList i = some c) : PyData.strOk ⟨#[c]⟩ = true := by
  obtain ⟨j, _, _, _, hj, _⟩ := atI_get h
  have hm : c ∈ z.cps.toList := by
    first
    | exact List.mem_of_getElem? (by assumption)
    | exact List.mem_of_getElem? hj
  unfold PyData.strOk at hz ⊢
  rw [Array.all_eq_true_iff_forall_mem] at hz
  have := hz c (by simpa using hm)
  simpa using this
theorem ok_chars : PyData.strOk sChars = true := by decide +kernel
theorem ok_ends : PyData.strOk sEnds = true := by decide +kernel
theorem cal_name (T : Txt K mg) : C8.Cal P w K mg base 2 "_law_name" spName [] := by
  have C_law_take : C8.Cal P w K mg base 1 "_law_take" spTake [] := cal_take T
  obtain ⟨f, fd, F, hm, hb⟩ := T.h_law_name
  refine ⟨f, fd, _, [], F.ok sc_law_name (fun vs H Q E h => ?_) (fun cdv A outer s H vs Q E hr h => ?_), hm, F.kp, hb, .nil⟩
  · obtain ⟨d, k, rfl, _⟩ := h
    rfl
  · obtain ⟨d, k, rfl, hd, k0, k1, q⟩ := h
    refine ⟨_, (pss_cons
      (ps_set (i := 2) sc_law_name.nd rfl (Or.inr rfl) pe_str)
      (pss_cons
      (ps_set (i := 3) sc_law_name.nd rfl (Or.inl rfl) (pe_join pe_str (pe_lc (own := [("j", 4)]) (g := gName 4) (tt := tYes) rfl sc_law_name.nd (pi_range1 (by rfl) T.z_range (pa_cons (C8.pe_c C_law_take hr (by decide) (by rfl) (pa_cons (pv 0) (pa_cons pe_int pa_nil))) pa_nil)) (blkOk_by (N := N_law_name) (sc := defScope s_law_name) (by decide +kernel)) (fun _ _ _ _ _ => (pg_name (i := 4) sc_law_name.nd rfl (Or.inl rfl))) (fun _ _ _ _ _ => pts_nil) (fun _ _ _ _ _ => (pe_ix ix_str (pv 2) (C8.pe_c C_law_take hr (by decide) (by rfl) (pa_cons (pv 0) (pa_cons pe_int pa_nil))) (fun _ _ => rfl))))))
      (pss_one
      (ps_ret (pe_op op_add_str (pe_op op_add_str (pe_ix ix_str (pv 2) (C8.pe_c C_law_take hr (by decide) (by rfl) (pa_cons (pv 0) (pa_cons pe_int pa_nil))) (fun _ _ => rfl)) (pv 3)) (pe_ix ix_str pe_str (pv 1) (fun _ _ => rfl))))))), ?_⟩
    refine ⟨⟨_, rfl⟩, ?_⟩
    refine ⟨_, rfl, d, _, rfl, hd, by decide, fun r ds r0 r1 => ?_⟩
    refine ⟨_, rfl, by omega, by omega, fun D hD => ?_⟩
    have nDd : D ≠ d := fun z => by rw [z, upd_same] at hD; cases hD
    refine lc_range (lo := 0) (n := r.toNat) (fun i H' => ∃ xs : List Str, Kp d H H' ∧ Drw H' d ∧ H' D = some (.lst (xs.map V.str)) ∧ xs.length = i ∧ ∀ x ∈ xs, x.length = 1 ∧ PyData.strOk x = true)
      ⟨[], Kp.own.trans (Kp.new hD), Drw.own.new hD, upd_same, rfl, by simp⟩ ?_ ?_
    · rintro i H1 hi ⟨xs, k1', d1, e1, el, hx⟩
      refine ⟨rfl, _, rfl, _, rfl, d, _, rfl, d1, by decide, fun u us u0 u1 => ?_⟩
      obtain ⟨c, hc⟩ := str_at (z := sChars) u0 (by rw [len_chars]; exact u1)
      refine ⟨sChars, u, c, rfl, rfl, by rw [len_chars]; decide, hc, ?_⟩
      refine ⟨xs.map V.str, by rw [upd_ne nDd]; exact e1, by rw [List.length_map]; exact Nat.lt_of_le_of_lt (show xs.length ≤ 1000 by omega) (by decide), xs ++ [⟨#[c]⟩], ?_, ?_, ?_, ?_, ?_⟩
      · intro b o nb hb
        have nbD : b ≠ D := fun z => by
          have h0 : (upd H d (.lst (ds.map V.int))) D = none := hD
          rw [upd_ne nDd] at h0
          rw [z, h0] at hb
          cases hb
        rw [upd_ne nbD, upd_ne nb]
        exact k1' _ _ nb hb
      · exact ⟨us, by rw [upd_ne nDd.symm, upd_same]⟩
      · rw [upd_same, List.map_append]
        rfl
      · simp [el]
      · intro x hx2
        rcases List.mem_append.mp hx2 with z | z
        · exact hx x z
        · rw [List.mem_singleton.mp z]
          exact ⟨one_len, ok_one ok_chars hc⟩
    · rintro H1 ⟨xs, k2, d1, e1, el, hx⟩
      have hsum : (xs.map (·.length)).sum ≤ 2 := by
        have e : xs.map (·.length) = List.replicate xs.length 1 := List.eq_replicate_iff.mpr ⟨by rw [List.length_map], fun b hb => by
          obtain ⟨x, hx2, rfl⟩ := List.mem_map.mp hb
          exact (hx x hx2).1⟩
        rw [e, List.sum_replicate_nat]
        omega
      have hz : Str.length (Str.ofString "") = 0 := by decide +kernel
      have hjl := StrLaws.join_length_le (Str.ofString "") xs
      rw [← (show Txt.join (Str.ofString "") xs = Str.join (Str.ofString "") xs from TL.join_eq _ _), hz] at hjl
      have hj2 : (Txt.join (Str.ofString "") xs).length ≤ 2 := by omega
      refine ⟨_, D, xs, rfl, rfl, .inl (.of e1), ?_, ?_⟩
      · show (xs.map (·.length)).sum + xs.length * Str.length (Str.ofString "") ≤ 16777216
        rw [hz]
        omega
      · refine ⟨_, rfl, _, rfl, d, _, rfl, d1, by decide, fun u us u0 u1 => ?_⟩
        obtain ⟨c, hc⟩ := str_at (z := sChars) u0 (by rw [len_chars]; omega)
        refine ⟨sChars, u, c, rfl, rfl, by rw [len_chars]; decide, hc, ?_⟩
        refine ⟨_, rfl, _, _, rfl, rfl, ?_, ?_⟩
        · rw [one_len]
          exact Nat.le_trans (show 1 + (Txt.join (Str.ofString "") xs).length ≤ 3 by omega) (by decide)
        obtain ⟨c2, hc2⟩ := str_at (z := sEnds) k0 (by rw [len_ends]; exact k1)
        refine ⟨_, rfl, sEnds, k, c2, rfl, rfl, by rw [len_ends]; decide, hc2, _, _, rfl, rfl, ?_, ?_⟩
        · rw [app_len, one_len, one_len]
          exact Nat.le_trans (show 1 + (Txt.join (Str.ofString "") xs).length + 1 ≤ 4 by omega) (by decide)
        · refine q _ _ (k2.trans Kp.own) Drw.own (ok_app (ok_app (ok_one ok_chars hc) ?_) (ok_one ok_ends hc2))
          rw [show Txt.join (Str.ofString "") xs = Str.join (Str.ofString "") xs from TL.join_eq _ _]
          exact ok_join (by decide +kernel) xs fun x hx2 => (hx x hx2).2
theorem cal_names (T : Txt K mg) : C8.Cal P w K mg base 3 "_law_names" spNames [] := by
  have C_law_name : C8.Cal P w K mg base 2 "_law_name" spName [] := cal_name T
  obtain ⟨f, fd, F, hm, hb⟩ := T.h_law_names
  refine ⟨f, fd, _, [], F.ok sc_law_names (fun vs H Q E h => ?_) (fun cdv A outer s H vs Q E hr h => ?_), hm, F.kp, hb, .nil⟩
  · obtain ⟨d, c, rfl, _⟩ := h
    rfl
  · obtain ⟨d, c, rfl, hd, c0, c1, q⟩ := h
    refine ⟨_, (pss_one
      (ps_ret (pe_lc (own := [("k", 2)]) (g := gName 2) (tt := tYes) rfl sc_law_names.nd (pi_range1 (by rfl) T.z_range (pa_cons (pv 1) pa_nil)) (blkOk_by (N := N_law_names) (sc := defScope s_law_names) (by decide +kernel)) (fun _ _ _ _ _ => (pg_name (i := 2) sc_law_names.nd rfl (Or.inl rfl))) (fun _ _ _ _ _ => pts_nil) (fun _ _ _ _ _ => (C8.pe_c C_law_name hr (by decide) (by rfl) (pa_cons (pv 0) (pa_cons (pv 2) pa_nil))))))), ?_⟩
    refine ⟨_, rfl, _, rfl, by omega, by omega, fun D hD => ?_⟩
    have nDd : D ≠ d := fun z => by
      obtain ⟨ds, e⟩ := hd
      rw [z, e] at hD
      cases hD
    refine lc_range (lo := 0) (n := c.toNat) (fun i H' => ∃ xs : List Str, Kp d H H' ∧ Drw H' d ∧ H' D = some (.lst (xs.map V.str)) ∧ xs.length = i ∧ ∀ x ∈ xs, PyData.strOk x = true)
      ⟨[], Kp.new hD, hd.new hD, upd_same, rfl, by simp⟩ ?_ ?_
    · rintro i H1 hi ⟨xs, k1, d1, e1, el, eok⟩
      refine ⟨rfl, _, rfl, _, rfl, d, _, rfl, d1, by omega, by omega, fun H2 s k2 d2 sok => ?_⟩
      refine ⟨xs.map V.str, k2 _ _ nDd e1, by rw [List.length_map]; exact Nat.lt_of_le_of_lt (show xs.length ≤ 1000 by omega) (by decide), xs ++ [s], fun b o nb hb => ?_, ?_, ?_, ?_, fun x hx2 => ?_⟩
      · rw [upd_ne (fun z => by rw [z, hD] at hb; cases hb)]
        exact k2 _ _ nb (k1 _ _ nb hb)
      · obtain ⟨ds, e⟩ := d2
        exact ⟨ds, by rw [upd_ne nDd.symm]; exact e⟩
      · rw [upd_same, List.map_append]
        rfl
      · simp [el]
      · rcases List.mem_append.mp hx2 with z | z
        · exact eok x z
        · rw [List.mem_singleton.mp z]
          exact sok
    · rintro H1 ⟨xs, k1, d1, e1, el, eok⟩
      exact q H1 D xs k1 d1 nDd e1 el eok
theorem cal_leaf (T : Txt K mg) : C8.Cal P w K mg base 2 "_law_leaf" (spLeaf K) [] := by
  have C_law_take : C8.Cal P w K mg base 1 "_law_take" spTake [] := cal_take T
  obtain ⟨f, fd, F, hm, hb⟩ := T.h_law_leaf
  refine ⟨f, fd, _, [], F.ok sc_law_leaf (fun vs H Q E h => ?_) (fun cdv A outer s H vs Q E hr h => ?_), hm, F.kp, hb, .nil⟩
  · obtain ⟨d, n, nm, rfl, _⟩ := h
    rfl
  · obtain ⟨d, n, nm, rfl, hd, hnd, hn, hl, q⟩ := h
    refine ⟨_, (pss_cons
      (ps_set (i := 2) sc_law_leaf.nd rfl (Or.inl rfl) (C8.pe_c C_law_take hr (by decide) (by rfl) (pa_cons (pv 0) (pa_cons pe_int pa_nil))))
      (pss_cons
      (ps_if (PW.pt (pw_or (pt_cmpR op_eq (pe_callB (call_lenK (K := K) rfl) (by rfl) T.z_len PySem.boot_len (pa_cons (pv 1) pa_nil)) pe_int (nomark _)) (pw_or1 (pt_cmpR op_eq (pv 2) pe_int (nomark _))))) (pss_one
      (ps_ret (pe_tup (pa_cons (pe_ix (ix_listK (K := K) rfl) (pe_lst (pa_cons pe_str (pa_cons pe_str pa_nil))) (pe_op op_mod (pv 2) pe_int) (fun _ _ => rfl)) pa_nil)))) pss_nil)
      (pss_one
      (ps_ret (pe_tup (pa_cons pe_str (pa_cons (pe_ix (ix_listK (K := K) rfl) (pv 1) (C8.pe_c C_law_take hr (by decide) (by rfl) (pa_cons (pv 0) (pa_cons (pe_callB (call_lenK (K := K) rfl) (by rfl) T.z_len PySem.boot_len (pa_cons (pv 1) pa_nil)) pa_nil))) (fun _ _ => rfl)) pa_nil))))))), ?_⟩
    refine ⟨_, rfl, d, _, rfl, hd, by decide, fun r ds r0 r1 => ?_⟩
    have k1 : Kp d H (upd H d (.lst (ds.map V.int))) := Kp.own
    have d1 : Drw (upd H d (.lst (ds.map V.int))) d := Drw.own
    have hn1 := k1 _ _ hnd hn
    generalize upd H d (.lst (ds.map V.int)) = H1 at k1 d1 hn1 ⊢
    have lit : ∀ (Q2 : VK), (∀ (H' : Hp) (v : V) (f : Fm), Kp d H H' → Drw H' d → FmAt K H' v f → Wo nm f → sz f ≤ 1 → Q2 v H') → ∀ t, H1 t = none → ∃ p xs i v, V.ref t = V.ref p ∧ V.int (r % 2) = V.int i ∧ SqL K (upd H1 t (.lst [.str "true", .str "false"])) p xs ∧ atI xs i = some v ∧
        ([v].length ≤ sizeLine ∧ ∀ t2, (upd H1 t (.lst [.str "true", .str "false"])) t2 = none → Q2 (.ref t2) (upd (upd H1 t (.lst [.str "true", .str "false"])) t2 (.tup [v]))) := fun Q2 q2 t ht => by
      obtain ⟨z, hz, ha⟩ := pick_at (ss := ["true", "false"]) (i := r % 2) (Int.emod_nonneg _ (by decide)) (Int.emod_lt_of_pos _ (by decide))
      refine ⟨t, _, _, .str z, rfl, rfl, .of upd_same, ha, by show 1 ≤ sizeLine; decide, fun t2 ht2 => ?_⟩
      exact q2 _ _ (.c0 z) (k1.trans ((Kp.new ht).trans (Kp.new ht2))) ((d1.new ht).new ht2) ⟨t2, rfl, .of upd_same⟩ (show z = "true" ∨ z = "false" by simpa using hz) (Nat.le_refl _)
    refine ⟨_, rfl, n, _, rfl, .inl (.of hn1), rfl, _, rfl, ite_eq (fun c => ?_) (fun c => ⟨_, rfl, rfl, _, rfl, ite_eq (fun c2 => ?_) (fun c2 => ?_)⟩)⟩
    · exact ⟨by show 2 ≤ sizeLine; decide, fun t ht => ⟨_, rfl, _, _, rfl, rfl, by show (0 : Int) < 2; decide, lit Q q t ht⟩⟩
    · exact ⟨by show 2 ≤ sizeLine; decide, fun t ht => ⟨_, rfl, _, _, rfl, rfl, by show (0 : Int) < 2; decide, lit Q q t ht⟩⟩
    · rw [List.length_map] at c
      refine ⟨_, rfl, _, rfl, _, rfl, n, _, rfl, .inl (.of hn1), d, _, rfl, d1, by rw [List.length_map]; omega, fun u us u0 u1 => ?_⟩
      rw [List.length_map] at u1
      have k2 : Kp d H1 (upd H1 d (.lst (us.map V.int))) := Kp.own
      have d2 : Drw (upd H1 d (.lst (us.map V.int))) d := Drw.own
      have hn2 := k2 _ _ hnd hn1
      generalize upd H1 d (.lst (us.map V.int)) = H2 at k2 d2 hn2 ⊢
      obtain ⟨z, hz, ha⟩ := pick_at (ss := nm) u0 u1
      refine ⟨n, _, _, .str z, rfl, rfl, .of hn2, ha, by show 2 ≤ sizeLine; decide, fun t ht => ?_⟩
      exact q _ _ (.sg z) (k1.trans (k2.trans (Kp.new ht))) (d2.new ht) ⟨t, rfl, .of upd_same⟩ hz (Nat.le_refl _)
theorem str_ite {k x : Str} {A B : Prop} (h1 : k = x → A) (h2 : k ≠ x → B) : if decide (V.str k = V.str x) = true then A else B := by
  by_cases c : k = x
  · rw [if_pos (by rw [c]; exact decide_eq_true rfl)]
    exact h1 c
  · rw [if_neg (by rw [decide_eq_false (fun z => c (V.str.inj z))]; exact Bool.false_ne_true)]
    exact h2 c
abbrev L7 : List Str := ["next", "eventually", "always", "previous", "weak_previous", "once", "historically"]
abbrev M7 : List Str := ["until", "release", "since", "trigger", "weak_until", "until", "since"]
abbrev L4 : List Str := ["and", "or", "implies", "iff"]
theorem l7_un : ∀ s, s ∈ L7 → s ∈ unOps := by decide
theorem m7_bin : ∀ s, s ∈ M7 → s ∈ binOps := by decide
theorem l4_bin : ∀ s, s ∈ L4 → s ∈ binOps := by decide
theorem two_pow_pos' (n : Nat) : 1 ≤ 2 ^ n := Nat.one_le_two_pow
theorem cal_form_step {n : Nat} (T : Txt K mg) (C_law_formula : C8.Cal P w K mg base (2 + n) "_law_formula" (spForm K n) []) : C8.Cal P w K mg base (2 + n + 1) "_law_formula" (spForm K (n + 1)) [] := by
  have C_law_take : C8.Cal P w K mg base 1 "_law_take" spTake [] := cal_take T
  have C_law_leaf : C8.Cal P w K mg base 2 "_law_leaf" (spLeaf K) [] := cal_leaf T
  obtain ⟨f, fd, F, hm, hb⟩ := T.h_law_formula
  refine ⟨f, fd, _, [], F.ok sc_law_formula (fun vs H Q E h => ?_) (fun cdv A outer s H vs Q E hr h => ?_), hm, F.kp, hb, .nil⟩
  · obtain ⟨d, n, nm, b, rfl, _⟩ := h
    rfl
  · obtain ⟨d, na, nm, b, rfl, hd, hnd, hn, hl, hb0, hb1, q⟩ := h
    refine ⟨_, (pss_cons
      (ps_set (i := 4) sc_law_formula.nd rfl (Or.inl rfl) (C8.pe_c C_law_take hr (by omega) (by rfl) (pa_cons (pv 0) (pa_cons pe_int pa_nil))))
      (pss_cons
      (ps_if (PW.pt (pw_or (pt_cmpR op_eq (pv 3) pe_int (nomark _)) (pw_or1 (pt_cmpR op_lt (pv 4) pe_int (nomark _))))) (pss_one
      (ps_ret (C8.pe_c C_law_leaf hr (by omega) (by rfl) (pa_cons (pv 0) (pa_cons (pv 1) pa_nil))))) pss_nil)
      (C8.pss_cut
      (ps_if (PW.pt (pw_and (pt_cmpR op_gt (pv 2) pe_int (nomark _)) (pw_and1 (pt_cmpR op_lt (pv 4) pe_int (nomark _))))) (pss_cons
      (ps_set (i := 5) sc_law_formula.nd rfl (Or.inl rfl) (pe_lst (pa_cons pe_str (pa_cons pe_str (pa_cons pe_str (pa_cons pe_str (pa_cons pe_str (pa_cons pe_str (pa_cons pe_str pa_nil)))))))))
      (pss_cons
      (ps_if (pt_cmpR op_lt (pv 4) pe_int (nomark _)) (pss_one
      (ps_ret (pe_tup (pa_cons (pe_ix (ix_listK (K := K) rfl) (pv 5) (pe_op op_sub (pv 4) pe_int) (fun _ _ => rfl)) (pa_cons (C8.pe_c C_law_formula hr (by omega) (by rfl) (pa_cons (pv 0) (pa_cons (pv 1) (pa_cons (pe_op op_sub (pv 2) pe_int) (pa_cons (pe_op op_sub (pv 3) pe_int) pa_nil))))) pa_nil))))) pss_nil)
      (pss_cons
      (ps_set (i := 6) sc_law_formula.nd rfl (Or.inl rfl) (pe_ix (ix_listK (K := K) rfl) (pe_lst (pa_cons pe_str (pa_cons pe_str (pa_cons pe_str (pa_cons pe_str (pa_cons pe_str (pa_cons pe_str (pa_cons pe_str pa_nil)))))))) (pe_op op_sub (pv 4) pe_int) (fun _ _ => rfl)))
      (C8.pss_cut
      (ps_if (PW.pt (pw_and (pt_cmpR op_eq (pv 3) pe_int (nomark _)) (pw_and1 (pt_cmpR op_eq (pv 6) pe_str (nomark _))))) (pss_one
      (ps_set (i := 6) sc_law_formula.nd rfl (Or.inl rfl) pe_str)) pss_nil)
      (pss_cons
      (ps_set (i := 7) sc_law_formula.nd rfl (Or.inl rfl) (C8.pe_c C_law_take hr (by omega) (by rfl) (pa_cons (pv 0) (pa_cons (pv 2) pa_nil))))
      (pss_cons
      (ps_set (i := 8) sc_law_formula.nd rfl (Or.inl rfl) (C8.pe_c C_law_formula hr (by omega) (by rfl) (pa_cons (pv 0) (pa_cons (pv 1) (pa_cons (pv 7) (pa_cons (pe_op op_sub (pv 3) pe_int) pa_nil))))))
      (pss_one
      (ps_ret (pe_tup (pa_cons (pv 6) (pa_cons (pv 8) (pa_cons (C8.pe_c C_law_formula hr (by omega) (by rfl) (pa_cons (pv 0) (pa_cons (pv 1) (pa_cons (pe_op op_sub (pe_op op_sub (pv 2) pe_int) (pv 7)) (pa_cons (pe_op op_sub (pv 3) pe_int) pa_nil))))) pa_nil)))))))))))) pss_nil)
      (pss_cons
      (ps_if (pt_cmpR op_eq (pe_op op_mod (pv 4) pe_int) pe_int (nomark _)) (pss_one
      (ps_ret (pe_tup (pa_cons pe_str (pa_cons (C8.pe_c C_law_formula hr (by omega) (by rfl) (pa_cons (pv 0) (pa_cons (pv 1) (pa_cons (pv 2) (pa_cons (pe_op op_sub (pv 3) pe_int) pa_nil))))) pa_nil))))) pss_nil)
      (pss_cons
      (ps_set (i := 6) sc_law_formula.nd rfl (Or.inl rfl) (pe_ix (ix_listK (K := K) rfl) (pe_lst (pa_cons pe_str (pa_cons pe_str (pa_cons pe_str (pa_cons pe_str pa_nil))))) (pe_op op_mod (pv 4) pe_int) (fun _ _ => rfl)))
      (C8.pss_cut
      (ps_if (PW.pt (pw_and (pt_cmpR op_eq (pv 3) pe_int (nomark _)) (pw_and1 (pt_cmpR op_eq (pv 6) pe_str (nomark _))))) (pss_one
      (ps_set (i := 6) sc_law_formula.nd rfl (Or.inl rfl) pe_str)) pss_nil)
      (pss_cons
      (ps_set (i := 7) sc_law_formula.nd rfl (Or.inl rfl) (C8.pe_c C_law_take hr (by omega) (by rfl) (pa_cons (pv 0) (pa_cons (pe_op op_add (pv 2) pe_int) pa_nil))))
      (pss_cons
      (ps_set (i := 8) sc_law_formula.nd rfl (Or.inl rfl) (C8.pe_c C_law_formula hr (by omega) (by rfl) (pa_cons (pv 0) (pa_cons (pv 1) (pa_cons (pv 7) (pa_cons (pe_op op_sub (pv 3) pe_int) pa_nil))))))
      (pss_one
      (ps_ret (pe_tup (pa_cons (pv 6) (pa_cons (pv 8) (pa_cons (C8.pe_c C_law_formula hr (by omega) (by rfl) (pa_cons (pv 0) (pa_cons (pv 1) (pa_cons (pe_op op_sub (pv 2) (pv 7)) (pa_cons (pe_op op_sub (pv 3) pe_int) pa_nil))))) pa_nil)))))))))))))), ?_⟩
    refine ⟨_, rfl, d, _, rfl, hd, by decide, fun r ds r0 r1 => ?_⟩
    have k1 : Kp d H (upd H d (.lst (ds.map V.int))) := Kp.own
    have d1 : Drw (upd H d (.lst (ds.map V.int))) d := Drw.own
    have hn1 := k1 _ _ hnd hn
    generalize upd H d (.lst (ds.map V.int)) = H1 at k1 d1 hn1 ⊢
    have leaf : tRet (tCall (spLeaf K) [] C8.E0 (tCons (tVar 0) (tCons (tVar 1) tNil))) { nx := fun _ _ => True, rt := Q } [some (.ref d), some (.ref na), some (.int b), some (.int (n : Int)), some (.int r), none, none, none, none] H1 := by
      refine ⟨_, rfl, _, rfl, d, na, nm, rfl, d1, hnd, hn1, hl, fun H2 v g k2 d2 g2 w2 z2 => q H2 v g (k1.trans k2) d2 g2 w2 (szd_leaf z2 n)⟩
    refine ⟨_, rfl, rfl, _, rfl, ite_eq (fun _ => leaf) (fun cn => ⟨_, rfl, _, _, rfl, rfl, _, rfl, ite_lt (fun _ => leaf) (fun c3 => ?_)⟩)⟩
    clear leaf
    obtain ⟨n', rfl⟩ : ∃ n', n = n' + 1 := ⟨n - 1, by omega⟩
    have hdp : (((n' + 1 : Nat) : Int) - 1) = (n' : Int) := by omega
    have rcl : ∀ (H2 : Hp) (b2 : Int) (Q2 : VK) (E2 : XK), Kp d H H2 → Drw H2 d → 0 ≤ b2 → b2 ≤ 1000 → (∀ (H' : Hp) (v : V) (g : Fm), Kp d H2 H' → Drw H' d → FmAt K H' v g → Wo nm g → Szd g n' → Q2 v H') → spForm K (n' + 1) [.ref d, .ref na, .int b2, .int (((n' + 1 : Nat) : Int) - 1)] H2 Q2 E2 := fun H2 b2 Q2 E2 k2 d2 z0 z1 q2 =>
      ⟨d, na, nm, b2, by rw [hdp], d2, hnd, k2 _ _ hnd hn, hl, z0, z1, q2⟩
    have fin1 : ∀ (H2 H3 : Hp) (s : Str) (v : V) (g : Fm), Kp d H H2 → Drw H2 d → s ∈ unOps → FmAt K H2 v g → Wo nm g → Szd g n' → ∀ t, H2 t = none → Q (.ref t) (upd H2 t (.tup [.str s, v])) := fun H2 H3 s v g k2 d2 hs hg hw hz t ht =>
      q _ _ (.un s g) (k2.trans (Kp.new ht)) (d2.new ht) ⟨t, v, rfl, .of upd_same, hg.same (same_new ht)⟩ ⟨hs, hw⟩ (szd_un s hz)
    have fin2 : ∀ (H2 : Hp) (s : Str) (v u : V) (g g2 : Fm), Kp d H H2 → Drw H2 d → s ∈ binOps → FmAt K H2 v g → Wo nm g → Szd g n' → FmAt K H2 u g2 → Wo nm g2 → Szd g2 n' → ∀ t, H2 t = none → Q (.ref t) (upd H2 t (.tup [.str s, v, u])) := fun H2 s v u g g2 k2 d2 hs hg hw hz hg2 hw2 hz2 t ht =>
      q _ _ (.bin s g g2) (k2.trans (Kp.new ht)) (d2.new ht) ⟨t, v, u, rfl, .of upd_same, hg.same (same_new ht), hg2.same (same_new ht)⟩ ⟨hs, hw, hw2⟩ (szd_bin s hz hz2)
    refine ⟨fun σ H' => σ = [some (.ref d), some (.ref na), some (.int b), some (.int ((n' + 1 : Nat) : Int)), some (.int r), none, none, none, none] ∧ H1 = H', ?_, ?_⟩
    · refine ⟨_, rfl, _, _, rfl, rfl, _, rfl, ite_lt (fun c1 => ⟨_, rfl, _, _, rfl, rfl, _, rfl, ite_lt (fun c2 => ?_) (fun _ => ⟨rfl, rfl⟩)⟩) (fun _ => ⟨rfl, rfl⟩)⟩
      refine ⟨by show 7 ≤ sizeLine; decide, fun t1 n1 => ?_⟩
      have k2 := k1.trans (Kp.new (o := .lst (L7.map V.str)) n1)
      have d2 := d1.new (o := .lst (L7.map V.str)) n1
      refine ⟨_, rfl, _, _, rfl, rfl, _, rfl, ite_lt (fun c4 => ?_) (fun c4 => ?_)⟩
      · obtain ⟨s, hs, ha⟩ := pick_at (ss := L7) (i := r - 3) (by omega) (by show r - 3 < 7; omega)
        refine ⟨_, rfl, _, rfl, _, _, rfl, rfl, t1, _, _, .str s, rfl, rfl, .of upd_same, ha, ?_⟩
        refine ⟨_, rfl, _, rfl, _, rfl, _, _, rfl, rfl, _, rfl, _, _, rfl, rfl, rcl _ _ _ C8.E0 k2 d2 (by omega) (by omega) fun H3 v g k3 d3 g3 w3 z3 => ?_⟩
        exact ⟨by show 2 ≤ sizeLine; decide, fun t ht => fin1 _ H3 s v g (k2.trans k3) d3 (l7_un s hs) g3 w3 z3 t ht⟩
      · obtain ⟨s, hs, ha⟩ := pick_at (ss := M7) (i := r - 10) (by omega) (by show r - 10 < 7; omega)
        refine ⟨by show 7 ≤ sizeLine; decide, fun t2 n2 => ?_⟩
        have k3 := k2.trans (Kp.new (o := .lst (M7.map V.str)) n2)
        have d3 := d2.new (o := .lst (M7.map V.str)) n2
        refine ⟨_, rfl, _, _, rfl, rfl, t2, _, _, .str s, rfl, rfl, .of upd_same, ha, ?_⟩
        refine ⟨fun σ H' => ∃ s' : Str, s' ∈ binOps ∧ σ = [some (.ref d), some (.ref na), some (.int b), some (.int ((n' + 1 : Nat) : Int)), some (.int r), some (.ref t1), some (.str s'), none, none] ∧ Kp d H H' ∧ Drw H' d, ?_, ?_⟩
        · refine ⟨_, rfl, rfl, _, rfl, ite_eq (fun _ => ⟨_, rfl, rfl, _, rfl, str_ite (fun _ => ?_) (fun _ => ?_)⟩) (fun _ => ?_)⟩
          · exact ⟨_, by decide, rfl, k3, d3⟩
          · exact ⟨s, m7_bin s hs, rfl, k3, d3⟩
          · exact ⟨s, m7_bin s hs, rfl, k3, d3⟩
        · rintro σ H4 ⟨s', hs', rfl, k4, d4⟩
          refine ⟨_, rfl, _, rfl, d, _, rfl, d4, c1, fun u us u0 u1 => ?_⟩
          have k5 : Kp d H (upd H4 d (.lst (us.map V.int))) := k4.trans Kp.own
          have d5 : Drw (upd H4 d (.lst (us.map V.int))) d := Drw.own
          generalize upd H4 d (.lst (us.map V.int)) = H5 at k5 d5 ⊢
          refine ⟨_, rfl, _, rfl, _, rfl, _, rfl, _, _, rfl, rfl, rcl _ _ _ C8.E0 k5 d5 (by omega) (by omega) fun H6 v g k6 d6 g6 w6 z6 => ?_⟩
          refine ⟨_, rfl, _, rfl, _, rfl, _, rfl, _, rfl, _, _, rfl, rfl, _, rfl, _, _, rfl, rfl, _, rfl, _, _, rfl, rfl, rcl _ _ _ C8.E0 (k5.trans k6) d6 (by omega) (by omega) fun H7 v2 g2 k7 d7 g7 w7 z7 => ?_⟩
          obtain ⟨ys, hys⟩ := d6
          exact ⟨by show 3 ≤ sizeLine; decide, fun t ht => fin2 H7 s' v v2 g g2 ((k5.trans k6).trans k7) d7 hs' (g6.kp hys k7) w6 z6 g7 w7 z7 t ht⟩
    · rintro σ H' ⟨rfl, rfl⟩
      refine ⟨_, rfl, _, _, rfl, rfl, by show (0 : Int) < 5; decide, rfl, _, rfl, ite_eq (fun _ => ?_) (fun _ => ?_)⟩
      · refine ⟨_, rfl, _, rfl, _, rfl, _, rfl, _, _, rfl, rfl, rcl _ _ _ C8.E0 k1 d1 hb0 hb1 fun H3 v g k3 d3 g3 w3 z3 => ?_⟩
        exact ⟨by show 2 ≤ sizeLine; decide, fun t ht => fin1 _ H3 _ v g (k1.trans k3) d3 (by decide) g3 w3 z3 t ht⟩
      · obtain ⟨s, hs, ha⟩ := pick_at (ss := L4) (i := r % 4) (Int.emod_nonneg _ (by decide)) (Int.emod_lt_of_pos _ (by decide))
        refine ⟨by show 4 ≤ sizeLine; decide, fun t2 n2 => ?_⟩
        have k3 := k1.trans (Kp.new (o := .lst (L4.map V.str)) n2)
        have d3 := d1.new (o := .lst (L4.map V.str)) n2
        refine ⟨_, rfl, _, _, rfl, rfl, by show (0 : Int) < 4; decide, t2, _, _, .str s, rfl, rfl, .of upd_same, ha, ?_⟩
        refine ⟨fun σ H' => ∃ s' : Str, s' ∈ binOps ∧ σ = [some (.ref d), some (.ref na), some (.int b), some (.int ((n' + 1 : Nat) : Int)), some (.int r), none, some (.str s'), none, none] ∧ Kp d H H' ∧ Drw H' d, ?_, ?_⟩
        · refine ⟨_, rfl, rfl, _, rfl, ite_eq (fun _ => ⟨_, rfl, rfl, _, rfl, str_ite (fun _ => ?_) (fun _ => ?_)⟩) (fun _ => ?_)⟩
          · exact ⟨_, by decide, rfl, k3, d3⟩
          · exact ⟨s, l4_bin s hs, rfl, k3, d3⟩
          · exact ⟨s, l4_bin s hs, rfl, k3, d3⟩
        · rintro σ H4 ⟨s', hs', rfl, k4, d4⟩
          refine ⟨_, rfl, _, rfl, _, _, rfl, rfl, d, _, rfl, d4, by omega, fun u us u0 u1 => ?_⟩
          have k5 : Kp d H (upd H4 d (.lst (us.map V.int))) := k4.trans Kp.own
          have d5 : Drw (upd H4 d (.lst (us.map V.int))) d := Drw.own
          generalize upd H4 d (.lst (us.map V.int)) = H5 at k5 d5 ⊢
          refine ⟨_, rfl, _, rfl, _, rfl, _, rfl, _, _, rfl, rfl, rcl _ _ _ C8.E0 k5 d5 (by omega) (by omega) fun H6 v g k6 d6 g6 w6 z6 => ?_⟩
          refine ⟨_, rfl, _, rfl, _, rfl, _, rfl, _, rfl, _, rfl, _, _, rfl, rfl, _, rfl, _, _, rfl, rfl, rcl _ _ _ C8.E0 (k5.trans k6) d6 (by omega) (by omega) fun H7 v2 g2 k7 d7 g7 w7 z7 => ?_⟩
          obtain ⟨ys, hys⟩ := d6
          exact ⟨by show 3 ≤ sizeLine; decide, fun t ht => fin2 H7 s' v v2 g g2 ((k5.trans k6).trans k7) d7 hs' (g6.kp hys k7) w6 z6 g7 w7 z7 t ht⟩
theorem cal_form (T : Txt K mg) : ∀ n, C8.Cal P w K mg base (2 + n) "_law_formula" (spForm K n) []
  | 0 => by
    obtain ⟨f, fd, F, hm, hb⟩ := T.h_law_formula
    exact ⟨f, fd, _, [], ⟨fun vs H Q E h => h.elim, fun A outer s H args us vs Q E _ _ _ _ h => h.elim⟩, hm, F.kp, hb, .nil⟩
  | n + 1 => cal_form_step T (cal_form T n)
theorem cal_checkX {cL : Addr} (T : Txt K mg) (eL : ErrC K mg "InvalidLetter" cL) : CalX P w K mg base 1 "check_letters" (spCheckX cL) := by
  obtain ⟨f, fd, F, hm, hb⟩ := T.h_check_letters
  refine ⟨f, fd, _, F.okX sc_check_letters (fun vs H Q E h => ?_) (fun cdv A outer s H vs Q E hr h => ?_), hm, F.kp, hb⟩
  · obtain ⟨p, h, l, n, rfl, _⟩ := h
    rfl
  · obtain ⟨p, h, l, n, rfl, ⟨a, b, e1, e2, e3⟩, hne, hh, hl, q1, q2⟩ := h
    have t2 : TupI H a h := e2
    have t3 : TupI H b l := e3
    refine ⟨_, (pss_cons
      (ps_asg (pv 0) (pg_tup (by rfl) (pgs_cons (pg_name (i := 2) sc_check_letters.nd rfl (.inl rfl)) (pgs_cons (pg_name (i := 3) sc_check_letters.nd rfl (.inl rfl)) pgs_nil))))
      (pss_one
      (ps_if (pt_cmpR op_ge (pe_callB (call_maxT (K := K) rfl rfl) (by rfl) T.z_max (by decide +kernel) (pa_cons (pe_op (op_catK (K := K) rfl) (pv 2) (pv 3)) pa_nil)) (pv 1) (nomark _)) (pss_one
      (ps_raise rfl (takes_of rfl rfl rfl rfl) (eL.made rfl))) pss_nil))), ?_⟩
    refine ⟨_, rfl, p, _, rfl, .of e1, rfl, _, _, rfl, _, _, rfl, rfl, ?_⟩
    refine ⟨_, rfl, _, rfl, ?_⟩
    refine catq t2 t3 (by omega) fun H1 p1 s1 e4 => ?_
    refine ⟨p1, h ++ l, rfl, .of e4, fun z => hne (List.append_eq_nil_iff.mp z).2, fun m hm hmax => ⟨_, rfl, _, _, rfl, rfl, _, rfl, ?_⟩⟩
    refine ite2 (fun c => ?_) (fun c => ?_)
    · exact q1 ⟨m, List.mem_append.mp hm, of_decide_eq_true c⟩ H1 s1
    · refine q2 (fun x hx => ?_) H1 s1
      have x1 := hmax x (List.mem_append.mpr hx)
      have x2 : ¬ (n : Int) ≤ m := fun z => c (decide_eq_true z)
      omega
theorem rep1q {K : PySem.W.Frag} {H : Hp} {a : Addr} {xs : List Int} {k : Int} {n : Nat} {Q : VK} (h : TupI H a xs) (hne : xs ≠ []) (ek : k = (n : Int)) (h1 : 1 ≤ n) (h2 : n ≤ 1000) (hl : xs.length ≤ 1000)
    (q : ∀ (H' : Hp) (p : Addr), Same H H' → TupI H' p ((List.replicate n xs).flatten) → Q (.ref p) H') : rRep1 K (.ref a) (.int k) H Q := by
  subst ek
  refine ⟨a, _, _, rfl, rfl, .of h, fun z => hne (List.map_eq_nil_iff.mp z), by omega, by omega, by rw [List.length_map]; exact hl, fun e => ?_, fun _ p hp => ?_⟩
  · have e1 : n = 1 := by omega
    subst e1
    refine q H a (Same.refl H) ?_
    show H a = some (.tup ((List.flatten [xs]).map V.int))
    rw [List.flatten_singleton]
    exact h
  · refine q _ p (same_new hp) ?_
    unfold TupI
    rw [upd_same, Int.toNat_natCast, List.map_flatten, List.map_replicate]
theorem rep_wat {h l : List Int} (hl : l ≠ []) : ∀ n, h ++ (List.replicate n l).flatten = (List.range (h.length + n * l.length)).map (wat h l)
  | 0 => by
    rw [List.replicate_zero, List.flatten_nil, List.append_nil, Nat.zero_mul, Nat.add_zero]
    apply List.ext_getElem?
    intro i
    rw [List.getElem?_map]
    by_cases c : i < h.length
    · rw [List.getElem?_range c, List.getElem?_eq_getElem c]
      unfold wat
      simp [c]
    · rw [List.getElem?_eq_none (by omega), List.getElem?_eq_none (by rw [List.length_range]; omega)]
      rfl
  | n + 1 => by
    have hp : 0 < l.length := List.length_pos_iff.mpr hl
    rw [List.replicate_succ', List.flatten_append, ← List.append_assoc, rep_wat hl n, List.flatten_singleton]
    rw [show h.length + (n + 1) * l.length = (h.length + n * l.length) + l.length by rw [Nat.succ_mul, Nat.add_assoc]]
    obtain ⟨B, hB⟩ : ∃ B, B = h.length + n * l.length := ⟨_, rfl⟩
    rw [← hB, List.range_add, List.map_append, List.map_map]
    congr 1
    apply List.ext_getElem?
    intro i
    rw [List.getElem?_map]
    by_cases c : i < l.length
    · rw [List.getElem?_range c, List.getElem?_eq_getElem c]
      show some l[i] = some (wat h l (B + i))
      unfold wat
      rw [if_neg (by omega), show B + i - h.length = i + n * l.length by omega, Nat.add_mul_mod_self_right, Nat.mod_eq_of_lt c]
      simp [c]
    · rw [List.getElem?_eq_none (by omega), List.getElem?_eq_none (by rw [List.length_range]; omega)]
      rfl
/-- a word cut where it repeats -/
theorem cut_wat {m L : Nat} {f : Nat → Int} (hL : 0 < L) (hf : ∀ t, m ≤ t → f (t + L) = f t) (t : Nat) : wat (((List.range (m + L)).map f).take m) (((List.range (m + L)).map f).drop m) t = f t := by
  have e1 : (((List.range (m + L)).map f).take m).length = m := by
    rw [List.length_take, List.length_map, List.length_range]
    omega
  have e2 : (((List.range (m + L)).map f).drop m).length = L := by
    rw [List.length_drop, List.length_map, List.length_range]
    omega
  have g : ∀ j, j < m + L → ((List.range (m + L)).map f)[j]? = some (f j) := fun j hj => by rw [List.getElem?_map, List.getElem?_range hj]; rfl
  unfold wat
  rw [e1, e2]
  by_cases c : t < m
  · rw [if_pos c, List.getD_eq_getElem?_getD, List.getElem?_take, if_pos c, g t (by omega)]
    rfl
  · have hk := Nat.mod_lt (t - m) hL
    rw [if_neg c, List.getD_eq_getElem?_getD, List.getElem?_drop, g _ (by omega)]
    show f (m + (t - m) % L) = f t
    have per : ∀ q, f (m + (t - m) % L + q * L) = f (m + (t - m) % L) := fun q => by
      induction q with
      | zero => rw [Nat.zero_mul]; rfl
      | succ q ih => rw [Nat.succ_mul, ← Nat.add_assoc, hf _ (by omega), ih]
    have e := per ((t - m) / L)
    have d := Nat.mod_add_div (t - m) L
    rw [← e]
    congr 1
    rw [Nat.mul_comm] at d
    omega
theorem wat_pd {h l : List Int} (hl : l ≠ []) (t : Nat) (ht : h.length ≤ t) : wat h l (t + l.length) = wat h l t := by
  unfold wat
  rw [if_neg (by omega), if_neg (by omega), show t + l.length - h.length = t - h.length + l.length by omega, Nat.add_mod_right]
theorem wat_mem {h l : List Int} (hl : l ≠ []) (t : Nat) : wat h l t ∈ h ∨ wat h l t ∈ l := by
  have hp : 0 < l.length := List.length_pos_iff.mpr hl
  unfold wat
  by_cases c : t < h.length
  · rw [if_pos c]
    exact .inl (by simp [c])
  · rw [if_neg c]
    have := Nat.mod_lt (t - h.length) hp
    exact .inr (by simp [this])
def spTwX (K : PySem.W.Frag) (cL : Addr) : Sp := fun vs H Q E => ∃ (v : V) (n p : Addr) (f : Fm) (nm : List Str) (h l : List Int), vs = [v, .ref n, .ref p] ∧ FmAt K H v f ∧ SqL K H n (nm.map V.str) ∧ nm.length ≤ 30 ∧ Wf nm f ∧ sz f ≤ 500 ∧ Las H p h l ∧ l ≠ [] ∧ h.length ≤ 100 ∧ l.length ≤ 100 ∧
  (∀ z, z ∈ h ∨ z ∈ l → 0 ≤ z) ∧ ((∃ z, (z ∈ h ∨ z ∈ l) ∧ 2 ^ nm.length ≤ z) → ∀ H', Same H H' → E (.ref cL) none H') ∧
  ((∀ z, z ∈ h ∨ z ∈ l → z < 2 ^ nm.length) → ∀ (H' : Hp) (q : Addr) (h' l' : List Int), Same H H' → Las H' q h' l' → Nrm h' l' → h'.length ≤ 100000 → l'.length ≤ 100 → (∀ t, wat h' l' t = bi (sem nm (wat h l) f t)) → Q (.ref q) H')
theorem cal_twX {cL : Addr} (T : Txt K mg) (eL : ErrC K mg "InvalidLetter" cL) : CalX P w K mg base 5 "truth_word" (spTwX K cL) := by
  have X_check_letters : CalX P w K mg base 1 "check_letters" (spCheckX cL) := cal_checkX T eL
  have C_shortest_lasso : C8.Cal P w K mg base 2 "shortest_lasso" spShort [] := cal_short T
  have C_number_parts : C8.Cal P w K mg base 3 "number_parts" (spParts K) [] := cal_parts T
  have C_part_values : C8.Cal P w K mg base 4 "part_values" (spPv K) [] := cal_pv T
  obtain ⟨aF, aP, aS, aB, gF, gP, gS, gB⟩ := glo T
  obtain ⟨f, fd, F, hm, hb⟩ := T.h_truth_word
  refine ⟨f, fd, _, F.okX sc_truth_word (fun vs H Q E h => ?_) (fun cdv A outer s H vs Q E hr h => ?_), hm, F.kp, hb⟩
  · obtain ⟨v, n, p, f, nm, h, l, rfl, _⟩ := h
    rfl
  · obtain ⟨v, n, p, f, nm, h, l, rfl, hf, hn, hnl, hw, hz, hlas, hne, hh, hl, hge, qx, q0⟩ := h
    refine ⟨_, (pss_cons
      (ps_expr (pe_cx X_check_letters hr (by decide) (takes_of rfl rfl rfl rfl) (by rfl) (pa_cons (pv 2) (pa_cons (pe_op op_shl pe_int (pe_callB (call_lenK (K := K) rfl) (by rfl) T.z_len PySem.boot_len (pa_cons (pv 1) pa_nil))) pa_nil))))
      (pss_cons
      (ps_asg (C8.pe_c C_shortest_lasso hr (by decide) (by rfl) (pa_cons (pe_ix (ix_tupK (K := K) rfl) (pv 2) pe_int (fun _ _ => rfl)) (pa_cons (pe_ix (ix_tupK (K := K) rfl) (pv 2) pe_int (fun _ _ => rfl)) pa_nil))) (pg_tup (by rfl) (pgs_cons (pg_name (i := 3) sc_truth_word.nd rfl (.inl rfl)) (pgs_cons (pg_name (i := 4) sc_truth_word.nd rfl (.inl rfl)) pgs_nil))))
      (pss_cons
      (ps_set (i := 5) sc_truth_word.nd rfl (Or.inl rfl) (C8.pe_c C_number_parts hr (by decide) (by rfl) (pa_cons (pv 0) (pa_cons (pv 1) pa_nil))))
      (pss_cons
      (ps_set (i := 6) sc_truth_word.nd rfl (Or.inl rfl) (pe_callB (call_lenK (K := K) rfl) (by rfl) T.z_len PySem.boot_len (pa_cons (pe_lc (own := [("part", 10)]) (g := gName 10) rfl sc_truth_word.nd (pi_list (pv 5)) (blkOk_by (N := N_truth_word) (sc := defScope s_truth_word) (by decide +kernel)) (fun _ _ _ _ _ => (pg_name (i := 10) sc_truth_word.nd rfl (Or.inl rfl))) (fun _ _ _ _ _ => (pts_one (pt_cmpR (op_inK (K := K) rfl) (pe_ix (ix_tupK (K := K) rfl) (pv 10) pe_int (fun _ _ => rfl)) (pe_glob (v := .ref aP) (by rfl) gP.g rfl) (by rfl)))) (fun _ _ _ _ _ => (pv 10))) pa_nil)))
      (pss_cons
      (ps_set (i := 7) sc_truth_word.nd rfl (Or.inl rfl) (pe_op (op_catK (K := K) rfl) (pv 3) (pe_op (op_rep1K (K := K) rfl) (pv 4) (pe_op op_add (pv 6) pe_int))))
      (pss_cons
      (ps_set (i := 8) sc_truth_word.nd rfl (Or.inl rfl) (pe_op op_sub (pe_callB (call_lenK (K := K) rfl) (by rfl) T.z_len PySem.boot_len (pa_cons (pv 7) pa_nil)) (pe_callB (call_lenK (K := K) rfl) (by rfl) T.z_len PySem.boot_len (pa_cons (pv 4) pa_nil))))
      (pss_cons
      (ps_set (i := 9) sc_truth_word.nd rfl (Or.inl rfl) (pe_ix (ix_listK (K := K) rfl) (C8.pe_c C_part_values hr (by decide) (by rfl) (pa_cons (pv 5) (pa_cons (pv 7) (pa_cons (pv 8) pa_nil)))) (pe_un un_neg pe_int) (fun _ _ => rfl)))
      (pss_one
      (ps_ret (C8.pe_c C_shortest_lasso hr (by decide) (by rfl) (pa_cons (pe_slice (sl_listK (K := K) rfl) (pv 9) po_none (po_some (pv 8))) (pa_cons (pe_slice (sl_listK (K := K) rfl) (pv 9) (po_some (pv 8)) po_none) pa_nil)))))))))))), ?_⟩
    refine ⟨_, rfl, _, rfl, n, _, rfl, .inl hn, _, _, rfl, rfl, ⟨by omega, by rw [List.length_map]; omega, by decide⟩, ?_⟩
    walk_at "nl"
    have epw : (1 : Int) * 2 ^ ((((nm.map V.str).length : Nat) : Int)).toNat = 2 ^ nm.length := by rw [List.length_map, Int.toNat_natCast, Int.one_mul]
    refine ⟨p, h, l, _, rfl, hlas, hne, by omega, by omega, fun z H1 s1 => qx (by rw [← epw]; exact z) H1 s1, fun hlt0 H1 s1 => ?_⟩
    rw [epw] at hlt0
    have q := q0 hlt0
    have hlt : ∀ z, z ∈ h ∨ z ∈ l → 0 ≤ z ∧ z < 2 ^ nm.length := fun z hz => ⟨hge z hz, hlt0 z hz⟩
    obtain ⟨a, b, e1, e2, e3⟩ := hlas.same s1
    refine ⟨_, rfl, p, _, _, _, rfl, rfl, .of e1, rfl, ?_⟩
    refine ⟨_, rfl, p, _, _, _, rfl, rfl, .of e1, rfl, ?_⟩
    walk_at "nl"
    refine ⟨a, b, h, l, rfl, .inr e2, .inr e3, hne, by omega, by omega, fun H2 p1 h1 l1 s2 las1 S1 => ?_⟩
    obtain ⟨a1, b1, g1, g2, g3⟩ := las1
    refine ⟨p1, _, rfl, .of g1, rfl, _, _, rfl, _, _, rfl, rfl, ?_⟩
    have s02 := s1.trans s2
    refine ⟨_, rfl, _, rfl, v, n, f, nm, rfl, hf.same s02, s02.seq hn, hw, by omega, fun H3 pp as P Fs s3 hpp hpt G hlast hPl => ?_⟩
    -- rounds
    refine ⟨_, rfl, pp, rfl, ⟨_, .of hpp⟩, fun D hD => ?_⟩
    have hal := pts_len hpt
    refine lc_list (K := K) (a := pp) (xs := as.map V.ref) (fun j H4 => Same H3 H4 ∧ ∃ ys : List V, H4 D = some (.lst ys) ∧ ys.length = pc (P.take j) ∧ ys.length ≤ j)
      ⟨same_new hD, [], upd_same, rfl, Nat.le_refl _⟩ (fun j H4 _ ⟨z, _⟩ => .of (z _ _ hpp)) ?_ ?_
    · rintro j y H4 hj ⟨s4, ys, eD, ey, ely⟩
      obtain ⟨t, ht, rfl⟩ := refs_get hj
      obtain ⟨pt, hpi, het⟩ := pts_get hpt ht
      have hpc := pc_take hpi
      refine ⟨rfl, _, rfl, t, _, _, .str pt.1, rfl, rfl, .of (s4 _ _ het), rfl, ?_⟩
      try unfold L2.tC
      show rIn K false (.str pt.1) (.ref aP) _ _
      refine inq (gP.q _) ⟨_, rfl, ?_⟩
      unfold tb at hpc
      refine ite2 (fun c => ?_) (fun c => ?_)
      · rw [if_pos (of_decide_eq_true c)] at hpc
        have hjl := (List.getElem?_eq_some_iff.mp ht).1
        refine ⟨_, rfl, ys, eD, Nat.lt_of_le_of_lt (show ys.length ≤ 1000 by omega) (by decide), fun x u hc => ?_, ys ++ [_], upd_same, by rw [List.length_append, hpc, ey]; rfl, by rw [List.length_append]; exact Nat.add_le_add_right ely 1⟩
        rw [upd_ne (ne_of_none hc hD)]
        exact s4 _ _ hc
      · rw [if_neg (fun z => c (decide_eq_true z))] at hpc
        exact ⟨s4, ys, eD, by rw [hpc, ey]; rfl, by omega⟩
    · rintro H4 ⟨s4, ys, eD, ey, ely⟩
      rw [List.length_map, hal, List.take_length] at ey
      rw [List.length_map, hal] at ely
      refine ⟨D, _, rfl, .inl (.of eD), ?_⟩
      rw [ey]
      have hne1 := S1.ne
      have hL : 0 < l1.length := List.length_pos_iff.mpr hne1
      have hl1 := S1.ll
      have hh1 := S1.hl
      have hpcl : pc P ≤ 500 := Nat.le_trans (List.length_filter_le _ _) (by omega)
      have s34 := s3.trans s4
      -- letters
      refine ⟨_, rfl, _, rfl, _, rfl, _, _, rfl, rfl, ?_⟩
      refine rep1q (n := pc P + 1) (s34 _ _ g3) hne1 (by omega) (by omega) (by omega) (by omega) fun H5 p5 s5 e5 => ?_
      have q5 : ((List.replicate (pc P + 1) l1).flatten).length = (pc P + 1) * l1.length := by
        rw [List.length_flatten, List.map_replicate, List.sum_replicate_nat]
      have mulle : pc P * l1.length ≤ 500 * 100 := Nat.mul_le_mul hpcl (by omega)
      have mul1 : (pc P + 1) * l1.length = pc P * l1.length + l1.length := Nat.succ_mul _ _
      refine catq (s5 _ _ (s34 _ _ g2)) e5 (by rw [q5]; omega) fun H6 p6 s6 e6 => ?_
      rw [rep_wat hne1 (pc P + 1), mul1, ← Nat.add_assoc] at e6
      obtain ⟨m, hmv⟩ : ∃ m, m = h1.length + pc P * l1.length := ⟨_, rfl⟩
      rw [← hmv] at e6
      have s36 := (s34.trans s5).trans s6
      have e6' : H6 p6 = some (.tup (((List.range (m + l1.length)).map (wat h1 l1)).map V.int)) := e6
      have l6 : (((List.range (m + l1.length)).map (wat h1 l1)).map V.int).length = m + l1.length := by rw [List.length_map, List.length_map, List.length_range]
      have l3 : (l1.map V.int).length = l1.length := List.length_map _
      -- back
      refine ⟨_, rfl, p6, _, rfl, .inr (.of e6'), _, rfl, b1, _, rfl, .inr (.of (s36 _ _ g3)), _, _, rfl, rfl, ?_⟩
      rw [l6, l3]
      dsimp only
      rw [show (((m + l1.length : Nat) : Int) - (l1.length : Int)) = (m : Int) by omega]
      -- values
      have hxp : ∀ t, h1.length ≤ t → wat h1 l1 (t + l1.length) = wat h1 l1 t := fun t ht => wat_pd hne1 t ht
      refine ⟨_, rfl, _, rfl, _, rfl, pp, p6, h1.length, m, l1.length, as, P, Fs, nm, wat h1 l1, rfl, (s4.trans (s5.trans s6)) _ _ hpp, pts_same (s4.trans (s5.trans s6)) hpt, by omega, e6, hL, by omega, by omega, hxp, fun t => ?_, G, fun H7 fo fs s7 hfo hA => ?_⟩
      · rcases wat_mem hne1 t with z | z
        · exact (hlt _ (.inl (S1.memH _ z))).1
        · exact (hlt _ (.inr (S1.memL _ z))).1
      have hfl := arrs_len hA
      rw [List.length_map] at hfl
      obtain ⟨Fs0, rfl⟩ := List.getLast?_eq_some_iff.mp hlast
      have hfne : fs ≠ [] := fun z => by rw [z, List.length_append] at hfl; simp at hfl
      obtain ⟨fs0, u, rfl⟩ : ∃ fs0 u, fs = fs0 ++ [u] := ⟨fs.dropLast, fs.getLast hfne, (List.dropLast_concat_getLast hfne).symm⟩
      have hfl0 : fs0.length = Fs0.length := by rw [List.length_append, List.length_append] at hfl; simpa using hfl
      obtain ⟨u', hu', hAu⟩ := arrs_get (i := Fs0.length) (s := sem nm (wat h1 l1) f) hA (by rw [List.map_append, List.getElem?_append_right (by rw [List.length_map]; exact Nat.le_refl _), List.length_map, Nat.sub_self]; rfl)
      have hu2 : u' = u := by
        rw [List.getElem?_append_right (by omega), hfl0, Nat.sub_self] at hu'
        exact (Option.some.inj hu').symm
      rw [hu2] at hAu
      refine ⟨1, rfl, fo, _, _, .ref u, rfl, rfl, .of hfo, by rw [List.map_append]; exact atI_last _ _, ?_⟩
      have hAu' : H7 u = some (.lst (((List.range (m + l1.length)).map fun t => bi (sem nm (wat h1 l1) f t)).map V.int)) := by
        unfold Arr at hAu
        rw [hAu, List.map_map]
        rfl
      -- the word
      refine ⟨_, rfl, _, rfl, m, rfl, ?_⟩
      refine sll_to hAu' rfl fun p8 n8 => ?_
      have g8 := same_new (o := .lst (((((List.range (m + l1.length)).map fun t => bi (sem nm (wat h1 l1) f t)).take m)).map V.int)) n8 _ _ hAu'
      refine ⟨_, rfl, _, rfl, _, rfl, ?_⟩
      refine sll_from g8 rfl (by rw [List.length_map, List.length_range]; omega) fun p9 n9 => ?_
      walk_at "nl"
      have s9 := (same_new (o := .lst (((((List.range (m + l1.length)).map fun t => bi (sem nm (wat h1 l1) f t)).take m)).map V.int)) n8)
      have sA := (same_new (o := .lst (((((List.range (m + l1.length)).map fun t => bi (sem nm (wat h1 l1) f t)).drop m)).map V.int)) n9)
      have t1 := sA _ _ (upd_same (H := H7) (a := p8) (o := .lst (((((List.range (m + l1.length)).map fun t => bi (sem nm (wat h1 l1) f t)).take m)).map V.int)))
      refine ⟨p8, p9, _, _, rfl, .inl t1, .inl upd_same, fun z => ?_, ?_, ?_, fun HB pb hb lb sB lasB SB => ?_⟩
      · have := congrArg List.length z
        rw [List.length_drop, List.length_map, List.length_range] at this
        have h0 : m + l1.length - m = 0 := this
        omega
      · rw [List.length_take, List.length_map, List.length_range]
        omega
      · rw [List.length_drop, List.length_map, List.length_range]
        omega
      · refine q HB pb hb lb ((s02.trans s36).trans (s7.trans (s9.trans (sA.trans sB)))) lasB SB.nrm ?_ ?_ fun t => ?_
        · exact Nat.le_trans SB.hl (by rw [List.length_take, List.length_map, List.length_range]; omega)
        · exact Nat.le_trans SB.ll (by rw [List.length_drop, List.length_map, List.length_range]; omega)
        have hper : Pd (sem nm (wat h1 l1) f) m l1.length := by
          refine (sem_pd hL hxp f).up ?_
          have z1 := pd_pc G Fs0.length f (by simp)
          have hlp : P.length = Fs0.length + 1 := by rw [G.len]; simp
          rw [← hlp, List.take_length] at z1
          have := Nat.mul_le_mul_right l1.length z1
          omega
        rw [SB.same, cut_wat hL (fun t ht => by show bi _ = bi _; rw [hper t ht])]
        congr 2
        funext t
        exact S1.same t
def ArrB (H : Hp) (a : Addr) (N : Nat) (s : Nat → Bool) : Prop := H a = some (.lst ((List.range N).map fun t => V.bl (s t)))
theorem arrb_get {N t : Nat} {s : Nat → Bool} (h : t < N) : ((List.range N).map fun t => V.bl (s t))[t]? = some (.bl (s t)) := by
  rw [List.getElem?_map, List.getElem?_range h]
  rfl
theorem arrb_len {N : Nat} {s : Nat → Bool} : ((List.range N).map fun t => V.bl (s t)).length = N := by rw [List.length_map, List.length_range]
theorem arrb_set {N i : Nat} {s : Nat → Bool} {c : Bool} : ((List.range N).map fun t => V.bl (s t)).set i (.bl c) = (List.range N).map fun t => V.bl (if t = i then c else s t) := by
  apply List.ext_getElem?
  intro j
  rw [List.getElem?_set]
  by_cases h : i = j
  · subst h
    rw [if_pos rfl, arrb_len]
    by_cases hl : i < N
    · rw [if_pos hl, arrb_get hl, if_pos rfl]
    · rw [if_neg hl, List.getElem?_eq_none (by rw [arrb_len]; omega)]
  · rw [if_neg h, List.getElem?_map, List.getElem?_map]
    by_cases hl : j < N
    · rw [List.getElem?_range hl]
      simp [show ¬ j = i from fun z => h z.symm]
    · rw [List.getElem?_eq_none (by rw [List.length_range]; omega)]
      rfl
theorem arrb_rep {N : Nat} {c : Bool} : ((List.replicate N [V.bl c]).flatten) = (List.range N).map fun t => V.bl ((fun _ => c) t) := by
  induction N with
  | zero => rfl
  | succ n ih =>
    rw [List.replicate_succ', List.flatten_append, ih, List.range_succ, List.map_append]
    rfl
theorem arrb_ext {N : Nat} {xs : List V} {s : Nat → Bool} (hl : xs.length = N) (h : ∀ t, t < N → xs[t]? = some (.bl (s t))) : xs = (List.range N).map fun t => V.bl (s t) := by
  apply List.ext_getElem?
  intro t
  by_cases c : t < N
  · rw [h t c, arrb_get c]
  · rw [List.getElem?_eq_none (by omega), List.getElem?_eq_none (by rw [arrb_len]; omega)]
theorem arrb_congr {N : Nat} {s r : Nat → Bool} (h : ∀ t, t < N → s t = r t) : ((List.range N).map fun t => V.bl (s t)) = (List.range N).map fun t => V.bl (r t) :=
  List.map_congr_left fun t ht => by rw [h t (List.mem_range.mp ht)]
def lgB (k : Str) (a b : Bool) : Bool := if k = "not" then !a else if k = "and" then a && b else if k = "or" then a || b else if k = "implies" then b || !a else a == b
def spLogic : Sp := fun vs H Q _ => ∃ (k : Str) (a b : Bool), vs = [.str k, .bl a, .bl b] ∧ Q (.bl (lgB k a b)) H
def T9 : List Str := ["eventually", "once", "always", "historically", "release", "trigger", "until", "weak_until", "since"]
def spFold : Sp := fun vs H Q _ => ∃ (k : Str) (a b c : Bool), vs = [.str k, .bl a, .bl b, .bl c] ∧ k ∈ T9 ∧ ∀ H', Same H H' → Q (.bl (tofB k a b c)) H'
def spShift : Sp := fun vs H Q _ => ∃ (k : Str) (l : Addr) (m L : Nat) (a b : Nat → Bool), vs = [.str k, .ref l, .int m] ∧ k ∈ steps ∧ 0 < L ∧ Pd a m L ∧ ArrB H l (m + L) a ∧ m + L ≤ 1000000 ∧ ∀ (H' : Hp) (p : Addr), Same H H' → ArrB H' p (m + L) (sq k a b) → Q (.ref p) H'
def spFixed : Sp := fun vs H Q _ => ∃ (k : Str) (l r : Addr) (m L : Nat) (a b : Nat → Bool), vs = [.str k, .ref l, .ref r, .int m] ∧ k ∈ T9 ∧ 0 < L ∧ Pd a m L ∧ Pd b m L ∧ ArrB H l (m + L) a ∧ ArrB H r (m + L) b ∧ m + L ≤ 1000000 ∧
  ∀ (H' : Hp) (p : Addr), Same H H' → ArrB H' p (m + L) (sq k a b) → Q (.ref p) H'
theorem cal_logic (T : Txt K mg) : C8.Cal P w K mg base 1 "_law_logic" spLogic [] := by
  obtain ⟨f, fd, F, hm, hb⟩ := T.h_law_logic
  refine ⟨f, fd, _, [], F.ok sc_law_logic (fun vs H Q E h => ?_) (fun cdv A outer s H vs Q E hr h => ?_), hm, F.kp, hb, .nil⟩
  · obtain ⟨k, a, b, rfl, _⟩ := h
    rfl
  · obtain ⟨k, a, b, rfl, q⟩ := h
    refine ⟨_, (pss_cons
      (ps_if (pt_cmpR op_eq (pv 0) pe_str (nomark _)) (pss_one
      (ps_ret (pe_not (pv 1)))) pss_nil)
      (pss_cons
      (ps_if (pt_cmpR op_eq (pv 0) pe_str (nomark _)) (pss_one
      (ps_ret (pe_and (pv 1) (pe_one (pv 2))))) pss_nil)
      (pss_cons
      (ps_if (pt_cmpR op_eq (pv 0) pe_str (nomark _)) (pss_one
      (ps_ret (pe_or (pv 1) (pe_one (pv 2))))) pss_nil)
      (pss_cons
      (ps_if (pt_cmpR op_eq (pv 0) pe_str (nomark _)) (pss_one
      (ps_ret (pe_or (pv 2) (pe_one (pe_not (pv 1)))))) pss_nil)
      (pss_one
      (ps_ret (pe_cmpR op_eq (pv 1) (pv 2) (nomark _)))))))), ?_⟩
    unfold lgB at q
    refine ⟨_, rfl, rfl, _, rfl, str_ite (fun c => ?_) (fun c1 => ?_)⟩
    · rw [if_pos c] at q
      exact ⟨_, rfl, a, rfl, q⟩
    rw [if_neg c1] at q
    refine ⟨_, rfl, rfl, _, rfl, str_ite (fun c => ?_) (fun c2 => ?_)⟩
    · rw [if_pos c] at q
      refine ⟨_, rfl, a, rfl, ?_⟩
      cases a with
      | true => exact iteT ⟨_, rfl, q⟩
      | false => exact iteF q
    rw [if_neg c2] at q
    refine ⟨_, rfl, rfl, _, rfl, str_ite (fun c => ?_) (fun c3 => ?_)⟩
    · rw [if_pos c] at q
      refine ⟨_, rfl, a, rfl, ?_⟩
      cases a with
      | true => exact iteT q
      | false => exact iteF ⟨_, rfl, q⟩
    rw [if_neg c3] at q
    refine ⟨_, rfl, rfl, _, rfl, str_ite (fun c => ?_) (fun c4 => ?_)⟩
    · rw [if_pos c] at q
      refine ⟨_, rfl, b, rfl, ?_⟩
      cases b with
      | true => exact iteT q
      | false => exact iteF ⟨_, rfl, a, rfl, q⟩
    rw [if_neg c4] at q
    refine ⟨_, rfl, _, rfl, rfl, ?_⟩
    have e : decide (V.bl a = V.bl b) = (a == b) := by cases a <;> cases b <;> rfl
    rw [e]
    exact q
theorem t9_last {k : Str} (h : k ∈ T9) (h1 : ¬ k ∈ (["eventually", "once"] : List Str)) (h2 : ¬ k ∈ (["always", "historically"] : List Str)) (h3 : ¬ k ∈ (["release", "trigger"] : List Str)) : k ∈ (["until", "weak_until", "since"] : List Str) := by
  simp [T9] at h
  simp at h1 h2 h3 ⊢
  rcases h with h | h | h | h | h | h | h | h | h
  all_goals first
    | exact .inl h
    | exact .inr (.inl h)
    | exact .inr (.inr h)
    | exact absurd h h1.1
    | exact absurd h h1.2
    | exact absurd h h2.1
    | exact absurd h h2.2
    | exact absurd h h3.1
    | exact absurd h h3.2
theorem t9_ns : ∀ k, k ∈ T9 → ¬ k ∈ steps := by decide
theorem cal_fold (T : Txt K mg) : C8.Cal P w K mg base 1 "_law_fold" spFold [] := by
  obtain ⟨f, fd, F, hm, hb⟩ := T.h_law_fold
  refine ⟨f, fd, _, [], F.ok sc_law_fold (fun vs H Q E h => ?_) (fun cdv A outer s H vs Q E hr h => ?_), hm, F.kp, hb, .nil⟩
  · obtain ⟨k, a, b, c, rfl, _⟩ := h
    rfl
  · obtain ⟨k, a, b, c, rfl, hk, q⟩ := h
    refine ⟨_, (pss_cons
      (ps_if (pt_cmpR (op_inK (K := K) rfl) (pv 0) (pe_tup (pa_cons pe_str (pa_cons pe_str pa_nil))) (by rfl)) (pss_one
      (ps_ret (pe_or (pv 1) (pe_one (pv 3))))) pss_nil)
      (pss_cons
      (ps_if (pt_cmpR (op_inK (K := K) rfl) (pv 0) (pe_tup (pa_cons pe_str (pa_cons pe_str pa_nil))) (by rfl)) (pss_one
      (ps_ret (pe_and (pv 1) (pe_one (pv 3))))) pss_nil)
      (pss_cons
      (ps_if (pt_cmpR (op_inK (K := K) rfl) (pv 0) (pe_tup (pa_cons pe_str (pa_cons pe_str pa_nil))) (by rfl)) (pss_one
      (ps_ret (pe_and (pv 2) (pe_one (pe_or (pv 1) (pe_one (pv 3))))))) pss_nil)
      (pss_one
      (ps_ret (pe_or (pv 2) (pe_one (pe_and (pv 1) (pe_one (pv 3)))))))))), ?_⟩
    unfold tofB at q
    rw [if_neg (t9_ns k hk)] at q
    refine ⟨_, rfl, by show 2 ≤ sizeLine; decide, fun t1 n1 => inq (ss := ["eventually", "once"]) (.of upd_same) ⟨_, rfl, ite2 (fun e => ?_) (fun e1 => ?_)⟩⟩
    · rw [if_pos (of_decide_eq_true e)] at q
      refine ⟨_, rfl, a, rfl, ?_⟩
      cases a with
      | true => exact iteT (q _ (same_new n1))
      | false => exact iteF ⟨_, rfl, (q _ (same_new n1))⟩
    have e1 : ¬ k ∈ (["eventually", "once"] : List Str) := fun z => e1 (decide_eq_true z)
    rw [if_neg e1] at q
    refine ⟨_, rfl, by show 2 ≤ sizeLine; decide, fun t2 n2 => inq (ss := ["always", "historically"]) (.of upd_same) ⟨_, rfl, ite2 (fun e => ?_) (fun e2 => ?_)⟩⟩
    · rw [if_pos (of_decide_eq_true e)] at q
      refine ⟨_, rfl, a, rfl, ?_⟩
      cases a with
      | true => exact iteT ⟨_, rfl, (q _ ((same_new n1).trans (same_new n2)))⟩
      | false => exact iteF (q _ ((same_new n1).trans (same_new n2)))
    have e2 : ¬ k ∈ (["always", "historically"] : List Str) := fun z => e2 (decide_eq_true z)
    rw [if_neg e2] at q
    refine ⟨_, rfl, by show 2 ≤ sizeLine; decide, fun t3 n3 => inq (ss := ["release", "trigger"]) (.of upd_same) ⟨_, rfl, ite2 (fun e => ?_) (fun e3 => ?_)⟩⟩
    · rw [if_pos (of_decide_eq_true e)] at q
      refine ⟨_, rfl, b, rfl, ?_⟩
      cases b with
      | false => exact iteF (q _ (((same_new n1).trans (same_new n2)).trans (same_new n3)))
      | true =>
        refine iteT ⟨_, rfl, a, rfl, ?_⟩
        cases a with
        | true => exact iteT (q _ (((same_new n1).trans (same_new n2)).trans (same_new n3)))
        | false => exact iteF ⟨_, rfl, (q _ (((same_new n1).trans (same_new n2)).trans (same_new n3)))⟩
    have e3 : ¬ k ∈ (["release", "trigger"] : List Str) := fun z => e3 (decide_eq_true z)
    rw [if_neg e3, if_pos (t9_last hk e1 e2 e3)] at q
    refine ⟨_, rfl, b, rfl, ?_⟩
    cases b with
    | true => exact iteT (q _ (((same_new n1).trans (same_new n2)).trans (same_new n3)))
    | false =>
      refine iteF ⟨_, rfl, a, rfl, ?_⟩
      cases a with
      | true => exact iteT ⟨_, rfl, (q _ (((same_new n1).trans (same_new n2)).trans (same_new n3)))⟩
      | false => exact iteF (q _ (((same_new n1).trans (same_new n2)).trans (same_new n3)))
theorem cutv_from (xs : List V) {n : Nat} (hn : n ≤ xs.length) : cutV xs (some (n : Int)) none = xs.drop n := by
  unfold cutV
  rw [HT.sIx_none, HT.sIx_nat, Nat.min_eq_left hn]
  exact List.take_of_length_le (by rw [List.length_drop]; exact Nat.le_refl _)
theorem cutv_to (xs : List V) (n : Nat) : cutV xs none (some (n : Int)) = xs.take n := by
  unfold cutV
  rw [HT.sIx_none, HT.sIx_nat, List.drop_zero, Nat.sub_zero]
  rcases Nat.le_total n xs.length with c | c
  · rw [Nat.min_eq_left c]
  · rw [Nat.min_eq_right c, List.take_length, List.take_of_length_le c]
theorem step_cases {k : Str} (h : k ∈ steps) : k = "next" ∨ k = "previous" ∨ k = "weak_previous" := by simpa [steps] using h
theorem cal_shift (T : Txt K mg) : C8.Cal P w K mg base 1 "_law_shifted" spShift [] := by
  obtain ⟨f, fd, F, hm, hb⟩ := T.h_law_shifted
  refine ⟨f, fd, _, [], F.ok sc_law_shifted (fun vs H Q E h => ?_) (fun cdv A outer s H vs Q E hr h => ?_), hm, F.kp, hb, .nil⟩
  · obtain ⟨k, l, m, L, a, b, rfl, _⟩ := h
    rfl
  · obtain ⟨k, l, m, L, a, b, rfl, hk, hL, pa, hl, hN, q⟩ := h
    have big : m + L ≤ sizeLine := Nat.le_trans hN (by decide)
    refine ⟨_, (pss_cons
      (ps_set (i := 3) sc_law_shifted.nd rfl (Or.inl rfl) (pe_callB (call_lenK (K := K) rfl) (by rfl) T.z_len PySem.boot_len (pa_cons (pv 1) pa_nil)))
      (pss_cons
      (ps_if (pt_cmpR op_eq (pv 0) pe_str (nomark _)) (pss_one
      (ps_ret (pe_op op_cat (pe_slice (sl_listK (K := K) rfl) (pv 1) (po_some pe_int) po_none) (pe_lst (pa_cons (pe_ix (ix_listK (K := K) rfl) (pv 1) (pv 2) (fun _ _ => rfl)) pa_nil))))) pss_nil)
      (pss_one
      (ps_ret (pe_op op_cat (pe_lst (pa_cons (pe_cmpR op_eq (pv 0) pe_str (nomark _)) pa_nil)) (pe_slice (sl_listK (K := K) rfl) (pv 1) po_none (po_some (pe_op op_sub (pv 3) pe_int)))))))), ?_⟩
    refine ⟨_, rfl, l, _, rfl, .inl (.of hl), ?_⟩
    rw [arrb_len]
    refine ⟨_, rfl, rfl, _, rfl, str_ite (fun c => ?_) (fun c => ?_)⟩
    · refine ⟨_, rfl, _, rfl, l, _, rfl, .of hl, fun p1 n1 => ?_⟩
      rw [show cutV ((List.range (m + L)).map fun t => V.bl (a t)) (some 1) none = ((List.range (m + L)).map fun t => V.bl (a t)).drop 1 from cutv_from _ (n := 1) (by rw [arrb_len]; omega)]
      have s1 := same_new (o := .lst (((List.range (m + L)).map fun t => V.bl (a t)).drop 1)) n1
      refine ⟨_, rfl, _, rfl, l, _, _, .bl (a m), rfl, rfl, .of (s1 _ _ hl), atI_nat (arrb_get (by omega)), by show 1 ≤ sizeLine; decide, fun p2 n2 => ?_⟩
      have s2 := same_new (o := .lst [.bl (a m)]) n2
      refine ⟨p1, p2, _, _, rfl, rfl, s2 _ _ upd_same, upd_same, ?_, fun p3 n3 => ?_⟩
      · rw [List.length_drop, arrb_len, List.length_singleton]
        omega
      · refine q _ p3 (s1.trans (s2.trans (same_new n3))) ?_
        unfold ArrB
        rw [upd_same]
        congr 2
        refine arrb_ext (by rw [List.length_append, List.length_drop, arrb_len, List.length_singleton]; omega) fun t ht => ?_
        have es : sq k a b t = a (t + 1) := by
          subst c
          rw [sq_fut (by decide) (by decide), tofB_step (by decide), carF, if_pos (by decide)]
        rw [es]
        by_cases ct : t < m + L - 1
        · rw [List.getElem?_append_left (by rw [List.length_drop, arrb_len]; omega), List.getElem?_drop, Nat.add_comm 1 t, arrb_get (by omega)]
        · have et : t = m + L - 1 := by omega
          rw [List.getElem?_append_right (by rw [List.length_drop, arrb_len]; omega), List.length_drop, arrb_len, show t - (m + L - 1) = 0 by omega, show t + 1 = m + L by omega, pa m (Nat.le_refl _)]
          rfl
    · have hk2 : k ∈ past := by
        rcases step_cases hk with e | e | e
        · exact absurd e c
        · rw [e]; decide
        · rw [e]; decide
      have hi : decide (V.str k = V.str "weak_previous") = ini k := by
        rcases step_cases hk with e | e | e
        · exact absurd e c
        · rw [e]; decide
        · rw [e]; decide
      refine ⟨_, rfl, rfl, ?_⟩
      rw [hi]
      refine ⟨by show 1 ≤ sizeLine; decide, fun p1 n1 => ?_⟩
      have s1 := same_new (o := .lst [.bl (ini k)]) n1
      refine ⟨_, rfl, _, rfl, _, _, rfl, rfl, _, rfl, l, _, rfl, .of (s1 _ _ hl), fun p2 n2 => ?_⟩
      rw [show (((m + L : Nat) : Int) - 1) = ((m + L - 1 : Nat) : Int) by omega, cutv_to]
      have s2 := same_new (o := .lst (((List.range (m + L)).map fun t => V.bl (a t)).take (m + L - 1))) n2
      refine ⟨p1, p2, _, _, rfl, rfl, s2 _ _ upd_same, upd_same, ?_, fun p3 n3 => ?_⟩
      · rw [List.length_take, arrb_len, List.length_singleton]
        omega
      · refine q _ p3 (s1.trans (s2.trans (same_new n3))) ?_
        unfold ArrB
        rw [upd_same]
        congr 2
        refine arrb_ext (by rw [List.length_append, List.length_take, arrb_len, List.length_singleton]; omega) fun t ht => ?_
        rw [sq_past hk2, tofB_step hk]
        cases t with
        | zero => rfl
        | succ t =>
          rw [carP_next hk2, if_pos hk, List.getElem?_append_right (by simp), List.getElem?_take, if_pos (by simp; omega), List.length_singleton, Nat.add_sub_cancel, arrb_get (by omega)]
abbrev P4 : List Str := ["since", "once", "historically", "trigger"]
theorem p4_past : ∀ k, k ∈ P4 → k ∈ past := by decide
theorem p4_not : ∀ k, k ∈ T9 → ¬ k ∈ P4 → ¬ k ∈ past ∧ k ∈ future := by decide
theorem p4_ini : ∀ k, k ∈ P4 → decide (k ∈ (["historically", "trigger"] : List Str)) = ini k := by decide
theorem f5_ini : ∀ k, k ∈ T9 → ¬ k ∈ P4 → decide (k ∈ (["always", "release", "weak_until"] : List Str)) = ini k := by decide
/-- the row walked backwards from a value -/
def run (k : Str) (a b : Nat → Bool) (N : Nat) (c0 : Bool) : Nat → Bool
  | 0 => c0
  | j + 1 => tofB k (a (N - (j + 1))) (b (N - (j + 1))) (run k a b N c0 j)
theorem run_ini {k : Str} (hs : ¬ k ∈ steps) (a b : Nat → Bool) (N : Nat) : ∀ j, run k a b N (ini k) j = rndF k a b N j
  | 0 => rfl
  | j + 1 => by
    show tofB k _ _ (run k a b N (ini k) j) = (if k ∈ steps then _ else tofB k _ _ (rndF k a b N j))
    rw [if_neg hs, run_ini hs a b N j]
theorem run_car {k : Str} (hp : ¬ k ∈ past) (hf : k ∈ future) (hs : ¬ k ∈ steps) (a b : Nat → Bool) (N : Nat) : ∀ j, j ≤ N → run k a b N (carF k a b N) j = carF k a b (N - j)
  | 0, _ => rfl
  | j + 1, h => by
    show tofB k _ _ (run k a b N (carF k a b N) j) = _
    rw [run_car hp hf hs a b N j (by omega), carF_sq hp hf a b (N - (j + 1)), if_neg hs, sq_fut hp hf, show N - (j + 1) + 1 = N - j by omega]
theorem cal_fixed (T : Txt K mg) : C8.Cal P w K mg base 2 "_law_fixed" spFixed [] := by
  have C_law_fold : C8.Cal P w K mg base 1 "_law_fold" spFold [] := cal_fold T
  obtain ⟨f, fd, F, hm, hb⟩ := T.h_law_fixed
  refine ⟨f, fd, _, [], F.ok sc_law_fixed (fun vs H Q E h => ?_) (fun cdv A outer s H vs Q E hr h => ?_), hm, F.kp, hb, .nil⟩
  · obtain ⟨k, l, r, m, L, a, b, rfl, _⟩ := h
    rfl
  · obtain ⟨k, l, r, m, L, a, b, rfl, hk, hL, pa, pb, hl, hr', hN, q⟩ := h
    have big : m + L ≤ sizeLine := Nat.le_trans hN (by decide)
    have hs := t9_ns k hk
    obtain ⟨N, hNe⟩ : ∃ N, N = m + L := ⟨_, rfl⟩
    rw [← hNe] at hl hr' hN big q
    refine ⟨_, (pss_cons
      (ps_set (i := 4) sc_law_fixed.nd rfl (Or.inl rfl) (pe_callB (call_lenK (K := K) rfl) (by rfl) T.z_len PySem.boot_len (pa_cons (pv 1) pa_nil)))
      (pss_cons
      (ps_set (i := 5) sc_law_fixed.nd rfl (Or.inl rfl) (pe_op op_rep (pe_lst (pa_cons pe_bl pa_nil)) (pv 4)))
      (pss_cons
      (ps_if (pt_cmpR (op_inK (K := K) rfl) (pv 0) (pe_tup (pa_cons pe_str (pa_cons pe_str (pa_cons pe_str (pa_cons pe_str pa_nil))))) (by rfl)) (pss_cons
      (ps_set (i := 6) sc_law_fixed.nd rfl (Or.inl rfl) (pe_cmpR (op_inK (K := K) rfl) (pv 0) (pe_tup (pa_cons pe_str (pa_cons pe_str pa_nil))) (by rfl)))
      (pss_cons
      (ps_for PassesOwn.never rfl (pi_range1 (by rfl) T.z_range (pa_cons (pv 4) pa_nil)) (pg_name (i := 7) sc_law_fixed.nd rfl (.inl rfl)) (pss_cons
      (ps_set (i := 6) sc_law_fixed.nd rfl (Or.inl rfl) (C8.pe_c C_law_fold hr (by decide) (by rfl) (pa_cons (pv 0) (pa_cons (pe_ix (ix_listK (K := K) rfl) (pv 1) (pv 7) (fun _ _ => rfl)) (pa_cons (pe_ix (ix_listK (K := K) rfl) (pv 2) (pv 7) (fun _ _ => rfl)) (pa_cons (pv 6) pa_nil))))))
      (pss_one
      (ps_asg (pv 6) (pg_sub (pv 5) (pv 7) set_list)))))
      (pss_one
      (ps_ret (pv 5))))) pss_nil)
      (pss_cons
      (ps_set (i := 6) sc_law_fixed.nd rfl (Or.inl rfl) (pe_cmpR (op_inK (K := K) rfl) (pv 0) (pe_tup (pa_cons pe_str (pa_cons pe_str (pa_cons pe_str pa_nil)))) (by rfl)))
      (pss_cons
      (ps_for PassesOwn.never rfl (pi_range1 (by rfl) T.z_range (pa_cons pe_int pa_nil)) (pg_name (i := 8) sc_law_fixed.nd rfl (.inl rfl)) (pss_cons
      (ps_for PassesOwn.never rfl (pi_range1 (by rfl) T.z_range (pa_cons (pv 4) pa_nil)) (pg_name (i := 7) sc_law_fixed.nd rfl (.inl rfl)) (pss_cons
      (ps_set (i := 6) sc_law_fixed.nd rfl (Or.inl rfl) (C8.pe_c C_law_fold hr (by decide) (by rfl) (pa_cons (pv 0) (pa_cons (pe_ix (ix_listK (K := K) rfl) (pv 1) (pe_op op_sub (pe_op op_sub (pv 4) pe_int) (pv 7)) (fun _ _ => rfl)) (pa_cons (pe_ix (ix_listK (K := K) rfl) (pv 2) (pe_op op_sub (pe_op op_sub (pv 4) pe_int) (pv 7)) (fun _ _ => rfl)) (pa_cons (pv 6) pa_nil))))))
      (pss_one
      (ps_asg (pv 6) (pg_sub (pv 5) (pe_op op_sub (pe_op op_sub (pv 4) pe_int) (pv 7)) set_list)))))
      (pss_one
      (ps_set (i := 6) sc_law_fixed.nd rfl (Or.inl rfl) (pe_ix (ix_listK (K := K) rfl) (pv 5) (pv 3) (fun _ _ => rfl))))))
      (pss_one
      (ps_ret (pv 5)))))))), ?_⟩
    refine ⟨_, rfl, l, _, rfl, .inl (.of hl), ?_⟩
    rw [arrb_len]
    refine ⟨by show 1 ≤ sizeLine; decide, fun p1 n1 => ?_⟩
    have s1 : Same H (upd H p1 (.lst [.bl false])) := same_new n1
    refine ⟨_, rfl, p1, _, _, rfl, rfl, upd_same, by omega, by omega, by show 1 * ((N : Nat) : Int).toNat ≤ sizeLine; omega, fun o ho => ?_⟩
    rw [Int.toNat_natCast, arrb_rep]
    have ho0 : H o = none := s1.free ho
    have s2 := s1.trans (same_new (o := .lst ((List.range N).map fun t => V.bl ((fun _ => false) t))) ho)
    have e2 : ArrB (upd (upd H p1 (.lst [.bl false])) o (.lst ((List.range N).map fun t => V.bl ((fun _ => false) t)))) o N (fun _ => false) := upd_same
    generalize upd (upd H p1 (.lst [.bl false])) o (.lst ((List.range N).map fun t => V.bl ((fun _ => false) t))) = H2 at s2 e2 ⊢
    have setS : ∀ {H3 : Hp} {vs : Nat → Bool}, Same H H3 → Same H (upd H3 o (.lst ((List.range N).map fun t => V.bl (vs t)))) := fun s3 c u hc => by
      rw [upd_ne (ne_of_none hc ho0)]
      exact s3 _ _ hc
    refine ⟨_, rfl, by show 4 ≤ sizeLine; decide, fun t1 m1 => inq (ss := P4) (.of upd_same) ⟨_, rfl, ite2 (fun e => ?_) (fun e => ?_)⟩⟩
    · have hk4 : k ∈ P4 := of_decide_eq_true e
      have hp := p4_past k hk4
      refine ⟨_, rfl, by show 2 ≤ sizeLine; decide, fun t2 m2 => inq (ss := ["historically", "trigger"]) (.of upd_same) ?_⟩
      rw [p4_ini k hk4]
      have s3 := (same_new (H := H2) (o := .tup (P4.map V.str)) m1).trans (same_new (o := .tup ((["historically", "trigger"] : List Str).map V.str)) m2)
      refine ⟨_, rfl, _, rfl, by omega, by omega, for_range (lo := 0) (n := ((N : Nat) : Int).toNat) (fun i σ H3 => ∃ (v7 : Option V) (vs : Nat → Bool), σ = [some (.str k), some (.ref l), some (.ref r), some (.int (m : Int)), some (.int (N : Nat)), some (.ref o), some (.bl (carP k a b i)), v7, none] ∧ Same H H3 ∧ ArrB H3 o N vs ∧ ∀ t, t < i → vs t = sq k a b t)
        ⟨none, fun _ => false, rfl, s2.trans s3, s3 _ _ e2, fun t ht => absurd ht (Nat.not_lt_zero t)⟩ ?_ ?_⟩
      · rintro i σ H3 hi ⟨v7, vs, rfl, s4, e4, hv⟩
        have hi' : i < N := by omega
        refine ⟨_, rfl, _, rfl, _, rfl, l, _, _, .bl (a i), rfl, rfl, .of (s4 _ _ hl), by rw [Int.zero_add]; exact atI_nat (arrb_get hi'), ?_⟩
        refine ⟨_, rfl, _, rfl, r, _, _, .bl (b i), rfl, rfl, .of (s4 _ _ hr'), by rw [Int.zero_add]; exact atI_nat (arrb_get hi'), ?_⟩
        refine ⟨_, rfl, k, a i, b i, carP k a b i, rfl, hk, fun H5 s5 => ?_⟩
        have eo := s5 _ _ e4
        refine ⟨_, rfl, _, rfl, _, rfl, o, _, _, i, rfl, rfl, eo, by rw [Int.zero_add]; exact ixN_at (by rw [arrb_len]; exact hi'), ?_⟩
        rw [arrb_set, ← sq_past hp]
        have ec := carP_next hp a b i
        rw [if_neg hs] at ec
        refine ⟨some (.int (0 + (i : Int))), fun t => if t = i then sq k a b i else vs t, ?_, setS (s4.trans s5), upd_same, fun t ht => ?_⟩
        · rw [ec]
          rfl
        · dsimp only
          by_cases c : t = i
          · rw [if_pos c, c]
          · rw [if_neg c]
            exact hv t (by omega)
      · rintro σ H3 ⟨v7, vs, rfl, s4, e4, hv⟩
        refine ⟨_, rfl, q H3 o s4 ?_⟩
        unfold ArrB at e4 ⊢
        rw [e4]
        congr 2
        exact arrb_congr fun t ht => hv t (by omega)
    · have hk4 : ¬ k ∈ P4 := fun z => e (decide_eq_true z)
      obtain ⟨hp, hf⟩ := p4_not k hk hk4
      refine ⟨_, rfl, by show 3 ≤ sizeLine; decide, fun t2 m2 => inq (ss := ["always", "release", "weak_until"]) (.of upd_same) ?_⟩
      rw [f5_ini k hk hk4]
      have s3 := (same_new (H := H2) (o := .tup (P4.map V.str)) m1).trans (same_new (o := .tup ((["always", "release", "weak_until"] : List Str).map V.str)) m2)
      refine ⟨_, rfl, by decide, by decide, for_range (lo := 0) (n := 2) (fun i σ H3 => ∃ (c : Bool) (v7 v8 : Option V) (vs : Nat → Bool), σ = [some (.str k), some (.ref l), some (.ref r), some (.int (m : Int)), some (.int (N : Nat)), some (.ref o), some (.bl c), v7, v8] ∧ Same H H3 ∧ ArrB H3 o N vs ∧
          (i = 0 → c = ini k) ∧ (i = 1 → c = carF k a b N) ∧ (i = 2 → ∀ t, t < N → vs t = sq k a b t))
        ⟨ini k, none, none, fun _ => false, rfl, s2.trans s3, s3 _ _ e2, fun _ => rfl, fun z => by omega, fun z => by omega⟩ ?_ ?_⟩
      · rintro i σ H3 hi ⟨c, v7, v8, vs, rfl, s4, e4, h0, h1, _⟩
        refine ⟨_, rfl, _, rfl, by omega, by omega, for_range (lo := 0) (n := ((N : Nat) : Int).toNat) (fun j σ H4 => ∃ (v7 : Option V) (vs : Nat → Bool), σ = [some (.str k), some (.ref l), some (.ref r), some (.int (m : Int)), some (.int (N : Nat)), some (.ref o), some (.bl (run k a b N c j)), v7, some (.int (0 + (i : Int)))] ∧ Same H H4 ∧ ArrB H4 o N vs ∧
            ∀ t, N - j ≤ t → t < N → vs t = run k a b N c (N - t))
          ⟨v7, vs, rfl, s4, e4, fun t h1 h2 => by omega⟩ ?_ ?_⟩
        · rintro j σ H4 hj ⟨v7, vs, rfl, s5, e5, hv⟩
          have hj' : j < N := by omega
          have ej : ((N : Nat) : Int) - 1 - (0 + (j : Int)) = ((N - (j + 1) : Nat) : Int) := by omega
          refine ⟨_, rfl, _, rfl, _, rfl, _, _, rfl, rfl, _, rfl, _, _, rfl, rfl, l, _, _, .bl (a (N - (j + 1))), rfl, rfl, .of (s5 _ _ hl), by rw [ej]; exact atI_nat (arrb_get (by omega)), ?_⟩
          refine ⟨_, rfl, _, rfl, _, _, rfl, rfl, _, rfl, _, _, rfl, rfl, r, _, _, .bl (b (N - (j + 1))), rfl, rfl, .of (s5 _ _ hr'), by rw [ej]; exact atI_nat (arrb_get (by omega)), ?_⟩
          refine ⟨_, rfl, k, _, _, run k a b N c j, rfl, hk, fun H5 s6 => ?_⟩
          have eo := s6 _ _ e5
          refine ⟨_, rfl, _, rfl, _, rfl, _, _, rfl, rfl, _, rfl, _, _, rfl, rfl, o, _, _, N - (j + 1), rfl, rfl, eo, by rw [ej]; exact ixN_at (by rw [arrb_len]; omega), ?_⟩
          rw [arrb_set]
          refine ⟨_, _, rfl, setS (s5.trans s6), upd_same, fun t h1 h2 => ?_⟩
          by_cases c1 : t = N - (j + 1)
          · rw [if_pos c1, c1, show N - (N - (j + 1)) = j + 1 by omega]
            rfl
          · rw [if_neg c1]
            exact hv t (by omega) h2
        · rintro σ H4 ⟨v7, vs, rfl, s5, e5, hv⟩
          refine ⟨_, rfl, _, rfl, o, _, _, .bl (vs m), rfl, rfl, .of e5, atI_nat (arrb_get (by omega)), ?_⟩
          refine ⟨vs m, _, _, vs, rfl, s5, e5, fun z => by omega, fun z => ?_, fun z t ht => ?_⟩
          · have i0 : i = 0 := by omega
            rw [hv m (by omega) (by omega), h0 i0, run_ini hs, show N - m = L by omega, hNe]
            exact rndF_end hL pa pb
          · have i1 : i = 1 := by omega
            rw [hv t (by omega) ht, h1 i1, run_car hp hf hs a b N _ (by omega), show N - (N - t) = t by omega, carF_sq hp hf, if_neg hs]
      · rintro σ H3 ⟨c, v7, v8, vs, rfl, s4, e4, _, _, h2⟩
        refine ⟨_, rfl, q H3 o s4 ?_⟩
        unfold ArrB at e4 ⊢
        rw [e4]
        congr 2
        exact arrb_congr (h2 rfl)
theorem fm_parts {K : PySem.W.Frag} {H : Hp} : ∀ {f : Fm} {v : V}, FmAt K H v f → (∀ s, f ≠ .sg s) → ∃ a xs, v = .ref a ∧ SqT K H a (.str (kd f) :: xs) ∧ FmsAt K H xs (kids f)
  | .c0 _, _, ⟨a, h1, h2⟩, _ => ⟨a, [], h1, h2, trivial⟩
  | .sg s, _, _, n => absurd rfl (n s)
  | .un _ _, _, ⟨a, x, h1, h2, h3⟩, _ => ⟨a, [x], h1, h2, h3, trivial⟩
  | .bin _ _ _, _, ⟨a, x, y, h1, h2, h3, h4⟩, _ => ⟨a, [x, y], h1, h2, h3, h4, trivial⟩
theorem tail_q {K : PySem.W.Frag} {H : Hp} {a : Addr} {x : V} {xs : List V} {Q : VK} (h : SqT K H a (x :: xs)) (q : ∀ p, H p = none → Q (.ref p) (upd H p (.tup xs))) : rSlA K (.ref a) (some 1) none H Q := by
  refine ⟨a, x :: xs, rfl, h, fun z => ?_, fun _ p hp => ?_⟩
  · have e : HT.sIx (x :: xs).length 0 (some ((1 : Nat) : Int)) = 0 := z.1
    rw [HT.sIx_nat, List.length_cons] at e
    omega
  · rw [show cutV (x :: xs) (some 1) none = xs from cutv_from (x :: xs) (n := 1) (by simp)]
    exact q p hp
def spPc (K : PySem.W.Frag) : Nat → Sp
  | 0 => fun _ _ _ _ => False
  | n + 1 => fun vs H Q _ => ∃ (v : V) (f : Fm) (nm : List Str), vs = [v] ∧ FmAt K H v f ∧ Wo nm f ∧ dpt f ≤ n ∧ ∀ (H' : Hp) (c : Nat), Same H H' → pd f ≤ c → c ≤ sz f → Q (.int (c : Int)) H'
theorem tb_le (k : Str) : tb k ≤ 1 := by
  unfold tb
  split <;> omega
theorem kids_dpt {f g : Fm} {n : Nat} (h : dpt f ≤ n + 1) (m : g ∈ kids f) : dpt g ≤ n := by
  cases f with
  | c0 _ => cases m
  | sg _ => cases m
  | un k f => rw [List.mem_singleton.mp m]; exact Nat.le_of_succ_le_succ h
  | bin k f f2 =>
    have h : max (dpt f) (dpt f2) + 1 ≤ n + 1 := h
    rcases List.mem_cons.mp m with e | e
    · rw [e]; omega
    · rw [List.mem_singleton.mp e]; omega
theorem wo_kids {nm : List Str} {f g : Fm} (h : Wo nm f) (m : g ∈ kids f) : Wo nm g := by
  cases f with
  | c0 _ => cases m
  | sg _ => cases m
  | un k f => rw [List.mem_singleton.mp m]; exact h.2
  | bin k f f2 =>
    rcases List.mem_cons.mp m with e | e
    · rw [e]; exact h.2.1
    · rw [List.mem_singleton.mp e]; exact h.2.2
theorem cal_pc_step {n : Nat} (T : Txt K mg) (C_law_past_count : C8.Cal P w K mg base (1 + n) "_law_past_count" (spPc K n) []) : C8.Cal P w K mg base (1 + n + 1) "_law_past_count" (spPc K (n + 1)) [] := by
  obtain ⟨f, fd, F, hm, hb⟩ := T.h_law_past_count
  refine ⟨f, fd, _, [], F.ok sc_law_past_count (fun vs H Q E h => ?_) (fun cdv A outer s H vs Q E hr h => ?_), hm, F.kp, hb, .nil⟩
  · obtain ⟨v, f, nm, rfl, _⟩ := h
    rfl
  · obtain ⟨v, f, nm, rfl, hf, hw, hd, q⟩ := h
    refine ⟨_, (pss_cons
      (ps_if (PW.pt (pw_or (pt_cmpR op_eq (pe_callB (call_lenK (K := K) rfl) (by rfl) T.z_len PySem.boot_len (pa_cons (pv 0) pa_nil)) pe_int (nomark _)) (pw_or1 (pt_cmpR op_eq (pe_ix (ix_tupK (K := K) rfl) (pv 0) pe_int (fun _ _ => rfl)) pe_str (nomark _))))) (pss_one
      (ps_ret pe_int)) pss_nil)
      (pss_cons
      (ps_set (i := 1) sc_law_past_count.nd rfl (Or.inl rfl) pe_int)
      (C8.pss_cut
      (ps_if (pt_cmpR (op_inK (K := K) rfl) (pe_ix (ix_tupK (K := K) rfl) (pv 0) pe_int (fun _ _ => rfl)) (pe_tup (pa_cons pe_str (pa_cons pe_str (pa_cons pe_str (pa_cons pe_str (pa_cons pe_str (pa_cons pe_str pa_nil))))))) (by rfl)) (pss_one
      (ps_set (i := 1) sc_law_past_count.nd rfl (Or.inl rfl) pe_int)) pss_nil)
      (pss_cons
      (ps_for PassesOwn.never rfl (pi_tup (pe_slice (sl_tupK (K := K) rfl) (pv 0) (po_some pe_int) po_none)) (pg_name (i := 2) sc_law_past_count.nd rfl (.inl rfl)) (pss_one
      (ps_set (i := 1) sc_law_past_count.nd rfl (Or.inl rfl) (pe_op op_add (pv 1) (C8.pe_c C_law_past_count hr (by omega) (by rfl) (pa_cons (pv 2) pa_nil))))))
      (pss_one
      (ps_ret (pv 1))))))), ?_⟩
    by_cases hs : ∃ s, f = .sg s
    · obtain ⟨s, rfl⟩ := hs
      obtain ⟨a, rfl, ha⟩ := hf
      refine ⟨_, rfl, a, _, rfl, .inr ha, rfl, _, rfl, iteF ⟨_, rfl, a, _, _, _, rfl, rfl, ha, rfl, rfl, _, rfl, iteT ?_⟩⟩
      exact q H 0 (Same.refl H) (Nat.zero_le _) (Nat.zero_le _)
    · obtain ⟨a, xs, rfl, ha, hx⟩ := fm_parts hf fun s e => hs ⟨s, e⟩
      have hxl := hx.len
      have at0 : atI (V.str (kd f) :: xs) 0 = some (.str (kd f)) := atI_nat (j := 0) List.getElem?_cons_zero
      refine ⟨_, rfl, a, _, rfl, .inr ha, rfl, _, rfl, ite_eq (fun c => ?_) (fun c => ⟨_, rfl, a, _, _, _, rfl, rfl, ha, at0, rfl, _, rfl, str_ite (fun e => ?_) (fun e => ?_)⟩)⟩
      · have hxe : xs = [] := List.length_eq_zero_iff.mp (by rw [List.length_cons] at c; omega)
        subst hxe
        cases f with
        | c0 k =>
          have e : tb k = 0 := by
            rcases hw with e | e
            · rw [e]; decide
            · rw [e]; decide
          exact q H 0 (Same.refl H) (by show tb k ≤ 0; omega) (Nat.zero_le _)
        | sg s => exact absurd ⟨s, rfl⟩ hs
        | un k g => exact absurd hxl (by simp [kids])
        | bin k g g2 => exact absurd hxl (by simp [kids])
      · have hwf := hw.wf
        cases f with
        | c0 k => exact absurd e hwf
        | sg s => exact absurd ⟨s, rfl⟩ hs
        | un k g => exact absurd e hwf.1
        | bin k g g2 => exact absurd e hwf.1
      · refine ⟨fun σ H2 => σ = [some (.ref a), some (.int ((tb (kd f) : Nat) : Int)), none] ∧ Same H H2, ?_, ?_⟩
        · refine ⟨_, rfl, a, _, _, _, rfl, rfl, ha, at0, by show 6 ≤ sizeLine; decide, fun t ht => inq (ss := past) (.of upd_same) ⟨_, rfl, ite2 (fun c2 => ?_) (fun c2 => ?_)⟩⟩
          · refine ⟨?_, same_new ht⟩
            unfold tb
            rw [if_pos (of_decide_eq_true c2)]
            rfl
          · refine ⟨?_, same_new ht⟩
            unfold tb
            rw [if_neg (fun z => c2 (decide_eq_true z))]
            rfl
        · rintro σ H2 ⟨rfl, s2⟩
          refine ⟨_, rfl, _, rfl, ?_⟩
          walk_at "nl"
          refine tail_q (sqt_same s2 ha) fun p hp => ?_
          have s3 := s2.trans (same_new (o := .tup xs) hp)
          refine ⟨p, rfl, ⟨_, .of upd_same⟩, for_tup (xs := xs) (fun i σ H3 => ∃ (c : Nat) (v2 : Option V), σ = [some (.ref a), some (.int (c : Int)), v2] ∧ Same H H3 ∧ H3 p = some (.tup xs) ∧ tb (kd f) ≤ c ∧ (∀ (j : Nat) (g : Fm), j < i → (kids f)[j]? = some g → pd g + tb (kd f) ≤ c) ∧ c ≤ tb (kd f) + (((kids f).take i).map sz).sum)
            ⟨_, none, rfl, s3, upd_same, Nat.le_refl _, fun j g hj => absurd hj (Nat.not_lt_zero j), by simp⟩ (fun i σ H3 _ ⟨_, _, _, _, z, _⟩ => .of z) ?_ ?_⟩
          · rintro i x σ H3 hix ⟨c, v2, rfl, s4, e4, l1, l2, l3⟩
            obtain ⟨g, hg, hxg⟩ := hx.get hix
            have hgm : g ∈ kids f := List.mem_of_getElem? hg
            obtain ⟨n', rfl⟩ : ∃ n', n = n' + 1 := by
              cases n with
              | zero =>
                cases f with
                | c0 _ => cases hgm
                | sg _ => cases hgm
                | un k f => exact absurd hd (by show ¬ dpt f + 1 ≤ 0; omega)
                | bin k f f2 => exact absurd hd (by show ¬ max (dpt f) (dpt f2) + 1 ≤ 0; omega)
              | succ n' => exact ⟨n', rfl⟩
            refine ⟨_, rfl, _, rfl, x, g, nm, rfl, hxg.same s4, wo_kids hw hgm, kids_dpt hd hgm, fun H5 c2 s5 b1 b2 => ⟨_, _, rfl, rfl, ?_⟩⟩
            refine ⟨c + c2, _, by rw [Int.natCast_add]; rfl, s4.trans s5, s5 _ _ e4, by omega, fun j g2 hj hg2 => ?_, ?_⟩
            · rcases Nat.lt_or_ge j i with z | z
              · have := l2 j g2 z hg2
                omega
              · have ej : j = i := by omega
                rw [ej, hg] at hg2
                cases hg2
                omega
            · rw [List.take_add_one, hg, Option.toList_some, List.map_append, List.sum_append, List.map_cons, List.map_nil, List.sum_cons, List.sum_nil]
              omega
          · rintro σ H3 ⟨ct, v2, rfl, s4, e4, l1, l2, l3⟩
            rw [hxl, List.take_length] at l3
            rw [hxl] at l2
            refine ⟨_, rfl, q H3 ct s4 ?_ ?_⟩
            · cases f with
              | c0 k => exact l1
              | sg s => exact absurd ⟨s, rfl⟩ hs
              | un k g => exact l2 0 g (by simp [kids]) rfl
              | bin k g g2 =>
                have z1 := l2 0 g (by simp [kids]) rfl
                have z2 := l2 1 g2 (by simp [kids]) rfl
                show max (pd g) (pd g2) + tb k ≤ ct
                have : kd (Fm.bin k g g2) = k := rfl
                rw [this] at z1 z2
                omega
            · have t1 := tb_le (kd f)
              cases f with
              | c0 k =>
                show ct ≤ 1
                simp [kids] at l3
                omega
              | sg s => exact absurd ⟨s, rfl⟩ hs
              | un k g =>
                show ct ≤ sz g + 1
                simp [kids] at l3
                omega
              | bin k g g2 =>
                show ct ≤ sz g + sz g2 + 1
                simp [kids] at l3
                omega
theorem cal_pc (T : Txt K mg) : ∀ n, C8.Cal P w K mg base (1 + n) "_law_past_count" (spPc K n) []
  | 0 => by
    obtain ⟨f, fd, F, hm, hb⟩ := T.h_law_past_count
    exact ⟨f, fd, _, [], ⟨fun vs H Q E h => h.elim, fun A outer s H args us vs Q E _ _ _ _ h => h.elim⟩, hm, F.kp, hb, .nil⟩
  | n + 1 => cal_pc_step T (cal_pc T n)
theorem un_b : ∀ k, k ∈ unOps → ∀ a b b' c : Bool, tofB k a b c = tofB k a b' c := by decide
theorem sq_un {k : Str} (h : k ∈ unOps) (a b b' : Nat → Bool) : sq k a b = sq k a b' := by
  have hA : stA k a b = stA k a b' := funext fun t => un_b k h _ _ _ _
  have hB : stB k a b = stB k a b' := funext fun t => un_b k h _ _ _ _
  funext t
  unfold sq
  rw [un_b k h (a t) (b t) (b' t)]
  have e1 : carP k a b t = carP k a b' t := by
    cases t with
    | zero => rfl
    | succ t =>
      show (if k ∈ steps then a t else fw (ini k) (stA k a b) (stB k a b) t) = (if k ∈ steps then a t else fw (ini k) (stA k a b') (stB k a b') t)
      rw [hA, hB]
  have e2 : carF k a b (t + 1) = carF k a b' (t + 1) := by
    unfold carF
    rw [hA, hB]
  rw [e1, e2]
abbrev G5 : List Str := ["not", "and", "or", "implies", "iff"]
abbrev S3 : List Str := ["next", "previous", "weak_previous"]
theorem op_rest_un : ∀ k, k ∈ unOps → ¬ k ∈ G5 → ¬ k ∈ S3 → k ∈ T9 := by decide
theorem op_rest_bin : ∀ k, k ∈ binOps → ¬ k ∈ G5 → ¬ k ∈ S3 → k ∈ T9 := by decide
theorem g5_pl : ∀ k, k ∈ G5 → ¬ k ∈ past ∧ ¬ k ∈ future := by decide
theorem g5_lg : ∀ k, k ∈ G5 → ∀ a b : Bool, lgB k a b = tofB k a b false := by decide
theorem un_nt : ∀ k, k ∈ unOps → k ≠ "true" ∧ k ≠ "false" := by decide
theorem bin_nt : ∀ k, k ∈ binOps → k ≠ "true" ∧ k ≠ "false" := by decide
theorem sem_c0 {nm : List Str} {x : Nat → Int} {k : Str} (h : k = "true" ∨ k = "false") (t : Nat) : sem nm x (.c0 k) t = decide (k = "true") := by
  show sq k _ _ t = _
  rcases h with rfl | rfl
  · rw [sq_pl (by decide) (by decide)]
    decide
  · rw [sq_pl (by decide) (by decide)]
    decide
def spTab (K : PySem.W.Frag) : Nat → Sp
  | 0 => fun _ _ _ _ => False
  | n + 1 => fun vs H Q _ => ∃ (v : V) (na la : Addr) (f : Fm) (nm : List Str) (h m L : Nat) (x : Nat → Int), vs = [v, .ref na, .ref la, .int m] ∧ FmAt K H v f ∧ Wo nm f ∧ dpt f ≤ n ∧ H na = some (.lst (nm.map V.str)) ∧ H la = some (.lst (((List.range (m + L)).map x).map V.int)) ∧
    0 < L ∧ m + L ≤ 1000000 ∧ h + pd f * L ≤ m ∧ (∀ t, h ≤ t → x (t + L) = x t) ∧ ∀ (H' : Hp) (p : Addr), Same H H' → ArrB H' p (m + L) (sem nm x f) → Q (.ref p) H'
theorem ops_of {K : PySem.W.Frag} {H : Hp} {nm : List Str} {x : Nat → Int} {f : Fm} {v : V} (hf : FmAt K H v f) (hw : Wo nm f) (h0 : ∀ k, f ≠ .c0 k) (h1 : ∀ s, f ≠ .sg s) : ∃ a x1 g1 rest, v = .ref a ∧ SqT K H a (.str (kd f) :: x1 :: rest) ∧ FmAt K H x1 g1 ∧ Wo nm g1 ∧ pd g1 ≤ pd f ∧ dpt g1 + 1 ≤ dpt f ∧
    (¬ kd f ∈ G5 → ¬ kd f ∈ S3 → kd f ∈ T9) ∧ kd f ≠ "true" ∧ kd f ≠ "false" ∧ kd f ≠ sSig ∧ ((rest = [] ∧ sem nm x f = sq (kd f) (sem nm x g1) (sem nm x g1)) ∨ ∃ x2 g2, rest = [x2] ∧ FmAt K H x2 g2 ∧ Wo nm g2 ∧ pd g2 ≤ pd f ∧ dpt g2 + 1 ≤ dpt f ∧ sem nm x f = sq (kd f) (sem nm x g1) (sem nm x g2)) := by
  cases f with
  | c0 k => exact absurd rfl (h0 k)
  | sg s => exact absurd rfl (h1 s)
  | un k g =>
    obtain ⟨a, x1, rfl, ha, hg⟩ := hf
    exact ⟨a, x1, g, [], rfl, ha, hg, hw.2, Nat.le_add_right _ _, Nat.le_refl _, op_rest_un k hw.1, (un_nt k hw.1).1, (un_nt k hw.1).2, un_ne hw.1, .inl ⟨rfl, sq_un hw.1 _ _ _⟩⟩
  | bin k g g2 =>
    obtain ⟨a, x1, x2, rfl, ha, hg, hg2⟩ := hf
    exact ⟨a, x1, g, [x2], rfl, ha, hg, hw.2.1, Nat.le_trans (Nat.le_max_left _ _) (Nat.le_add_right _ _), Nat.succ_le_succ (Nat.le_max_left _ _), op_rest_bin k hw.1, (bin_nt k hw.1).1, (bin_nt k hw.1).2, bin_ne hw.1,
      .inr ⟨x2, g2, rfl, hg2, hw.2.2, Nat.le_trans (Nat.le_max_right _ _) (Nat.le_add_right _ _), Nat.succ_le_succ (Nat.le_max_right _ _), rfl⟩⟩
theorem bit_eq (z : Int) (i : Nat) : decide (V.int (Builtin.bitAnd (z / 2 ^ i) 1) = V.int 1) = bitI z i := by
  rw [bit_bi]
  cases bitI z i <;> decide
theorem cal_tab_step {n : Nat} (T : Txt K mg) (C_law_table : C8.Cal P w K mg base (2 + n) "_law_table" (spTab K n) []) : C8.Cal P w K mg base (2 + n + 1) "_law_table" (spTab K (n + 1)) [] := by
  have C_law_logic : C8.Cal P w K mg base 1 "_law_logic" spLogic [] := cal_logic T
  have C_law_shifted : C8.Cal P w K mg base 1 "_law_shifted" spShift [] := cal_shift T
  have C_law_fixed : C8.Cal P w K mg base 2 "_law_fixed" spFixed [] := cal_fixed T
  obtain ⟨f, fd, F, hm, hb⟩ := T.h_law_table
  refine ⟨f, fd, _, [], F.ok sc_law_table (fun vs H Q E h => ?_) (fun cdv A outer s H vs Q E hr h => ?_), hm, F.kp, hb, .nil⟩
  · obtain ⟨v, na, la, f, nm, h, m, L, x, rfl, _⟩ := h
    rfl
  · obtain ⟨v, na, la, f, nm, h, m, L, x, rfl, hf, hw, hd, hna, hla, hL, hN, hm0, hx, q⟩ := h
    refine ⟨_, (pss_cons
      (ps_set (i := 4) sc_law_table.nd rfl (Or.inr rfl) (pe_ix (ix_tupK (K := K) rfl) (pv 0) pe_int (fun _ _ => rfl)))
      (pss_cons
      (ps_if (PW.pt (pw_or (pt_cmpR op_eq (pv 4) pe_str (nomark _)) (pw_or1 (pt_cmpR op_eq (pv 4) pe_str (nomark _))))) (pss_one
      (ps_ret (pe_op op_rep (pe_lst (pa_cons (pe_cmpR op_eq (pv 4) pe_str (nomark _)) pa_nil)) (pe_callB (call_lenK (K := K) rfl) (by rfl) T.z_len PySem.boot_len (pa_cons (pv 2) pa_nil))))) pss_nil)
      (pss_cons
      (ps_if (pt_cmpR op_eq (pv 4) pe_str (nomark _)) (pss_cons
      (ps_set (i := 5) sc_law_table.nd rfl (Or.inr rfl) (pe_bm PySem.F.plainAttrs_list PySem.F.slot_list_index PySem.F.type_list_index (mt_indexK (K := K) rfl) (pv 1) (pa_cons (pe_ix (ix_tupK (K := K) rfl) (pv 0) pe_int (fun _ _ => rfl)) pa_nil)))
      (pss_one
      (ps_ret (pe_lc (own := [("letter", 8)]) (g := gName 8) (tt := tYes) rfl sc_law_table.nd (pi_list (pv 2)) (blkOk_by (N := N_law_table) (sc := defScope s_law_table) (by decide +kernel)) (fun _ _ _ _ _ => (pg_name (i := 8) sc_law_table.nd rfl (Or.inl rfl))) (fun _ _ _ _ _ => pts_nil) (fun _ _ _ _ _ => (pe_cmpR op_eq (pe_op op_and (pe_op op_shr (pv 8) (pv 5)) pe_int) pe_int (nomark _))))))) pss_nil)
      (pss_cons
      (ps_set (i := 6) sc_law_table.nd rfl (Or.inr rfl) (C8.pe_c C_law_table hr (by omega) (by rfl) (pa_cons (pe_ix (ix_tupK (K := K) rfl) (pv 0) pe_int (fun _ _ => rfl)) (pa_cons (pv 1) (pa_cons (pv 2) (pa_cons (pv 3) pa_nil))))))
      (pss_cons
      (ps_set (i := 7) sc_law_table.nd rfl (Or.inr rfl) (pv 6))
      (C8.pss_cut
      (ps_if (pt_cmpR op_eq (pe_callB (call_lenK (K := K) rfl) (by rfl) T.z_len PySem.boot_len (pa_cons (pv 0) pa_nil)) pe_int (nomark _)) (pss_one
      (ps_set (i := 7) sc_law_table.nd rfl (Or.inr rfl) (C8.pe_c C_law_table hr (by omega) (by rfl) (pa_cons (pe_ix (ix_tupK (K := K) rfl) (pv 0) pe_int (fun _ _ => rfl)) (pa_cons (pv 1) (pa_cons (pv 2) (pa_cons (pv 3) pa_nil))))))) pss_nil)
      (pss_cons
      (ps_if (pt_cmpR (op_inK (K := K) rfl) (pv 4) (pe_tup (pa_cons pe_str (pa_cons pe_str (pa_cons pe_str (pa_cons pe_str (pa_cons pe_str pa_nil)))))) (by rfl)) (pss_one
      (ps_ret (pe_lc (own := [("k", 5)]) (g := gName 5) (tt := tYes) rfl sc_law_table.nd (pi_range1 (by rfl) T.z_range (pa_cons (pe_callB (call_lenK (K := K) rfl) (by rfl) T.z_len PySem.boot_len (pa_cons (pv 6) pa_nil)) pa_nil)) (blkOk_by (N := N_law_table) (sc := defScope s_law_table) (by decide +kernel)) (fun _ _ _ _ _ => (pg_name (i := 5) sc_law_table.nd rfl (Or.inl rfl))) (fun _ _ _ _ _ => pts_nil) (fun _ _ _ _ _ => (C8.pe_c C_law_logic hr (by omega) (by rfl) (pa_cons (pv 4) (pa_cons (pe_ix (ix_listK (K := K) rfl) (pv 6) (pv 5) (fun _ _ => rfl)) (pa_cons (pe_ix (ix_listK (K := K) rfl) (pv 7) (pv 5) (fun _ _ => rfl)) pa_nil)))))))) pss_nil)
      (pss_cons
      (ps_if (pt_cmpR (op_inK (K := K) rfl) (pv 4) (pe_tup (pa_cons pe_str (pa_cons pe_str (pa_cons pe_str pa_nil)))) (by rfl)) (pss_one
      (ps_ret (C8.pe_c C_law_shifted hr (by omega) (by rfl) (pa_cons (pv 4) (pa_cons (pv 6) (pa_cons (pv 3) pa_nil)))))) pss_nil)
      (pss_one
      (ps_ret (C8.pe_c C_law_fixed hr (by omega) (by rfl) (pa_cons (pv 4) (pa_cons (pv 6) (pa_cons (pv 7) (pa_cons (pv 3) pa_nil))))))))))))))), ?_⟩
    have big : m + L ≤ sizeLine := Nat.le_trans hN (by decide)
    have ll : (((List.range (m + L)).map x).map V.int).length = m + L := by rw [List.length_map, List.length_map, List.length_range]
    by_cases h0 : ∃ k, f = .c0 k
    · obtain ⟨k, rfl⟩ := h0
      obtain ⟨a, rfl, ha⟩ := hf
      refine ⟨_, rfl, a, _, _, _, rfl, rfl, ha, rfl, ?_⟩
      refine ⟨_, rfl, rfl, _, rfl, str_ite (fun _ => ?_) (fun c => ⟨_, rfl, rfl, _, rfl, str_ite (fun _ => ?_) (fun c2 => ?_)⟩)⟩
      case refine_3 => exact absurd hw (fun z => z.elim c c2)
      all_goals
        refine ⟨_, rfl, rfl, by show 1 ≤ sizeLine; decide, fun p1 n1 => ?_⟩
        have s1 := same_new (o := .lst [.bl (decide (V.str k = V.str "true"))]) n1
        refine ⟨_, rfl, la, _, rfl, .inl (.of (s1 _ _ hla)), p1, _, _, rfl, rfl, upd_same, by rw [ll]; omega, by rw [ll]; omega, by rw [ll]; show 1 * ((m + L : Nat) : Int).toNat ≤ sizeLine; omega, fun p2 n2 => ?_⟩
        rw [ll, Int.toNat_natCast, arrb_rep]
        refine q _ p2 (s1.trans (same_new n2)) ?_
        unfold ArrB
        rw [upd_same]
        congr 2
        refine arrb_congr fun t _ => ?_
        rw [sem_c0 hw]
        by_cases c : k = "true"
        · rw [decide_eq_true c, decide_eq_true (by rw [c])]
        · rw [decide_eq_false c, decide_eq_false (fun z => c (V.str.inj z))]
    by_cases h1 : ∃ s, f = .sg s
    · obtain ⟨s, rfl⟩ := h1
      obtain ⟨a, rfl, ha⟩ := hf
      refine ⟨_, rfl, a, _, _, _, rfl, rfl, ha, rfl, ?_⟩
      refine ⟨_, rfl, rfl, _, rfl, str_ite (fun c => absurd c (by decide)) (fun _ => ⟨_, rfl, rfl, _, rfl, str_ite (fun c => absurd c (by decide)) (fun _ => ?_)⟩)⟩
      refine ⟨_, rfl, rfl, _, rfl, iteT ?_⟩
      refine ⟨_, rfl, .inl ⟨rfl, _, .of hna⟩, _, rfl, a, _, _, .str s, rfl, rfl, ha, rfl, ?_⟩
      walk_at "nl"
      refine idxq (.of hna) hw ?_
      refine ⟨_, rfl, la, rfl, ⟨_, .of hla⟩, fun D hD => ?_⟩
      refine lc_list (K := K) (a := la) (xs := ((List.range (m + L)).map x).map V.int) (fun j H5 => Same H H5 ∧ H5 D = some (.lst ((List.range j).map fun t => V.bl (bitI (x t) (nm.idxOf s)))))
        ⟨same_new hD, upd_same⟩ (fun j H5 _ ⟨z, _⟩ => .of (z _ _ hla)) ?_ ?_
      · rintro j y H5 hj ⟨s5, eD⟩
        have hjl := (List.getElem?_eq_some_iff.mp hj).1
        rw [ll] at hjl
        rw [List.getElem?_map, List.getElem?_map, List.getElem?_range hjl] at hj
        cases hj
        refine ⟨rfl, _, rfl, _, rfl, _, _, rfl, rfl, Int.natCast_nonneg _, _, _, rfl, rfl, rfl, _, eD, by rw [arrb_len]; omega, fun c w hc => ?_, ?_⟩
        · rw [upd_ne (ne_of_none hc hD)]
          exact s5 _ _ hc
        · rw [upd_same, Int.toNat_natCast]
          show some (HO.lst (_ ++ [V.bl (decide (V.int (Builtin.bitAnd (x j / 2 ^ List.idxOf s nm) 1) = V.int 1))])) = _
          rw [bit_eq, List.range_succ, List.map_append]
          rfl
      · rintro H5 ⟨s5, eD⟩
        rw [ll] at eD
        exact q H5 D s5 eD
    obtain ⟨a, x1, g1, rest, rfl, ha, hg1, hw1, hp1, hd1, hop, nt, nf, ns, hsem⟩ := ops_of (x := x) hf hw (fun k e => h0 ⟨k, e⟩) (fun s e => h1 ⟨s, e⟩)
    obtain ⟨n', rfl⟩ : ∃ n', n = n' + 1 := ⟨n - 1, by omega⟩
    have pdl : ∀ g : Fm, pd g ≤ pd f → h + pd g * L ≤ m := fun g hg => by
      have := Nat.mul_le_mul_right L hg
      omega
    have pds : ∀ g : Fm, pd g ≤ pd f → Pd (sem nm x g) m L := fun g hg => (sem_pd hL hx g).up (pdl g hg)
    generalize hk : kd f = k at ha hop nt nf ns hsem
    refine ⟨_, rfl, a, _, _, _, rfl, rfl, ha, atI_nat (j := 0) List.getElem?_cons_zero, ?_⟩
    refine ⟨_, rfl, rfl, _, rfl, str_ite (fun c => absurd c nt) (fun _ => ⟨_, rfl, rfl, _, rfl, str_ite (fun c => absurd c nf) (fun _ => ?_)⟩)⟩
    refine ⟨_, rfl, rfl, _, rfl, str_ite (fun c => absurd c ns) (fun _ => ?_)⟩
    refine ⟨_, rfl, a, _, _, _, rfl, rfl, ha, atI_nat (j := 1) (by rw [List.getElem?_cons_succ, List.getElem?_cons_zero]), ?_⟩
    refine ⟨_, rfl, _, rfl, _, rfl, x1, na, la, g1, nm, h, m, L, x, rfl, hg1, hw1, by omega, hna, hla, hL, hN, pdl g1 hp1, hx, fun H2 lf s2 hlf => ?_⟩
    refine ⟨_, rfl, ?_⟩
    refine ⟨fun σ H3 => ∃ (rg : Addr) (b : Nat → Bool), σ = [some (.ref a), some (.ref na), some (.ref la), some (.int (m : Int)), some (.str k), none, some (.ref lf), some (.ref rg), none] ∧ Same H2 H3 ∧ ArrB H3 rg (m + L) b ∧ Pd b m L ∧ sem nm x f = sq k (sem nm x g1) b, ?_, ?_⟩
    · rcases hsem with ⟨rfl, he⟩ | ⟨x2, g2, rfl, hg2, hw2, hp2, hd2, he⟩
      · refine ⟨_, rfl, a, _, rfl, .inr (sqt_same s2 ha), rfl, _, rfl, iteF ?_⟩
        exact ⟨lf, _, rfl, Same.refl H2, hlf, pds g1 hp1, he⟩
      · refine ⟨_, rfl, a, _, rfl, .inr (sqt_same s2 ha), rfl, _, rfl, iteT ?_⟩
        refine ⟨_, rfl, a, _, _, _, rfl, rfl, sqt_same s2 ha, rfl, ?_⟩
        refine ⟨_, rfl, _, rfl, _, rfl, x2, na, la, g2, nm, h, m, L, x, rfl, hg2.same s2, hw2, by omega, s2 _ _ hna, s2 _ _ hla, hL, hN, pdl g2 hp2, hx, fun H3 rg s3 hrg => ?_⟩
        exact ⟨rg, _, rfl, s3, hrg, pds g2 hp2, he⟩
    · rintro σ H3 ⟨rg, b, rfl, s3, hrg, pb, he⟩
      have hlf3 := s3 _ _ hlf
      have pa := pds g1 hp1
      have sH := s2.trans s3
      refine ⟨_, rfl, by show 5 ≤ sizeLine; decide, fun t1 n1 => inq (ss := G5) (.of upd_same) ⟨_, rfl, ite2 (fun e => ?_) (fun e => ?_)⟩⟩
      · have hk5 := of_decide_eq_true e
        obtain ⟨hnp, hnf⟩ := g5_pl k hk5
        have s4 := same_new (o := .tup (G5.map V.str)) n1
        have hlf4 := s4 _ _ hlf3
        have hrg4 := s4 _ _ hrg
        refine ⟨_, rfl, lf, _, rfl, .inl (.of hlf4), ?_⟩
        rw [arrb_len]
        refine ⟨_, rfl, by omega, by omega, fun D hD => ?_⟩
        refine lc_range (lo := 0) (n := ((m + L : Nat) : Int).toNat) (fun j H5 => Same (upd H3 t1 (.tup (G5.map V.str))) H5 ∧ H5 D = some (.lst ((List.range j).map fun t => V.bl (sem nm x f t)))) ⟨same_new hD, upd_same⟩ ?_ ?_
        · rintro j H5 hj ⟨s5, eD⟩
          have hj' : j < m + L := by omega
          refine ⟨rfl, _, rfl, _, rfl, _, rfl, lf, _, _, .bl (sem nm x g1 j), rfl, rfl, .of (s5 _ _ hlf4), by rw [Int.zero_add]; exact atI_nat (arrb_get hj'), ?_⟩
          refine ⟨_, rfl, _, rfl, rg, _, _, .bl (b j), rfl, rfl, .of (s5 _ _ hrg4), by rw [Int.zero_add]; exact atI_nat (arrb_get hj'), ?_⟩
          refine ⟨k, _, _, rfl, _, eD, by rw [arrb_len]; omega, fun c w hc => ?_, ?_⟩
          · rw [upd_ne (ne_of_none hc hD)]
            exact s5 _ _ hc
          · rw [upd_same, g5_lg k hk5, ← sq_pl hnp hnf, ← he, List.range_succ, List.map_append]
            rfl
        · rintro H5 ⟨s5, eD⟩
          rw [Int.toNat_natCast] at eD
          exact q H5 D (sH.trans (s4.trans s5)) eD
      · have hk5 : ¬ k ∈ G5 := fun z => e (decide_eq_true z)
        have s4 := same_new (o := .tup (G5.map V.str)) n1
        refine ⟨_, rfl, by show 3 ≤ sizeLine; decide, fun t2 n2 => inq (ss := S3) (.of upd_same) ⟨_, rfl, ite2 (fun e2 => ?_) (fun e2 => ?_)⟩⟩
        · have hk3 : k ∈ steps := of_decide_eq_true e2
          have s5 := s4.trans (same_new (o := .tup (S3.map V.str)) n2)
          refine ⟨_, rfl, _, rfl, _, rfl, k, lf, m, L, sem nm x g1, b, rfl, hk3, hL, pa, s5 _ _ hlf3, hN, fun H6 p6 s6 h6 => ?_⟩
          rw [← he] at h6
          exact q H6 p6 (sH.trans (s5.trans s6)) h6
        · have hk3 : ¬ k ∈ S3 := fun z => e2 (decide_eq_true z)
          have s5 := s4.trans (same_new (o := .tup (S3.map V.str)) n2)
          refine ⟨_, rfl, _, rfl, _, rfl, _, rfl, k, lf, rg, m, L, sem nm x g1, b, rfl, hop hk5 hk3, hL, pa, pb, s5 _ _ hlf3, s5 _ _ hrg, hN, fun H6 p6 s6 h6 => ?_⟩
          rw [← he] at h6
          exact q H6 p6 (sH.trans (s5.trans s6)) h6
theorem cal_tab (T : Txt K mg) : ∀ n, C8.Cal P w K mg base (2 + n) "_law_table" (spTab K n) []
  | 0 => by
    obtain ⟨f, fd, F, hm, hb⟩ := T.h_law_table
    exact ⟨f, fd, _, [], ⟨fun vs H Q E h => h.elim, fun A outer s H args us vs Q E _ _ _ _ h => h.elim⟩, hm, F.kp, hb, .nil⟩
  | n + 1 => cal_tab_step T (cal_tab T n)
theorem vsl_to {K : PySem.W.Frag} {H : Hp} {a : Addr} {xs : List V} {n : Nat} {Q : VK} (h : H a = some (.lst xs)) (q : ∀ p, H p = none → Q (.ref p) (upd H p (.lst (xs.take n)))) : rSlL K (.ref a) none (some (n : Int)) H Q :=
  ⟨a, xs, rfl, .of h, fun p hp => by rw [cutv_to]; exact q p hp⟩
theorem vsl_from {K : PySem.W.Frag} {H : Hp} {a : Addr} {xs : List V} {n : Nat} {Q : VK} (h : H a = some (.lst xs)) (hn : n ≤ xs.length) (q : ∀ p, H p = none → Q (.ref p) (upd H p (.lst (xs.drop n)))) : rSlL K (.ref a) (some (n : Int)) none H Q :=
  ⟨a, xs, rfl, .of h, fun p hp => by rw [cutv_from xs hn]; exact q p hp⟩
def spLTr (K : PySem.W.Frag) : Sp := fun vs H Q _ => ∃ (v : V) (n p : Addr) (f : Fm) (nm : List Str) (h l : List Int), vs = [v, .ref n, .ref p] ∧ FmAt K H v f ∧ Wo nm f ∧ dpt f ≤ 3 ∧ sz f ≤ 500 ∧ H n = some (.lst (nm.map V.str)) ∧ Las H p h l ∧ l ≠ [] ∧ h.length ≤ 100 ∧ l.length ≤ 100 ∧
  ∀ (H' : Hp) (q : Addr) (g m : List Int), Same H H' → Las H' q g m → m ≠ [] → g.length ≤ 100000 → m.length ≤ 100 → (∀ t, wat g m t = bi (sem nm (wat h l) f t)) → Q (.ref q) H'
theorem cal_ltr (T : Txt K mg) : C8.Cal P w K mg base 7 "_law_truth" (spLTr K) [] := by
  have C_law_past_count : C8.Cal P w K mg base 5 "_law_past_count" (spPc K 4) [] := cal_pc T 4
  have C_law_table : C8.Cal P w K mg base 6 "_law_table" (spTab K 4) [] := cal_tab T 4
  obtain ⟨f, fd, F, hm, hb⟩ := T.h_law_truth
  refine ⟨f, fd, _, [], F.ok sc_law_truth (fun vs H Q E h => ?_) (fun cdv A outer s H vs Q E hr h => ?_), hm, F.kp, hb, .nil⟩
  · obtain ⟨v, n, p, f, nm, h, l, rfl, _⟩ := h
    rfl
  · obtain ⟨v, n, p, f, nm, h, l, rfl, hf, hw, hd, hz, hn, hlas, hne, hh, hl, q⟩ := h
    refine ⟨_, (pss_cons
      (ps_set (i := 3) sc_law_truth.nd rfl (Or.inl rfl) (C8.pe_c C_law_past_count hr (by decide) (by rfl) (pa_cons (pv 0) pa_nil)))
      (pss_cons
      (ps_set (i := 4) sc_law_truth.nd rfl (Or.inl rfl) (pe_op op_cat (pe_callTy (call_list_ofK (K := K) rfl) (by rfl) T.z_list (by decide +kernel) (pa_cons (pe_ix (ix_tupK (K := K) rfl) (pv 2) pe_int (fun _ _ => rfl)) pa_nil)) (pe_op op_rep (pe_callTy (call_list_ofK (K := K) rfl) (by rfl) T.z_list (by decide +kernel) (pa_cons (pe_ix (ix_tupK (K := K) rfl) (pv 2) pe_int (fun _ _ => rfl)) pa_nil)) (pe_op op_add (pv 3) pe_int))))
      (pss_cons
      (ps_set (i := 5) sc_law_truth.nd rfl (Or.inl rfl) (pe_op op_add (pe_callB (call_lenK (K := K) rfl) (by rfl) T.z_len PySem.boot_len (pa_cons (pe_ix (ix_tupK (K := K) rfl) (pv 2) pe_int (fun _ _ => rfl)) pa_nil)) (pe_op op_mul (pe_callB (call_lenK (K := K) rfl) (by rfl) T.z_len PySem.boot_len (pa_cons (pe_ix (ix_tupK (K := K) rfl) (pv 2) pe_int (fun _ _ => rfl)) pa_nil)) (pv 3))))
      (pss_cons
      (ps_set (i := 6) sc_law_truth.nd rfl (Or.inl rfl) (C8.pe_c C_law_table hr (by decide) (by rfl) (pa_cons (pv 0) (pa_cons (pv 1) (pa_cons (pv 4) (pa_cons (pv 5) pa_nil))))))
      (pss_one
      (ps_ret (pe_tup (pa_cons (pe_callTy (call_tuple_ofK (K := K) rfl) (by rfl) T.z_tuple (by decide +kernel) (pa_cons (pe_lc (own := [("value", 7)]) (g := gName 7) (tt := tYes) rfl sc_law_truth.nd (pi_list (pe_slice (sl_listK (K := K) rfl) (pv 6) po_none (po_some (pv 5)))) (blkOk_by (N := N_law_truth) (sc := defScope s_law_truth) (by decide +kernel)) (fun _ _ _ _ _ => (pg_name (i := 7) sc_law_truth.nd rfl (Or.inl rfl))) (fun _ _ _ _ _ => pts_nil) (fun _ _ _ _ _ => (pe_callTy call_int1 (by rfl) T.z_int (by decide +kernel) (pa_cons (pv 7) pa_nil)))) pa_nil)) (pa_cons (pe_callTy (call_tuple_ofK (K := K) rfl) (by rfl) T.z_tuple (by decide +kernel) (pa_cons (pe_lc (own := [("value", 7)]) (g := gName 7) (tt := tYes) rfl sc_law_truth.nd (pi_list (pe_slice (sl_listK (K := K) rfl) (pv 6) (po_some (pv 5)) po_none)) (blkOk_by (N := N_law_truth) (sc := defScope s_law_truth) (by decide +kernel)) (fun _ _ _ _ _ => (pg_name (i := 7) sc_law_truth.nd rfl (Or.inl rfl))) (fun _ _ _ _ _ => pts_nil) (fun _ _ _ _ _ => (pe_callTy call_int1 (by rfl) T.z_int (by decide +kernel) (pa_cons (pv 7) pa_nil)))) pa_nil)) pa_nil))))))))), ?_⟩
    have hL : 0 < l.length := List.length_pos_iff.mpr hne
    refine ⟨_, rfl, v, f, nm, rfl, hf, hw, hd, fun H1 c s1 c1 c2 => ?_⟩
    obtain ⟨a, b, e1, e2, e3⟩ := hlas.same s1
    have mulle : c * l.length ≤ 500 * 100 := Nat.mul_le_mul (by omega) hl
    have mul1 : (c + 1) * l.length = c * l.length + l.length := Nat.succ_mul _ _
    refine ⟨_, rfl, p, _, _, _, rfl, rfl, .of e1, rfl, a, _, rfl, .inr (.of e2), fun p1 n1 => ?_⟩
    have t1 := same_new (o := .lst (h.map V.int)) n1
    refine ⟨_, rfl, p, _, _, _, rfl, rfl, .of (t1 _ _ e1), rfl, b, _, rfl, .inr (.of (t1 _ _ e3)), fun p2 n2 => ?_⟩
    have t2 := same_new (o := .lst (l.map V.int)) n2
    refine ⟨_, rfl, _, _, rfl, rfl, p2, _, _, rfl, rfl, upd_same, by omega, by omega, ?_, fun p3 n3 => ?_⟩
    · rw [List.length_map, show ((c : Int) + 1).toNat = c + 1 by omega, Nat.mul_comm, mul1]
      exact Nat.le_trans (show c * l.length + l.length ≤ 50100 by omega) (by decide)
    have ek : ((c : Int) + 1).toNat = c + 1 := by omega
    rw [ek]
    have t3 := same_new (o := .lst (List.replicate (c + 1) (l.map V.int)).flatten) n3
    have lrep : ((List.replicate (c + 1) (l.map V.int)).flatten).length = (c + 1) * l.length := by
      rw [List.length_flatten, List.map_replicate, List.sum_replicate_nat, List.length_map]
    refine ⟨p1, p3, _, _, rfl, rfl, t3 _ _ (t2 _ _ upd_same), upd_same, ?_, fun p4 n4 => ?_⟩
    · rw [lrep, List.length_map, mul1]
      exact Nat.le_trans (show h.length + (c * l.length + l.length) ≤ 50200 by omega) (by decide)
    obtain ⟨m, hmv⟩ : ∃ m, m = h.length + c * l.length := ⟨_, rfl⟩
    have elet : h.map V.int ++ (List.replicate (c + 1) (l.map V.int)).flatten = (((List.range (m + l.length)).map (wat h l)).map V.int) := by
      have r := congrArg (List.map V.int) (rep_wat hne (c + 1) (h := h))
      rw [List.map_append, List.map_flatten, List.map_replicate, mul1, ← Nat.add_assoc, ← hmv] at r
      exact r
    rw [elet]
    have t4 := same_new (o := .lst (((List.range (m + l.length)).map (wat h l)).map V.int)) n4
    have t14 := t1.trans (t2.trans (t3.trans t4))
    have g4 : (upd (upd (upd (upd H1 p1 (.lst (h.map V.int))) p2 (.lst (l.map V.int))) p3 (.lst (List.replicate (c + 1) (l.map V.int)).flatten)) p4 (.lst (((List.range (m + l.length)).map (wat h l)).map V.int))) p4 = some (.lst (((List.range (m + l.length)).map (wat h l)).map V.int)) := upd_same
    generalize upd (upd (upd (upd H1 p1 (.lst (h.map V.int))) p2 (.lst (l.map V.int))) p3 (.lst (List.replicate (c + 1) (l.map V.int)).flatten)) p4 (.lst (((List.range (m + l.length)).map (wat h l)).map V.int)) = H4 at t14 g4 ⊢
    have s4 := s1.trans t14
    refine ⟨_, rfl, p, _, _, _, rfl, rfl, .of (t14 _ _ e1), rfl, a, _, rfl, .inr (.of (t14 _ _ e2)), ?_⟩
    refine ⟨_, rfl, p, _, _, _, rfl, rfl, .of (t14 _ _ e1), rfl, b, _, rfl, .inr (.of (t14 _ _ e3)), ?_⟩
    refine ⟨_, rfl, _, _, rfl, rfl, .inl ⟨by rw [List.length_map]; omega, by rw [List.length_map]; omega⟩, _, _, rfl, rfl, ?_⟩
    rw [List.length_map, List.length_map]
    have eback : ((h.length : Int) + (l.length : Int) * (c : Int)) = (m : Int) := by
      rw [hmv, Int.natCast_add, Int.natCast_mul, Int.mul_comm]
    dsimp only
    rw [eback]
    refine ⟨_, rfl, _, rfl, _, rfl, _, rfl, v, n, p4, f, nm, h.length, m, l.length, wat h l, rfl, hf.same s4, hw, hd, s4 _ _ hn, g4, hL, by omega, ?_, fun t ht => wat_pd hne t ht, fun H5 fo s5 hfo => ?_⟩
    · have := Nat.mul_le_mul_right l.length c1
      omega
    obtain ⟨B, hB⟩ : ∃ B : List Bool, B = (List.range (m + l.length)).map (sem nm (wat h l) f) := ⟨_, rfl⟩
    have hBl : B.length = m + l.length := by rw [hB, List.length_map, List.length_range]
    have hfo' : H5 fo = some (.lst (B.map V.bl)) := by
      unfold ArrB at hfo
      rw [hfo, hB, List.map_map]
      rfl
    have s5H := s4.trans s5
    refine ⟨_, rfl, _, rfl, _, rfl, ?_⟩
    refine vsl_to hfo' fun p6 n6 => ?_
    rw [← List.map_take]
    have t6 := same_new (o := .lst ((B.take m).map V.bl)) n6
    have g6 : (upd H5 p6 (.lst ((B.take m).map V.bl))) p6 = some (.lst ((B.take m).map V.bl)) := upd_same
    have f6 := t6 _ _ hfo'
    generalize upd H5 p6 (.lst ((B.take m).map V.bl)) = H6 at t6 g6 f6 ⊢
    refine ⟨p6, rfl, ⟨_, .of g6⟩, fun D hD => ?_⟩
    have stepI : ∀ {B : List Bool} {j : Nat} {y : V}, (B.map V.bl)[j]? = some y → ∃ c, y = .bl c ∧ ((B.take (j + 1)).map bi).map V.int = ((B.take j).map bi).map V.int ++ [V.int (bi c)] := fun {B j y} hj => by
      rw [List.getElem?_map] at hj
      cases e : B[j]? with
      | none => rw [e] at hj; cases hj
      | some c =>
        rw [e] at hj
        refine ⟨c, (Option.some.inj hj).symm, ?_⟩
        rw [List.take_add_one, e, List.map_append, List.map_append]
        rfl
    have ltl : ∀ {B : List Bool} {j : Nat}, B.length ≤ 1000000 → (((B.take j).map bi).map V.int).length < sizeLine := fun {B j} hb => by
      rw [List.length_map, List.length_map, List.length_take]
      exact Nat.lt_of_le_of_lt (show min j B.length ≤ 1000000 by omega) (by decide)
    refine lc_list (K := K) (a := p6) (xs := (B.take m).map V.bl) (fun j H' => Same H6 H' ∧ H' D = some (.lst ((((B.take m).take j).map bi).map V.int))) ⟨same_new hD, upd_same⟩ (fun j H' _ ⟨z, _⟩ => .of (z _ _ g6)) ?_ ?_
    · rintro j y H' hj ⟨s6, eD⟩
      obtain ⟨cb, rfl, ec⟩ := stepI hj
      refine ⟨rfl, _, rfl, .inr ⟨_, rfl, _, eD, ltl (by rw [List.length_take]; omega), fun z u hz2 => ?_, by rw [upd_same, ec]; rfl⟩⟩
      rw [upd_ne (ne_of_none hz2 hD)]
      exact s6 _ _ hz2
    · rintro H7 ⟨s6, eD⟩
      rw [List.length_map, List.take_length] at eD
      refine ⟨D, _, rfl, .inl ⟨.of eD, fun a7 n7 => ?_⟩⟩
      have t7 := same_new (o := .tup (((B.take m).map bi).map V.int)) n7
      have g7 : TupI (upd H7 a7 (.tup (((B.take m).map bi).map V.int))) a7 ((B.take m).map bi) := upd_same
      have f7 := t7 _ _ (s6 _ _ f6)
      have s7 := s5H.trans (t6.trans (s6.trans t7))
      generalize upd H7 a7 (.tup (((B.take m).map bi).map V.int)) = H8 at s7 g7 f7 ⊢
      refine ⟨_, rfl, _, rfl, _, rfl, ?_⟩
      walk_at "nl"
      refine vsl_from (n := m) f7 (by rw [List.length_map, hBl]; omega) fun p8 n8 => ?_
      rw [← List.map_drop]
      have t8 := same_new (o := .lst ((B.drop m).map V.bl)) n8
      have g8 : (upd H8 p8 (.lst ((B.drop m).map V.bl))) p8 = some (.lst ((B.drop m).map V.bl)) := upd_same
      have f8 := t8 _ _ g7
      generalize upd H8 p8 (.lst ((B.drop m).map V.bl)) = H9 at t8 g8 f8 ⊢
      refine ⟨p8, rfl, ⟨_, .of g8⟩, fun D2 hD2 => ?_⟩
      refine lc_list (K := K) (a := p8) (xs := (B.drop m).map V.bl) (fun j H' => Same H9 H' ∧ H' D2 = some (.lst ((((B.drop m).take j).map bi).map V.int))) ⟨same_new hD2, upd_same⟩ (fun j H' _ ⟨z, _⟩ => .of (z _ _ g8)) ?_ ?_
      · rintro j y H' hj ⟨s9, eD2⟩
        obtain ⟨cb, rfl, ec⟩ := stepI hj
        refine ⟨rfl, _, rfl, .inr ⟨_, rfl, _, eD2, ltl (by rw [List.length_drop]; omega), fun z u hz2 => ?_, by rw [upd_same, ec]; rfl⟩⟩
        rw [upd_ne (ne_of_none hz2 hD2)]
        exact s9 _ _ hz2
      · rintro HA ⟨s9, eD2⟩
        rw [List.length_map, List.take_length] at eD2
        refine ⟨D2, _, rfl, .inl ⟨.of eD2, fun aB nB => ?_⟩⟩
        have tB := same_new (o := .tup (((B.drop m).map bi).map V.int)) nB
        refine ⟨by show 2 ≤ sizeLine; decide, fun pC nC => ?_⟩
        have tC := same_new (o := .tup [.ref a7, .ref aB]) nC
        refine q _ pC ((B.take m).map bi) ((B.drop m).map bi) (s7.trans (t8.trans (s9.trans (tB.trans tC)))) ⟨a7, aB, upd_same, (s9.trans (tB.trans tC)) _ _ f8, tC _ _ upd_same⟩ (fun z => ?_) ?_ ?_ fun t => ?_
        · have := congrArg List.length z
          rw [List.length_map, List.length_drop, hBl] at this
          have h0 : m + l.length - m = 0 := this
          omega
        · rw [List.length_map, List.length_take]
          omega
        · rw [List.length_map, List.length_drop]
          omega
        · have hper : Pd (sem nm (wat h l) f) m l.length := by
            refine (sem_pd hL (fun t ht => wat_pd hne t ht) f).up ?_
            have := Nat.mul_le_mul_right l.length c1
            omega
          rw [hB, List.map_take, List.map_drop, List.map_map]
          exact cut_wat (f := fun t => bi (sem nm (wat h l) f t)) hL (fun t ht => by show bi _ = bi _; rw [hper t ht]) t
theorem cal_at (T : Txt K mg) : C8.Cal P w K mg base 1 "_law_at" spAt [] := by
  obtain ⟨f, fd, F, hm, hb⟩ := T.h_law_at
  refine ⟨f, fd, _, [], F.ok sc_law_at (fun vs H Q E h => ?_) (fun cdv A outer s H vs Q E hr h => ?_), hm, F.kp, hb, .nil⟩
  · obtain ⟨p, h, l, t, rfl, _⟩ := h
    rfl
  · obtain ⟨p, h, l, t, rfl, ⟨a, b, e1, e2, e3⟩, hn, q⟩ := h
    have i0 : atI [V.ref a, V.ref b] 0 = some (.ref a) := rfl
    have i1 : atI [V.ref a, V.ref b] 1 = some (.ref b) := rfl
    have hl : 0 < l.length := List.length_pos_iff.mpr hn
    refine ⟨_, (pss_cons
      (ps_if (pt_cmpR op_lt (pv 1) (pe_callB (call_lenK (K := K) rfl) (by rfl) T.z_len PySem.boot_len (pa_cons (pe_ix (ix_tupK (K := K) rfl) (pv 0) pe_int (fun _ _ => rfl)) pa_nil)) (nomark _)) (pss_one
      (ps_ret (pe_ix (ix_seqK (K := K) rfl) (pe_ix (ix_tupK (K := K) rfl) (pv 0) pe_int (fun _ _ => rfl)) (pv 1) (fun _ _ => rfl)))) pss_nil)
      (pss_one
      (ps_ret (pe_ix (ix_seqK (K := K) rfl) (pe_ix (ix_tupK (K := K) rfl) (pv 0) pe_int (fun _ _ => rfl)) (pe_op op_mod (pe_callTy call_int1 (by rfl) T.z_int (by decide +kernel) (pa_cons (pe_op op_sub (pv 1) (pe_callB (call_lenK (K := K) rfl) (by rfl) T.z_len PySem.boot_len (pa_cons (pe_ix (ix_tupK (K := K) rfl) (pv 0) pe_int (fun _ _ => rfl)) pa_nil))) pa_nil)) (pe_callB (call_lenK (K := K) rfl) (by rfl) T.z_len PySem.boot_len (pa_cons (pe_ix (ix_tupK (K := K) rfl) (pv 0) pe_int (fun _ _ => rfl)) pa_nil))) (fun _ _ => rfl))))), ?_⟩
    walk_at "bx"
    refine ite2 (fun e => ?_) (fun e => ?_)
    · have e0 : t < h.length := by
        have := of_decide_eq_true e
        rw [List.length_map] at this
        omega
      walk_at "bx"
      exact ixq e2 rfl (wat_head e0) q
    · have e0 : ¬ t < h.length := fun z => e (decide_eq_true (by rw [List.length_map]; omega))
      walk_at "bx"
      refine ⟨(show (0 : Int) < _ by rw [List.length_map]; omega), ?_⟩
      exact ixq e3 (by rw [List.length_map, List.length_map]; exact ix_mod (Nat.le_of_not_lt e0)) (wat_loop e0 hn) q
/-- a def with a keyword-only parameter (with a default), three others; it may raise -/
structure CalH (P : Program) (w : World) (K : PySem.W.Frag) (mg : Str → Option Value) (base : Heap) (k : Nat) (x y : Str) (dv : V) (sp : Sp) : Prop where
  ex : ∃ (f : Addr) (fd : FuncData) (ps : List Str), FnOk P w K mg base (L2.CX P w) k f fd ps sp ∧ mg x = some (.ref f) ∧ PySem.W.keepIn K (.ref f) = true ∧
    (∃ ds, Vals [dv] ds ∧ Binds K fd ps ds) ∧ ∃ mv : List Value, KBn K fd ps 3 [y] (fun us ws => us ++ mv ++ ws) (fun vs zs => vs ++ [] ++ zs)
section
variable {X : Cx} {k j : Nat} {x y : Str} {dv : V} {sp : Sp} {W : WX} {p pos : Pos} {e : Expr} {es : List Expr} {kws : List Keyword} {t tk : TA}
theorem pe_hD (c : CalH X.prog X.w X.K X.mg X.base k x y dv sp) (hr : Room j X.A) (hk : k ≤ j) (tk : Takes X W) (hg : Gl X x) (ha : PA X (e :: es) t)
    (hdb : (x == ("__debug__" : Str)) = false := by decide) (he : starEach (e :: es) X.env = (false, eval e X.env) :: starEach es X.env := by rfl) (hpl : (backTo pos (starEach es X.env)).any (·.1) = false := by rfl) :
    PE X (.Call (.Name x p) (e :: es) [] pos) (tCallSD sp [dv] (WE W) t) := by
  obtain ⟨f, fd, ps, F, hm, kp, ⟨ds, rd, b⟩, _⟩ := c.ex
  exact pe_callSD F (hr.mono hk) hg hm kp b rd (fun σ => passAt tk σ) ha hdb he hpl
def tCallSN (sp : Sp) (E : L2.St → XK) (t tk : TA) : TE := fun σ H Q => t σ H fun vs H1 => tk σ H1 fun zs H2 => vs.length = 3 ∧ zs.length = 1 ∧ sp (vs ++ [] ++ zs) H2 Q (E σ)
theorem pe_hN (c : CalH X.prog X.w X.K X.mg X.base k x y dv sp) (hr : Room j X.A) (hk : k ≤ j) (tk' : Takes X W) (hg : Gl X x) (ha : PA X (e :: es) t) (hkw : PK X kws tk)
    (hall : (backToKw pos (keywordEach kws X.env)).all (·.1.isSome) = true := by rfl) (hks : (backToKw pos (keywordEach kws X.env)).filterMap (·.1) = [y] := by rfl)
    (hdb : (x == ("__debug__" : Str)) = false := by decide) (he : starEach (e :: es) X.env = (false, eval e X.env) :: starEach es X.env := by rfl)
    (hpl : ((backTo pos (starEach (e :: es) X.env)).any (·.1) || (backToKw pos (keywordEach kws X.env)).any (·.1.isNone)) = false := by rfl) :
    PE X (.Call (.Name x p) (e :: es) kws pos) (tCallSN sp (WE W) t tk) := by
  obtain ⟨f, fd, ps, F, hm, kp, _, mv, hb⟩ := c.ex
  refine ⟨fun pins s σ H Q I h => ?_⟩
  refine wpAny_Call_Name_kw (ld_glob I hg hm ?_ hdb)
  refine PySem.W.callWith_KW (h₀ := X.base) I.ok.mod.kin kp hall (thn (ha.run pos pins s σ H _ I h) fun us s1 ⟨vs, H1, I1, r, q⟩ => ?_) hpl he
  refine thn (hkw.run pos pins s1 σ H1 _ I1 q) fun ws s2 ⟨zs, H2, I2, rz, l1, l2, q2⟩ => ⟨I2.kIn, ?_⟩
  rw [hks]
  have r2 := hb.rel r rz
  have bd := hb.to s2 us ws I2.kIn (r.length.symm.trans l1) (rz.length.symm.trans l2)
  refine wpAny_call (codeAny_mono (F.run X.A X.stack s2 H2 ⟨us, [y].zip ws⟩ _ _ Q _ (hr.mono hk) I2.env0 bd r2 q2) fun r s' hq => ?_)
  cases r with
  | error e => exact passAt tk' σ pins H2 s2 e s' I2 hq
  | ok fl =>
    cases fl with
    | ret u => exact I2.after hq
    | next => exact False.elim hq
    | brk => exact False.elim hq
    | cont => exact False.elim hq
end
theorem cal_letter (T : Txt K mg) : C8.Cal P w K mg base 1 "letter_at" spAt [] := by
  obtain ⟨f, fd, F, hm, hb⟩ := T.h_letter_at
  refine ⟨f, fd, _, [], F.ok sc_letter_at (fun vs H Q E h => ?_) (fun cdv A outer s H vs Q E hr h => ?_), hm, F.kp, hb, .nil⟩
  · obtain ⟨p, h, l, t, rfl, _⟩ := h
    rfl
  · obtain ⟨p, h, l, t, rfl, ⟨a, b, e1, e2, e3⟩, hn, q⟩ := h
    have hl : 0 < l.length := List.length_pos_iff.mpr hn
    refine ⟨_, (pss_cons
      (ps_if (pt_cmpR op_lt (pv 1) pe_int (nomark _)) (pss_one
      ps_never) pss_nil)
      (pss_cons
      (ps_asg (pv 0) (pg_tup (by rfl) (pgs_cons (pg_name (i := 2) sc_letter_at.nd rfl (.inl rfl)) (pgs_cons (pg_name (i := 3) sc_letter_at.nd rfl (.inl rfl)) pgs_nil))))
      (pss_cons
      (ps_if (pt_cmpR op_lt (pv 1) (pe_callB (call_lenK (K := K) rfl) (by rfl) T.z_len PySem.boot_len (pa_cons (pv 2) pa_nil)) (nomark _)) (pss_one
      (ps_ret (pe_ix (ix_seqK (K := K) rfl) (pv 2) (pv 1) (fun _ _ => rfl)))) pss_nil)
      (pss_one
      (ps_ret (pe_ix (ix_seqK (K := K) rfl) (pv 3) (pe_op op_mod (pe_op op_sub (pv 1) (pe_callB (call_lenK (K := K) rfl) (by rfl) T.z_len PySem.boot_len (pa_cons (pv 2) pa_nil))) (pe_callB (call_lenK (K := K) rfl) (by rfl) T.z_len PySem.boot_len (pa_cons (pv 3) pa_nil))) (fun _ _ => rfl))))))), ?_⟩
    walk_at "bx"
    refine ⟨p, _, rfl, .of e1, rfl, _, _, rfl, _, _, rfl, rfl, ?_⟩
    walk_at "bx"
    refine ite2 (fun e => ?_) (fun e => ?_)
    · have e0 : t < h.length := by
        have := of_decide_eq_true e
        rw [List.length_map] at this
        omega
      exact ⟨_, rfl, _, rfl, ixq e2 rfl (wat_head e0) q⟩
    · have e0 : ¬ t < h.length := fun z => e (decide_eq_true (by rw [List.length_map]; omega))
      walk_at "bx"
      refine ⟨(show (0 : Int) < _ by rw [List.length_map]; omega), ?_⟩
      exact ixq e3 (by rw [List.length_map, List.length_map]; exact ix_mod (Nat.le_of_not_lt e0)) (wat_loop e0 hn) q
def spQt (K : PySem.W.Frag) : Sp := fun vs H Q _ => ∃ (v : V) (f : Fm), vs = [v] ∧ FmAt K H v f ∧ kd f ≠ "exists" ∧ kd f ≠ "forall" ∧ Q (.bl false) H
theorem cal_qt (T : Txt K mg) : C8.Cal P w K mg base 1 "is_quantified" (spQt K) [] := by
  obtain ⟨cT, cL, aQ, _, _, _, gQ⟩ := gloE T
  obtain ⟨f, fd, F, hm, hb⟩ := T.h_is_quantified
  refine ⟨f, fd, _, [], F.ok sc_is_quantified (fun vs H Q E h => ?_) (fun cdv A outer s H vs Q E hr h => ?_), hm, F.kp, hb, .nil⟩
  · obtain ⟨v, f, rfl, _⟩ := h
    rfl
  · obtain ⟨v, f, rfl, hf, n1, n2, q⟩ := h
    refine ⟨_, (pss_one
      (ps_ret (pe_cmpR (op_inK (K := K) rfl) (pe_ix (ix_tupK (K := K) rfl) (pv 0) pe_int (fun _ _ => rfl)) (pe_glob (v := .ref aQ) (by rfl) gQ.g rfl) (by rfl)))), ?_⟩
    obtain ⟨a, xs, rfl, ha⟩ := hf.tup
    have a0 : atI (V.str (kd f) :: xs) 0 = some (.str (kd f)) := atI_nat (j := 0) List.getElem?_cons_zero
    refine ⟨_, rfl, a, _, _, _, rfl, rfl, ha, a0, ?_⟩
    try unfold L2.tC
    show rIn K false (.str (kd f)) (.ref aQ) _ _
    refine inq (gQ.q _) ?_
    have e : decide (kd f ∈ (["exists", "forall"] : List Str)) = false := decide_eq_false fun z => by
      rcases List.mem_cons.mp z with z | z
      · exact n1 z
      · exact n2 (List.mem_singleton.mp z)
    rw [e]
    exact q
def spHolds (K : PySem.W.Frag) (cT cL : Addr) : Sp := fun vs H Q E => ∃ (v : V) (n p : Addr) (f : Fm) (nm : List Str) (h l : List Int) (t : Int), vs = [v, .ref n, .ref p, .int t] ∧ FmAt K H v f ∧ SqL K H n (nm.map V.str) ∧ nm.length ≤ 30 ∧ Wf nm f ∧ sz f ≤ 500 ∧ Las H p h l ∧ l ≠ [] ∧ h.length ≤ 100 ∧ l.length ≤ 100 ∧
  (∀ z, z ∈ h ∨ z ∈ l → 0 ≤ z) ∧ kd f ≠ "exists" ∧ kd f ≠ "forall" ∧ (t < 0 → E (.ref cT) none H) ∧ (0 ≤ t → (∃ z, (z ∈ h ∨ z ∈ l) ∧ 2 ^ nm.length ≤ z) → ∀ H', Same H H' → E (.ref cL) none H') ∧
  (0 ≤ t → (∀ z, z ∈ h ∨ z ∈ l → z < 2 ^ nm.length) → ∀ H', Same H H' → Q (.bl (sem nm (wat h l) f t.toNat)) H')
theorem bi_one (c : Bool) : decide (V.int (bi c) = V.int 1) = c := by cases c <;> rfl
theorem cal_holds {cT cL : Addr} (T : Txt K mg) (eT : ErrC K mg "InvalidTurn" cT) (eL : ErrC K mg "InvalidLetter" cL) : CalH P w K mg base 6 "holds" "turn" (.int 0) (spHolds K cT cL) := by
  have X_check_letters : CalX P w K mg base 1 "check_letters" (spCheckX cL) := cal_checkX T eL
  have X_truth_word : CalX P w K mg base 5 "truth_word" (spTwX K cL) := cal_twX T eL
  have C_shortest_lasso : C8.Cal P w K mg base 2 "shortest_lasso" spShort [] := cal_short T
  have C_is_quantified : C8.Cal P w K mg base 1 "is_quantified" (spQt K) [] := cal_qt T
  have C_letter_at : C8.Cal P w K mg base 1 "letter_at" spAt [] := cal_letter T
  obtain ⟨f, fd, F, hm⟩ := T.h_holds
  refine ⟨f, fd, _, F.ok sc_holds (fun vs H Q E h => ?_) (fun cdv A outer s H vs Q E hr h => ?_), hm, F.kp, ?_, ?_⟩
  · obtain ⟨v, n, p, f, nm, h, l, t, rfl, _⟩ := h
    rfl
  · obtain ⟨v, n, p, f, nm, h, l, t, rfl, hf, hn, hnl, hw, hz, hlas, hne, hh, hl, hge, k1, k2, qt, qx, q0⟩ := h
    refine ⟨_, (pss_cons
      (ps_if (pt_cmpR op_lt (pv 3) pe_int (nomark _)) (pss_one
      (ps_raise rfl (takes_of rfl rfl rfl rfl) (eT.made rfl))) pss_nil)
      (pss_cons
      (ps_expr (pe_cx X_check_letters hr (by decide) (takes_of rfl rfl rfl rfl) (by rfl) (pa_cons (pv 2) (pa_cons (pe_op op_shl pe_int (pe_callB (call_lenK (K := K) rfl) (by rfl) T.z_len PySem.boot_len (pa_cons (pv 1) pa_nil))) pa_nil))))
      (pss_cons
      (ps_set (i := 4) sc_holds.nd rfl (Or.inl rfl) (C8.pe_c C_shortest_lasso hr (by decide) (by rfl) (pa_cons (pe_ix (ix_tupK (K := K) rfl) (pv 2) pe_int (fun _ _ => rfl)) (pa_cons (pe_ix (ix_tupK (K := K) rfl) (pv 2) pe_int (fun _ _ => rfl)) pa_nil))))
      (pss_cons
      (ps_if (pt_not (pt_val (C8.pe_c C_is_quantified hr (by decide) (by rfl) (pa_cons (pv 0) pa_nil)))) (pss_one
      (ps_ret (pe_cmpR op_eq (C8.pe_c C_letter_at hr (by decide) (by rfl) (pa_cons (pe_cx X_truth_word hr (by decide) (takes_of rfl rfl rfl rfl) (by rfl) (pa_cons (pv 0) (pa_cons (pv 1) (pa_cons (pv 4) pa_nil)))) (pa_cons (pv 3) pa_nil))) pe_int (nomark _)))) pss_nil)
      (pss_cons
      ps_never
      (pss_cons
      ps_never
      (pss_one
      ps_never))))))), ?_⟩
    walk_at "bx"
    refine ite2 (fun c => qt (of_decide_eq_true c)) (fun c => ?_)
    have ht : 0 ≤ t := by
      have : ¬ t < 0 := fun z => c (decide_eq_true z)
      omega
    refine ⟨_, rfl, _, rfl, n, _, rfl, .inl hn, _, _, rfl, rfl, ⟨by omega, by rw [List.length_map]; omega, by decide⟩, ?_⟩
    walk_at "nl"
    have epw : (1 : Int) * 2 ^ ((((nm.map V.str).length : Nat) : Int)).toNat = 2 ^ nm.length := by rw [List.length_map, Int.toNat_natCast, Int.one_mul]
    refine ⟨p, h, l, _, rfl, hlas, hne, by omega, by omega, fun z H1 s1 => qx ht (by rw [← epw]; exact z) H1 s1, fun hlt0 H1 s1 => ?_⟩
    rw [epw] at hlt0
    obtain ⟨a, b, e1, e2, e3⟩ := hlas.same s1
    refine ⟨_, rfl, p, _, _, _, rfl, rfl, .of e1, rfl, ?_⟩
    refine ⟨_, rfl, p, _, _, _, rfl, rfl, .of e1, rfl, ?_⟩
    walk_at "nl"
    refine ⟨a, b, h, l, rfl, .inr e2, .inr e3, hne, by omega, by omega, fun H2 p1 h1 l1 s2 las1 S1 => ?_⟩
    have s02 := s1.trans s2
    refine ⟨_, rfl, v, f, rfl, hf.same s02, k1, k2, ?_⟩
    refine ⟨_, rfl, iteT ?_⟩
    have hlt1 : ∀ z, z ∈ h1 ∨ z ∈ l1 → z ∈ h ∨ z ∈ l := fun z hz => hz.elim (fun y => .inl (S1.memH z y)) (fun y => .inr (S1.memL z y))
    have m1 := S1.hl
    have m2 := S1.ll
    refine ⟨_, rfl, _, rfl, _, rfl, v, n, p1, f, nm, h1, l1, rfl, hf.same s02, s02.seq hn, hnl, hw, hz, las1, S1.ne, by omega, by omega, fun z hz => hge z (hlt1 z hz), fun ⟨z, y1, y2⟩ => ?_, fun _ H3 p3 h3 l3 s3 las3 N3 _ _ e3' => ?_⟩
    · have := hlt0 z (hlt1 z y1)
      omega
    refine ⟨_, rfl, p3, h3, l3, t.toNat, by rw [Int.toNat_of_nonneg ht]; rfl, las3.pr, N3.ne, ?_⟩
    refine ⟨rfl, ?_⟩
    show Q (.bl (decide (V.int (wat h3 l3 t.toNat) = V.int 1))) H3
    rw [e3', bi_one]
    have ew : wat h1 l1 = wat h l := funext S1.same
    rw [ew]
    exact q0 ht hlt0 H3 (s02.trans s3)
  · exact F.binds0 3 (by intro z; cases z) rfl fun D doc pm an cdv ct us ks l1 l2 => match us, ks, l1, l2 with | [_, _, _], [_], _, _ => ⟨_, _, _, _, _, _, rfl, rfl, rfl⟩
  · exact F.kbinds0 3 ["turn"] [] (fun us mv ws => us ++ mv ++ ws) (by intro z; cases z) (fun q hq => by cases hq) (fun r1 r2 r3 => (r1.append r2).append r3) fun D doc pm an cdv ct us mv ws l1 l2 l3 => match us, mv, ws, l1, l2, l3 with | [_, _, _], [], [_], _, _, _ => rfl
def spOutH (K : PySem.W.Frag) : Sp := fun vs H Q _ => ∃ (v : V) (n p : Addr) (f : Fm) (nm : List Str) (h l : List Int) (t : Int), vs = [v, .ref n, .ref p, .int t] ∧ FmAt K H v f ∧ SqL K H n (nm.map V.str) ∧ nm.length ≤ 30 ∧ Wf nm f ∧ sz f ≤ 500 ∧ Las H p h l ∧ l ≠ [] ∧ h.length ≤ 100 ∧ l.length ≤ 100 ∧
  (∀ z, z ∈ h ∨ z ∈ l → 0 ≤ z) ∧ kd f ≠ "exists" ∧ kd f ≠ "forall" ∧ (t < 0 → ∀ H' q, Same H H' → H' q = some (.tup [.str "refused", .str "turn"]) → Q (.ref q) H') ∧
  (0 ≤ t → (∃ z, (z ∈ h ∨ z ∈ l) ∧ 2 ^ nm.length ≤ z) → ∀ H' q, Same H H' → H' q = some (.tup [.str "refused", .str "letter"]) → Q (.ref q) H') ∧
  (0 ≤ t → (∀ z, z ∈ h ∨ z ∈ l → z < 2 ^ nm.length) → ∀ H', Same H H' → Q (.bl (sem nm (wat h l) f t.toNat)) H')
theorem cal_outH {cT cL : Addr} (T : Txt K mg) (eT : ErrC K mg "InvalidTurn" cT) (eL : ErrC K mg "InvalidLetter" cL) (eLT : PySem.W.subIn K (.ref cL) (.ref cT) = some false) : C8.Cal P w K mg base 7 "_law_outcome" (spOutH K) [] := by
  have X_holds : CalH P w K mg base 6 "holds" "turn" (.int 0) (spHolds K cT cL) := cal_holds T eT eL
  obtain ⟨f, fd, F, hm, hb⟩ := T.h_law_outcome
  refine ⟨f, fd, _, [], F.ok sc_law_outcome (fun vs H Q E h => ?_) (fun cdv A outer s H vs Q E hr h => ?_), hm, F.kp, hb, .nil⟩
  · obtain ⟨v, n, p, f, nm, h, l, t, rfl, _⟩ := h
    rfl
  · obtain ⟨v, n, p, f, nm, h, l, t, rfl, hf, hn, hnl, hw, hz, hlas, hne, hh, hl, hge, k1, k2, qt, qx, q0⟩ := h
    refine ⟨_, (pss_one
      (ps_try_many rfl rfl takes_none5 (fun W pn xe tk _ => (pss_one
      (ps_ret (pe_hN X_holds hr (by decide) tk (by rfl) (pa_cons (pv 0) (pa_cons (pv 1) (pa_cons (pv 2) pa_nil))) (pk_cons (pv 3) pk_nil))))) (.cons ⟨rfl, by decide, .inl eT.g⟩ (fun a oe cls d pn hz hf => (pss_one
      (ps_ret (pe_tup (pa_cons pe_str (pa_cons pe_str pa_nil)))))) (.cons ⟨rfl, by decide, .inl eL.g⟩ (fun a oe cls d pn hz hf => (pss_one
      (ps_ret (pe_tup (pa_cons pe_str (pa_cons pe_str pa_nil)))))) .nil)))), ?_⟩
    refine ⟨_, rfl, _, rfl, _, rfl, _, rfl, rfl, rfl, v, n, p, f, nm, h, l, t, rfl, hf, hn, hnl, hw, hz, hlas, hne, hh, hl, hge, k1, k2, fun z => ⟨true, eT.me, fun _ a ha => ⟨by show 2 ≤ sizeLine; decide, fun q hq => qt z _ q (same_new hq) upd_same⟩, fun y => by cases y⟩,
      fun z0 z H' s' => ⟨false, eT.exm eLT, (fun y => by cases y), fun _ => ⟨true, eL.me, fun _ a ha => ⟨by show 2 ≤ sizeLine; decide, fun q hq => qx z0 z _ q (s'.trans (same_new hq)) upd_same⟩, fun y => by cases y⟩⟩, q0⟩
def rdT (s : Str) : PyData := .tuple [.str "refused", .str s]
theorem dp_rd {K : PySem.W.Frag} {H : Hp} {a : Addr} {s : Str} (h : H a = some (.tup [.str "refused", .str s])) : Dp K H (.ref a) (rdT s) := .tup (.of h) (.cons (.str _) (.cons (.str _) .nil))
theorem lay_turn : PyData.canLay0 (rdT "turn") = true := by simp [rdT, PyData.canLay0, PyData.canLayAll0]; exact ⟨by decide +kernel, by decide +kernel⟩
theorem lay_letter : PyData.canLay0 (rdT "letter") = true := by simp [rdT, PyData.canLay0, PyData.canLayAll0]; exact ⟨by decide +kernel, by decide +kernel⟩
theorem sh_turn : SeqAt.shaped (rdT "turn") = true := by
  unfold SeqAt.shaped
  rw [lay_turn]
  simp [rdT, PyData.depth, PyData.depthAll]
theorem sh_letter : SeqAt.shaped (rdT "letter") = true := by
  unfold SeqAt.shaped
  rw [lay_letter]
  simp [rdT, PyData.depth, PyData.depthAll]
theorem sh_bool (b : Bool) : SeqAt.shaped (.bool b) = true := by
  simp [SeqAt.shaped, PyData.canLay0, PyData.depth]
theorem eq_bool (b : Bool) : PyData.eqv (.bool b) (.bool b) = true := by simp [PyData.eqv]
theorem eq_bt (b : Bool) (s : Str) : PyData.eqv (.bool b) (rdT s) = false := by simp [rdT, PyData.eqv]
theorem eq_lt : PyData.eqv (rdT "letter") (rdT "turn") = false := by simp [rdT, PyData.eqv, PyData.eqvAll]; decide
theorem Wo.kd {nm : List Str} : ∀ {f : Fm}, Wo nm f → kd f ≠ "exists" ∧ kd f ≠ "forall"
  | .c0 k, h => by rcases h with z | z <;> (subst z; decide)
  | .sg s, _ => ⟨by show sSig ≠ _; decide, by show sSig ≠ _; decide⟩
  | .un k f, h => ⟨fun z => absurd (show ("exists" : Str) ∈ unOps from (show k = "exists" from z) ▸ h.1) (by decide), fun z => absurd (show ("forall" : Str) ∈ unOps from (show k = "forall" from z) ▸ h.1) (by decide)⟩
  | .bin k f g, h => ⟨fun z => absurd (show ("exists" : Str) ∈ binOps from (show k = "exists" from z) ▸ h.1) (by decide), fun z => absurd (show ("forall" : Str) ∈ binOps from (show k = "forall" from z) ▸ h.1) (by decide)⟩
theorem ok_law {f : Addr} {fd : FuncData} (F : L2.Fun K "law" "law" s_law f fd) (T : Txt K mg) : FnOk P w K mg base CX0 8 f fd ["script"] (spLaw K) := by
  obtain ⟨cT, cL, aQ, eT, eL, eLT, _⟩ := gloE T
  have C_law_draws : C8.Cal P w K mg base 1 "_law_draws" (spDraws K) [] := cal_draws T
  have C_law_take : C8.Cal P w K mg base 1 "_law_take" spTake [] := cal_take T
  have C_law_lasso : C8.Cal P w K mg base 2 "_law_lasso" spLasso [] := cal_lasso T
  have C_law_names : C8.Cal P w K mg base 3 "_law_names" spNames [] := cal_names T
  have C_law_formula : C8.Cal P w K mg base 6 "_law_formula" (spForm K 4) [] := cal_form T 4
  have C_law_outcome : C8.Cal P w K mg base 7 "_law_outcome" (spOutH K) [] := cal_outH T eT eL eLT
  have X_holds : CalH P w K mg base 6 "holds" "turn" (.int 0) (spHolds K cT cL) := cal_holds T eT eL
  have C_law_at : C8.Cal P w K mg base 1 "_law_at" spAt [] := cal_at T
  have C_law_truth : C8.Cal P w K mg base 7 "_law_truth" (spLTr K) [] := cal_ltr T
  refine F.ok sc_law (fun vs H Q E h => ?_) (fun cdv A outer s H vs Q E hr h => ?_)
  · obtain ⟨a, ns, rfl, _⟩ := h
    rfl
  · obtain ⟨a, ns, rfl, hS, h63, q⟩ := h
    refine ⟨_, (pss_cons
      (ps_set (i := 1) sc_law.nd rfl (Or.inl rfl) (C8.pe_c C_law_draws hr (by decide) (by rfl) (pa_cons (pv 0) (pa_cons pe_int pa_nil))))
      (pss_cons
      (ps_set (i := 2) sc_law.nd rfl (Or.inl rfl) (C8.pe_c C_law_names hr (by decide) (by rfl) (pa_cons (pv 1) (pa_cons (C8.pe_c C_law_take hr (by decide) (by rfl) (pa_cons (pv 1) (pa_cons pe_int pa_nil))) pa_nil))))
      (pss_cons
      (ps_set (i := 3) sc_law.nd rfl (Or.inl rfl) (C8.pe_c C_law_formula hr (by decide) (by rfl) (pa_cons (pv 1) (pa_cons (pv 2) (pa_cons (C8.pe_c C_law_take hr (by decide) (by rfl) (pa_cons (pv 1) (pa_cons pe_int pa_nil))) (pa_cons pe_int pa_nil))))))
      (pss_cons
      (ps_set (i := 4) sc_law.nd rfl (Or.inl rfl) (pe_op op_shl pe_int (pe_callB (call_lenK (K := K) rfl) (by rfl) T.z_len PySem.boot_len (pa_cons (pv 2) pa_nil))))
      (pss_cons
      (ps_set (i := 5) sc_law.nd rfl (Or.inl rfl) (C8.pe_c C_law_lasso hr (by decide) (by rfl) (pa_cons (pv 1) (pa_cons (pv 4) (pa_cons pe_int pa_nil)))))
      (pss_cons
      (ps_set (i := 6) sc_law.nd rfl (Or.inl rfl) (pe_op op_sub (C8.pe_c C_law_take hr (by decide) (by rfl) (pa_cons (pv 1) (pa_cons pe_int pa_nil))) pe_int))
      (C8.pss_cut
      (ps_if (pt_cmpR op_eq (C8.pe_c C_law_take hr (by decide) (by rfl) (pa_cons (pv 1) (pa_cons pe_int pa_nil))) pe_int (nomark _)) (pss_one
      (ps_set (i := 6) sc_law.nd rfl (Or.inl rfl) pe_int)) pss_nil)
      (C8.pss_cut
      (ps_if (pt_cmpR op_eq (C8.pe_c C_law_take hr (by decide) (by rfl) (pa_cons (pv 1) (pa_cons pe_int pa_nil))) pe_int (nomark _)) (pss_cons
      (ps_set (i := 7) sc_law.nd rfl (Or.inl rfl) (pe_callTy (call_list_ofK (K := K) rfl) (by rfl) T.z_list (by decide +kernel) (pa_cons (pe_ix (ix_tupK (K := K) rfl) (pv 5) pe_int (fun _ _ => rfl)) pa_nil)))
      (pss_cons
      (ps_asg (pe_op op_add (pv 4) (C8.pe_c C_law_take hr (by decide) (by rfl) (pa_cons (pv 1) (pa_cons pe_int pa_nil)))) (pg_sub (pv 7) (C8.pe_c C_law_take hr (by decide) (by rfl) (pa_cons (pv 1) (pa_cons (pe_callB (call_lenK (K := K) rfl) (by rfl) T.z_len PySem.boot_len (pa_cons (pv 7) pa_nil)) pa_nil))) set_list))
      (pss_one
      (ps_set (i := 5) sc_law.nd rfl (Or.inl rfl) (pe_tup (pa_cons (pe_ix (ix_tupK (K := K) rfl) (pv 5) pe_int (fun _ _ => rfl)) (pa_cons (pe_callTy (call_tuple_ofK (K := K) rfl) (by rfl) T.z_tuple (by decide +kernel) (pa_cons (pv 7) pa_nil)) pa_nil))))))) pss_nil)
      (pss_cons
      (ps_set (i := 8) sc_law.nd rfl (Or.inl rfl) (pe_tup (pa_cons pe_str (pa_cons pe_str pa_nil))))
      (C8.pss_cut
      (ps_if (pt_cmpR op_lt (pv 6) pe_int (nomark _)) (pss_one
      (ps_set (i := 8) sc_law.nd rfl (Or.inl rfl) (pe_tup (pa_cons pe_str (pa_cons pe_str pa_nil))))) (pss_one
      (ps_if (pt_cmpR op_lt (pe_callB (call_maxT (K := K) rfl rfl) (by rfl) T.z_max (by decide +kernel) (pa_cons (pe_ix (ix_tupK (K := K) rfl) (pv 5) pe_int (fun _ _ => rfl)) pa_nil)) (pv 4) (nomark _)) (pss_one
      (ps_set (i := 8) sc_law.nd rfl (Or.inl rfl) (pe_cmpR op_eq (C8.pe_c C_law_at hr (by decide) (by rfl) (pa_cons (C8.pe_c C_law_truth hr (by decide) (by rfl) (pa_cons (pv 3) (pa_cons (pv 2) (pa_cons (pv 5) pa_nil)))) (pa_cons (pv 6) pa_nil))) pe_int (nomark _)))) pss_nil)))
      (pss_cons
      (ps_set (i := 9) sc_law.nd rfl (Or.inl rfl) (C8.pe_c C_law_outcome hr (by decide) (by rfl) (pa_cons (pv 3) (pa_cons (pe_callTy (call_list_ofK (K := K) rfl) (by rfl) T.z_list (by decide +kernel) (pa_cons (pv 2) pa_nil)) (pa_cons (pv 5) (pa_cons (pv 6) pa_nil))))))
      (pss_cons
      (ps_if (PW.pt (pw_or (pt_cmpR (op_eqDK (K := K) rfl hr.units) (pv 8) (pe_tup (pa_cons pe_str (pa_cons pe_str pa_nil))) (nomark _)) (pw_or1 (pt_cmpR (op_eqDK (K := K) rfl hr.units) (pv 8) (pe_tup (pa_cons pe_str (pa_cons pe_str pa_nil))) (nomark _))))) (pss_one
      (ps_ret (pe_cmpR (op_eqDK (K := K) rfl hr.units) (pv 9) (pv 8) (nomark _)))) pss_nil)
      (pss_cons
      (ps_if (PW.pt (pw_or (pt_not (pt_val (pe_callB (call_isiK' (K := K) rfl) (by rfl) T.z_isinstance (by decide +kernel) (pa_cons (pv 9) (pa_cons (pe_bltn (v := .ty "bool") (by rfl) T.z_bool (by decide +kernel) rfl) pa_nil))))) (pw_or1 (pt_cmpR (op_neDK (K := K) rfl hr.units) (pv 9) (pv 8) (nomark _))))) (pss_one
      (ps_ret pe_bl)) pss_nil)
      (pss_cons
      (ps_set (i := 10) sc_law.nd rfl (Or.inl rfl) (pe_hD X_holds hr (by decide) takes_none5 (by rfl) (pa_cons (pv 3) (pa_cons (pe_callTy (call_list_ofK (K := K) rfl) (by rfl) T.z_list (by decide +kernel) (pa_cons (pv 2) pa_nil)) (pa_cons (pv 5) pa_nil)))))
      (pss_one
      (ps_ret (pe_and (pe_callB (call_isiK' (K := K) rfl) (by rfl) T.z_isinstance (by decide +kernel) (pa_cons (pv 10) (pa_cons (pe_bltn (v := .ty "bool") (by rfl) T.z_bool (by decide +kernel) rfl) pa_nil))) (pe_one (pe_cmpR (op_eqDK (K := K) rfl hr.units) (pv 10) (pe_cmpR op_eq (C8.pe_c C_law_at hr (by decide) (by rfl) (pa_cons (C8.pe_c C_law_truth hr (by decide) (by rfl) (pa_cons (pv 3) (pa_cons (pv 2) (pa_cons (pv 5) pa_nil)))) (pa_cons pe_int pa_nil))) pe_int (nomark _)) (nomark _)))))))))))))))))))), ?_⟩
    refine ⟨_, rfl, a, ns, 150, rfl, hS, by decide, fun H1 d s1 hd0 hd1 => ?_⟩
    refine ⟨_, rfl, _, rfl, d, 4, rfl, hd1, by decide, fun r ds r0 r1 => ?_⟩
    have d2 : Drw (upd H1 d (.lst (ds.map V.int))) d := Drw.own
    generalize upd H1 d (.lst (ds.map V.int)) = H2 at d2 ⊢
    refine ⟨d, r, rfl, d2, by omega, by omega, fun H3 n nm k3 d3 nd3 hn3 hnl hok => ?_⟩
    refine ⟨_, rfl, _, rfl, _, rfl, d, 6, rfl, d3, by decide, fun r4 ds4 r40 r41 => ?_⟩
    have k3' : Kp d H3 (upd H3 d (.lst (ds4.map V.int))) := Kp.own
    have d3' : Drw (upd H3 d (.lst (ds4.map V.int))) d := Drw.own
    have hn3' := k3' _ _ nd3 hn3
    generalize upd H3 d (.lst (ds4.map V.int)) = H3' at k3' d3' hn3' ⊢
    refine ⟨d, n, nm, r4, rfl, d3', nd3, hn3', by omega, r40, by omega, fun H4 v f k4 d4 f4 w4 z4 => ?_⟩
    have hn4 := k4 _ _ nd3 hn3'
    have hz : sz f ≤ 15 := by
      have : sz f + 1 ≤ 16 := z4.1
      omega
    have hdp : dpt f ≤ 3 := z4.2
    -- letters
    refine ⟨_, rfl, n, _, rfl, .inl (.of hn4), _, _, rfl, rfl, ⟨by omega, by rw [List.length_map]; omega, by decide⟩, ?_⟩
    have pw : (1 : Int) * 2 ^ ((((nm.map V.str).length : Nat) : Int)).toNat = 2 ^ nm.length := by rw [List.length_map, Int.toNat_natCast, Int.one_mul]
    have pp : (0 : Int) < 2 ^ nm.length := Int.pow_pos (by decide)
    dsimp only
    rw [pw]
    refine ⟨_, rfl, _, rfl, d, _, 4, rfl, d4, pp, by decide, by decide, fun H6 p h l k6 d6 L6 hh hne hl hxh hxl => ?_⟩
    have hn6 := k6 _ _ nd3 hn4
    obtain ⟨ys4, hy4⟩ := d4
    have f6 := f4.kp hy4 k6
    -- turn
    refine ⟨_, rfl, d, 28, rfl, d6, by decide, fun rt dst rt0 rt1 => ⟨_, _, rfl, rfl, ?_⟩⟩
    obtain ⟨ys6, hy6⟩ := d6
    have k7 : Kp d H6 (upd H6 d (.lst (dst.map V.int))) := Kp.own
    have d7 : Drw (upd H6 d (.lst (dst.map V.int))) d := Drw.own
    have hn7 := k7 _ _ nd3 hn6
    have f7 := f6.kp hy6 k7
    have L7 := L6.keep k7 ⟨_, hy6⟩
    generalize upd H6 d (.lst (dst.map V.int)) = H7 at k7 d7 hn7 f7 L7 ⊢
    clear k3 k3' hn3 hn3' hn4 hy4 hy6 k4 k6 k7 hn6 f6 f4 L6 d2 d3 d3' s1 hd0 hd1 z4
    have hn7l : nm.length ≤ 4 := by omega
    refine ⟨fun σ H' => ∃ t : Int, σ = [some (.ref a), some (.ref d), some (.ref n), some v, some (.int (2 ^ nm.length)), some (.ref p), some (.int t), none, none, none, none] ∧ t ≤ 1000 ∧ Drw H' d ∧ FmAt K H' v f ∧ H' n = some (.lst (nm.map V.str)) ∧ Las H' p h l, ?_, ?_⟩
    · refine ⟨_, rfl, d, 6, rfl, d7, by decide, fun r7 ds7 r70 r71 => ⟨rfl, ?_⟩⟩
      obtain ⟨ys7, hy7⟩ := d7
      have k8 : Kp d H7 (upd H7 d (.lst (ds7.map V.int))) := Kp.own
      have d8 : Drw (upd H7 d (.lst (ds7.map V.int))) d := Drw.own
      have hn8 := k8 _ _ nd3 hn7
      have f8 := f7.kp hy7 k8
      have L8 := L7.keep k8 ⟨_, hy7⟩
      refine ⟨_, rfl, ite2 (fun _ => ?_) (fun _ => ?_)⟩
      · exact ⟨1000, rfl, by decide, d8, f8, hn8, L8⟩
      · exact ⟨rt - 2, rfl, by omega, d8, f8, hn8, L8⟩
    clear d7 hn7 f7 L7
    rintro σ H8 ⟨t, rfl, ht1, d8, f8, hn8, L8⟩
    refine ⟨fun σ H' => ∃ (p' : Addr) (h' l' : List Int) (v7 : Option V), σ = [some (.ref a), some (.ref d), some (.ref n), some v, some (.int (2 ^ nm.length)), some (.ref p'), some (.int t), v7, none, none, none] ∧ FmAt K H' v f ∧ H' n = some (.lst (nm.map V.str)) ∧ Las H' p' h' l' ∧ l' ≠ [] ∧ h'.length ≤ 4 ∧ l'.length ≤ 4 ∧
        (∀ z, z ∈ h' ∨ z ∈ l' → 0 ≤ z) ∧ (∀ z, z ∈ h' → z < 2 ^ nm.length), ?_, ?_⟩
    · refine ⟨_, rfl, d, 8, rfl, d8, by decide, fun r7 ds7 r70 r71 => ⟨rfl, ?_⟩⟩
      obtain ⟨ys8, hy8⟩ := d8
      have k7 : Kp d H8 (upd H8 d (.lst (ds7.map V.int))) := Kp.own
      have d7 : Drw (upd H8 d (.lst (ds7.map V.int))) d := Drw.own
      have hn7 := k7 _ _ nd3 hn8
      have f7 := f8.kp hy8 k7
      have L7 := L8.keep k7 ⟨_, hy8⟩
      generalize upd H8 d (.lst (ds7.map V.int)) = H7 at k7 d7 hn7 f7 L7 ⊢
      refine ⟨_, rfl, ite2 (fun _ => ?_) (fun _ => ?_)⟩
      · obtain ⟨a1, b1, e1, e2, e3⟩ := L7
        refine ⟨_, rfl, p, _, _, _, rfl, rfl, .of e1, rfl, b1, _, rfl, .inr (.of e3), fun lp nlp => ?_⟩
        have t1 := same_new (o := .lst (l.map V.int)) nlp
        have g1 : (upd H7 lp (.lst (l.map V.int))) lp = some (.lst (l.map V.int)) := upd_same
        have d8 := d7.same t1
        have hn8 := t1 _ _ hn7
        have f8 := f7.same t1
        have e18 := t1 _ _ e1
        have e28 := t1 _ _ e2
        have nld : lp ≠ d := fun z => by
          obtain ⟨y, hy⟩ := d7
          rw [z, hy] at nlp
          cases nlp
        have nln : lp ≠ n := fun z => by rw [z, hn7] at nlp; cases nlp
        generalize upd H7 lp (.lst (l.map V.int)) = H8 at g1 d8 hn8 f8 e18 e28 ⊢
        have hL : 0 < l.length := List.length_pos_iff.mpr hne
        refine ⟨_, rfl, _, rfl, d, 3, rfl, d8, by decide, fun r9 ds9 r90 r91 => ⟨_, _, rfl, rfl, ?_⟩⟩
        obtain ⟨y8, hy8⟩ := d8
        have k9 : Kp d H8 (upd H8 d (.lst (ds9.map V.int))) := Kp.own
        have d9 : Drw (upd H8 d (.lst (ds9.map V.int))) d := Drw.own
        have g9 := k9 _ _ nld g1
        have hn9 := k9 _ _ nd3 hn8
        have f9 := f8.kp hy8 k9
        have e19 := k9 _ _ (ne_of e18 hy8 (by intro z; cases z)) e18
        have e29 := k9 _ _ (ne_of e28 hy8 (by intro z; cases z)) e28
        generalize upd H8 d (.lst (ds9.map V.int)) = H9 at k9 d9 g9 hn9 f9 e19 e29 ⊢
        refine ⟨_, rfl, _, rfl, _, rfl, lp, _, rfl, .inl (.of g9), d, _, rfl, d9, by rw [List.length_map]; omega, fun rA dsA rA0 rA1 => ?_⟩
        rw [List.length_map] at rA1
        obtain ⟨y9, hy9⟩ := d9
        have kA : Kp d H9 (upd H9 d (.lst (dsA.map V.int))) := Kp.own
        have gA := kA _ _ nld g9
        have hnA := kA _ _ nd3 hn9
        have fA := f9.kp hy9 kA
        have e1A := kA _ _ (ne_of e19 hy9 (by intro z; cases z)) e19
        have e2A := kA _ _ (ne_of e29 hy9 (by intro z; cases z)) e29
        generalize upd H9 d (.lst (dsA.map V.int)) = HA at kA gA hnA fA e1A e2A ⊢
        have eA : rA = ((rA.toNat : Nat) : Int) := by omega
        refine ⟨lp, _, _, rA.toNat, rfl, rfl, gA, by rw [List.length_map, eA]; exact ixN_at (by omega), ?_⟩
        rw [set_mapI]
        have kB : Kp lp HA (upd HA lp (.lst ((l.set rA.toNat (2 ^ nm.length + r9)).map V.int))) := Kp.own
        have gB : (upd HA lp (.lst ((l.set rA.toNat (2 ^ nm.length + r9)).map V.int))) lp = some (.lst ((l.set rA.toNat (2 ^ nm.length + r9)).map V.int)) := upd_same
        have hnB := kB _ _ nln.symm hnA
        have fB := fA.kp gA kB
        have e1B := kB _ _ (ne_of e1A gA (by intro z; cases z)) e1A
        have e2B := kB _ _ (ne_of e2A gA (by intro z; cases z)) e2A
        generalize upd HA lp (.lst ((l.set rA.toNat (2 ^ nm.length + r9)).map V.int)) = HB at gB hnB fB e1B e2B ⊢
        refine ⟨_, rfl, p, _, _, _, rfl, rfl, .of e1B, rfl, _, rfl, lp, _, rfl, .inl ⟨.of gB, fun a5 n5 => ?_⟩⟩
        have t5 := same_new (o := .tup ((l.set rA.toNat (2 ^ nm.length + r9)).map V.int)) n5
        refine ⟨by show 2 ≤ sizeLine; decide, fun p6 n6 => ?_⟩
        have t6 := same_new (o := .tup [.ref a1, .ref a5]) n6
        have tt := t5.trans t6
        refine ⟨p6, h, l.set rA.toNat (2 ^ nm.length + r9), _, rfl, fB.same tt, tt _ _ hnB, ⟨a1, a5, upd_same, tt _ _ e2B, t6 _ _ upd_same⟩, fun z => hne (List.length_eq_zero_iff.mp (by have z2 := congrArg List.length z; rwa [List.length_set] at z2)), hh, by rw [List.length_set]; exact hl, fun z hz2 => ?_, fun z hz2 => (hxh z hz2).2⟩
        rcases hz2 with y | y
        · exact (hxh z y).1
        · rcases List.mem_or_eq_of_mem_set y with y | y
          · exact (hxl z y).1
          · omega
      · exact ⟨p, h, l, _, rfl, f7, hn7, L7, hne, hh, hl, fun z hz2 => hz2.elim (fun y => (hxh z y).1) (fun y => (hxl z y).1), fun z hz2 => (hxh z hz2).2⟩
    clear L8 d8 hn8 f8 hxh hxl hne hh hl
    rintro σ H8 ⟨p', h', l', v7, rfl, f8, hn8, L8, hne, hh, hl, hge, hlt⟩
    obtain ⟨kd1, kd2⟩ := w4.kd
    -- expected
    refine ⟨by show 2 ≤ sizeLine; decide, fun q8 n8 => ?_⟩
    have t8 := same_new (o := .tup [.str "refused", .str "letter"]) n8
    have g8 : (upd H8 q8 (.tup [.str "refused", .str "letter"])) q8 = some (.tup [.str "refused", .str "letter"]) := upd_same
    have f9 := f8.same t8
    have hn9 := t8 _ _ hn8
    have L9 := L8.same t8
    generalize upd H8 q8 (.tup [.str "refused", .str "letter"]) = H9 at g8 f9 hn9 L9 ⊢
    refine ⟨fun σ H' => ∃ ex : V, σ = [some (.ref a), some (.ref d), some (.ref n), some v, some (.int (2 ^ nm.length)), some (.ref p'), some (.int t), v7, some ex, none, none] ∧ Same H9 H' ∧
        ((t < 0 ∧ ∃ q, ex = .ref q ∧ H' q = some (.tup [.str "refused", .str "turn"])) ∨ (0 ≤ t ∧ (∃ z, (z ∈ h' ∨ z ∈ l') ∧ 2 ^ nm.length ≤ z) ∧ ∃ q, ex = .ref q ∧ H' q = some (.tup [.str "refused", .str "letter"])) ∨
         (0 ≤ t ∧ (∀ z, z ∈ h' ∨ z ∈ l' → z < 2 ^ nm.length) ∧ ex = .bl (sem nm (wat h' l') f t.toNat))), ?_, ?_⟩
    · refine ⟨_, rfl, _, _, rfl, rfl, _, rfl, ?_⟩
      refine ite2 (fun c => ?_) (fun c => ?_)
      · refine ⟨by show 2 ≤ sizeLine; decide, fun q9 n9 => ?_⟩
        exact ⟨.ref q9, rfl, same_new n9, .inl ⟨of_decide_eq_true c, q9, rfl, upd_same⟩⟩
      · have ht : 0 ≤ t := by
          have : ¬ t < 0 := fun z => c (decide_eq_true z)
          omega
        obtain ⟨a1, b1, e1, e2, e3⟩ := id L9
        refine ⟨_, rfl, p', _, _, _, rfl, rfl, .of e1, rfl, b1, l', rfl, .of e3, hne, fun m hm hmax => ⟨_, rfl, _, _, rfl, rfl, _, rfl, ?_⟩⟩
        refine ite2 (fun c2 => ?_) (fun c2 => ?_)
        · have hall : ∀ z, z ∈ h' ∨ z ∈ l' → z < 2 ^ nm.length := fun z hz2 => hz2.elim (hlt z) (fun y => by
            have := hmax z y
            have : m < 2 ^ nm.length := of_decide_eq_true c2
            omega)
          refine ⟨_, rfl, _, rfl, _, rfl, v, n, p', f, nm, h', l', rfl, f9, w4, hdp, by omega, hn9, L9, hne, by omega, by omega, fun HZ q2 g2 m2 sZ LZ nZ lg2 lm2 eZ => ?_⟩
          refine ⟨_, rfl, q2, g2, m2, t.toNat, by rw [Int.toNat_of_nonneg ht]; rfl, LZ.pr, nZ, rfl, ?_⟩
          refine ⟨.bl (sem nm (wat h' l') f t.toNat), ?_, sZ, .inr (.inr ⟨ht, hall, rfl⟩)⟩
          rw [eZ, bi_one]
          rfl
        · refine ⟨.ref q8, rfl, Same.refl _, .inr (.inl ⟨ht, ⟨m, .inr hm, ?_⟩, q8, rfl, g8⟩)⟩
          have : ¬ m < 2 ^ nm.length := fun z => c2 (decide_eq_true z)
          omega
    clear g8 t8 n8
    rintro σ HX ⟨ex, rfl, sX, hex⟩
    have fX := f9.same sX
    have hnX := sX _ _ hn9
    have LX := L9.same sX
    clear f9 hn9 L9 sX
    -- found
    refine ⟨_, rfl, _, rfl, n, _, rfl, .inl (.of hnX), fun pA nA => ?_⟩
    have tA := same_new (o := .lst (nm.map V.str)) nA
    have gA : (upd HX pA (.lst (nm.map V.str))) pA = some (.lst (nm.map V.str)) := upd_same
    refine ⟨_, rfl, _, rfl, v, pA, p', f, nm, h', l', t, rfl, fX.same tA, .of gA, by omega, w4.wf, by omega, LX.same tA, hne, by omega, by omega, hge, kd1, kd2, fun z HY qY sY hY => ?_, fun z0 z HY qY sY hY => ?_, fun z0 z HY sY => ?_⟩
    · -- the turn is negative
      rcases hex with ⟨_, qx, rfl, hx⟩ | ⟨y0, _⟩ | ⟨y0, _⟩
      · have hx' := (tA.trans sY) _ _ hx
        refine ⟨_, rfl, by show 2 ≤ sizeLine; decide, fun qB nB => ?_⟩
        have tB := same_new (o := .tup [.str "refused", .str "turn"]) nB
        refine ⟨_, _, dp_rd (tB _ _ hx'), dp_rd upd_same, sh_turn, sh_turn, _, rfl, ?_⟩
        rw [SeqAt.eqv_refl _ lay_turn]
        refine iteT ⟨_, rfl, _, rfl, _, _, dp_rd (tB _ _ hY), dp_rd (tB _ _ hx'), sh_turn, sh_turn, ?_⟩
        rw [SeqAt.eqv_refl _ lay_turn]
        exact q _
      · omega
      · omega
    · -- a letter is too large
      rcases hex with ⟨y0, _⟩ | ⟨_, _, qx, rfl, hx⟩ | ⟨_, y1, _⟩
      · omega
      · have hx' := (tA.trans sY) _ _ hx
        refine ⟨_, rfl, by show 2 ≤ sizeLine; decide, fun qB nB => ?_⟩
        have tB := same_new (o := .tup [.str "refused", .str "turn"]) nB
        refine ⟨_, _, dp_rd (tB _ _ hx'), dp_rd upd_same, sh_letter, sh_turn, _, rfl, ?_⟩
        rw [eq_lt]
        refine iteF ⟨_, rfl, by show 2 ≤ sizeLine; decide, fun qC nC => ?_⟩
        have tC' := tB.trans (same_new (o := .tup [.str "refused", .str "letter"]) nC)
        refine ⟨_, _, dp_rd (tC' _ _ hx'), dp_rd upd_same, sh_letter, sh_letter, _, rfl, ?_⟩
        rw [SeqAt.eqv_refl _ lay_letter]
        refine iteT ⟨_, rfl, _, rfl, _, _, dp_rd (tC' _ _ hY), dp_rd (tC' _ _ hx'), sh_letter, sh_letter, ?_⟩
        rw [SeqAt.eqv_refl _ lay_letter]
        exact q _
      · obtain ⟨z, y2, y3⟩ := z
        have := y1 z y2
        omega
    · rcases hex with ⟨y0, _⟩ | ⟨_, ⟨z', y1, y2⟩, _⟩ | ⟨_, _, rfl⟩
      · omega
      · have := z z' y1
        omega
      · refine ⟨_, rfl, by show 2 ≤ sizeLine; decide, fun qB nB => ?_⟩
        have tB := same_new (o := .tup [.str "refused", .str "turn"]) nB
        refine ⟨_, _, .bl _, dp_rd upd_same, sh_bool _, sh_turn, _, rfl, ?_⟩
        rw [eq_bt]
        refine iteF ⟨_, rfl, by show 2 ≤ sizeLine; decide, fun qC nC => ?_⟩
        have tC' := tB.trans (same_new (o := .tup [.str "refused", .str "letter"]) nC)
        refine ⟨_, _, .bl _, dp_rd upd_same, sh_bool _, sh_letter, _, rfl, ?_⟩
        rw [eq_bt]
        refine iteF ?_
        have sZ := (tA.trans sY).trans tC'
        have fZ := fX.same sZ
        have hnZ := sZ _ _ hnX
        have LZ := LX.same sZ
        -- isinstance(found, bool), found == expected
        refine ⟨_, rfl, _, _, _, _, true, rfl, .ty "bool", .base (.bl _), kit_ty (by decide +kernel), true, rfl, ?_⟩
        refine iteF ⟨_, rfl, _, rfl, _, _, .bl _, .bl _, sh_bool _, sh_bool _, _, rfl, ?_⟩
        rw [eq_bool]
        refine iteF ?_
        -- first
        refine ⟨_, rfl, _, rfl, n, _, rfl, .inl (.of hnZ), fun pD nD => ?_⟩
        have tD := same_new (o := .lst (nm.map V.str)) nD
        refine ⟨_, rfl, v, pD, p', f, nm, h', l', 0, rfl, fZ.same tD, .of upd_same, by omega, w4.wf, by omega, LZ.same tD, hne, by omega, by omega, hge, kd1, kd2, fun y => absurd y (by decide), fun _ ⟨y, y1, y2⟩ => absurd (z y y1) (by omega), fun _ _ HW sW => ?_⟩
        have sDW := tD.trans sW
        refine ⟨_, rfl, _, _, _, _, true, rfl, .ty "bool", .base (.bl _), kit_ty (by decide +kernel), true, rfl, iteT ?_⟩
        refine ⟨_, rfl, _, rfl, _, rfl, _, rfl, v, n, p', f, nm, h', l', rfl, fZ.same sDW, w4, hdp, by omega, sDW _ _ hnZ, LZ.same sDW, hne, by omega, by omega, fun HZ q2 g2 m2 sZ' LZ' nZ lg2 lm2 eZ => ?_⟩
        refine ⟨q2, g2, m2, 0, rfl, LZ'.pr, nZ, rfl, ?_⟩
        refine ⟨_, _, .bl _, .bl _, sh_bool _, sh_bool _, ?_⟩
        rw [eZ, bi_one]
        rw [show (0 : Int).toNat = 0 from rfl, eq_bool]
        exact q _
end

theorem all_mk {l : PySem.W.OpenLaw} {w : World} {K : PySem.W.Frag} {h : Heap} {mg : Str → Option Value} {fa : Addr} {f0 f1 f2 f3 f4 f5 f6 f7 f8 f9 f10 f11 f12 f13 f14 f15 f16 f17 f18 f19 f20 f21 f22 f23 f24 f25 f26 f27 f28 f29 f30 f31 cT cL aF aP aS aB aQ : Addr} (X : K.In h) (G : h.Ns mainGlobals mg) (hfa : mg "law" = some (.ref fa))
    {od0 an0 od1 an1 od2 an2 od3 an3 od4 an4 od5 an5 od6 an6 od7 an7 od8 an8 od9 an9 od10 an10 od11 an11 od12 an12 od13 an13 od14 an14 od15 an15 od16 an16 od17 an17 od18 an18 od19 an19 od20 an20 od21 an21 od22 an22 od23 an23 od24 an24 od25 an25 od26 an26 od27 an27 od28 an28 od29 an29 od30 an30 od31 an31 : Option Addr} {sl0 sl1 sl2 sl3 sl4 sl5 sl6 sl7 sl8 sl9 sl10 sl11 sl12 sl13 sl14 sl15 sl16 sl17 sl18 sl19 sl20 sl21 sl22 sl23 sl24 sl25 sl26 sl27 sl28 sl29 sl30 sl31 : Array (Option Value)} {oc0 kV0 dc0 pm0 cd0 ct0 oc1 kV1 dc1 pm1 cd1 ct1 oc2 kV2 dc2 pm2 cd2 ct2 oc3 kV3 dc3 pm3 cd3 ct3 oc4 kV4 dc4 pm4 cd4 ct4 oc5 kV5 dc5 pm5 cd5 ct5 oc6 kV6 dc6 pm6 cd6 ct6 oc7 kV7 dc7 pm7 cd7 ct7 oc8 kV8 dc8 pm8 cd8 ct8 oc9 kV9 dc9 pm9 cd9 ct9 oc10 dc10 pm10 cd10 ct10 oc11 kV11 dc11 pm11 cd11 ct11 oc12 kV12 dc12 pm12 cd12 ct12 oc13 kV13 dc13 pm13 cd13 ct13 oc14 kV14 dc14 pm14 cd14 ct14 oc15 kV15 dc15 pm15 cd15 ct15 oc16 kV16 dc16 pm16 cd16 ct16 oc17 kV17 dc17 pm17 cd17 ct17 oc18 kV18 dc18 pm18 cd18 ct18 oc19 kV19 dc19 pm19 cd19 ct19 oc20 kV20 dc20 pm20 cd20 ct20 oc21 kV21 dc21 pm21 cd21 ct21 oc22 kV22 dc22 pm22 cd22 ct22 oc23 kV23 dc23 pm23 cd23 ct23 oc24 kV24 dc24 pm24 cd24 ct24 oc25 kV25 dc25 pm25 cd25 ct25 oc26 kV26 dc26 pm26 cd26 ct26 oc27 kV27 dc27 pm27 cd27 ct27 oc28 kV28 dc28 pm28 cd28 ct28 oc29 kV29 dc29 pm29 cd29 ct29 oc30 kV30 dc30 pm30 cd30 ct30 oc31 kV31 dc31 pm31 cd31 ct31 : Value} {kD10 : Addr} {kt10 : Tok} {dF dP dS dB dQ : Option Addr} {slF slP slS slB slQ : Array (Option Value)} {nF nP nS nB nQ : Nat} {tF0 tF1 tF2 tF3 tF4 tF5 tP0 tP1 tP2 tP3 tP4 tP5 tS0 tS1 tS2 tB0 tB1 tB2 tB3 tB4 tB5 tQ0 tQ1 : Tok}
    (a0 : PySem.W.nsIn K mainGlobals "operands" = some (some (.ref f0))) (l0 : K.lookup f0 = some ⟨oc0, od0, .func (PySem.W.fnOf "operands" "operands" (defArgs s_operands) (defBody s_operands) (defScope s_operands) .none kV0 dc0 pm0 an0 cd0 ct0), sl0⟩) (c0 : PySem.W.codeIn K cd0 "operands" = true) (k0 : PySem.W.keepIn K (.ref f0) = true)
    (a1 : PySem.W.nsIn K mainGlobals "subformulas" = some (some (.ref f1))) (l1 : K.lookup f1 = some ⟨oc1, od1, .func (PySem.W.fnOf "subformulas" "subformulas" (defArgs s_subformulas) (defBody s_subformulas) (defScope s_subformulas) .none kV1 dc1 pm1 an1 cd1 ct1), sl1⟩) (c1 : PySem.W.codeIn K cd1 "subformulas" = true) (k1 : PySem.W.keepIn K (.ref f1) = true)
    (a2 : PySem.W.nsIn K mainGlobals "number_parts" = some (some (.ref f2))) (l2 : K.lookup f2 = some ⟨oc2, od2, .func (PySem.W.fnOf "number_parts" "number_parts" (defArgs s_number_parts) (defBody s_number_parts) (defScope s_number_parts) .none kV2 dc2 pm2 an2 cd2 ct2), sl2⟩) (c2 : PySem.W.codeIn K cd2 "number_parts" = true) (k2 : PySem.W.keepIn K (.ref f2) = true)
    (a3 : PySem.W.nsIn K mainGlobals "truth_of" = some (some (.ref f3))) (l3 : K.lookup f3 = some ⟨oc3, od3, .func (PySem.W.fnOf "truth_of" "truth_of" (defArgs s_truth_of) (defBody s_truth_of) (defScope s_truth_of) .none kV3 dc3 pm3 an3 cd3 ct3), sl3⟩) (c3 : PySem.W.codeIn K cd3 "truth_of" = true) (k3 : PySem.W.keepIn K (.ref f3) = true)
    (a4 : PySem.W.nsIn K mainGlobals "plain_truth" = some (some (.ref f4))) (l4 : K.lookup f4 = some ⟨oc4, od4, .func (PySem.W.fnOf "plain_truth" "plain_truth" (defArgs s_plain_truth) (defBody s_plain_truth) (defScope s_plain_truth) .none kV4 dc4 pm4 an4 cd4 ct4), sl4⟩) (c4 : PySem.W.codeIn K cd4 "plain_truth" = true) (k4 : PySem.W.keepIn K (.ref f4) = true)
    (a5 : PySem.W.nsIn K mainGlobals "is_quantified" = some (some (.ref f5))) (l5 : K.lookup f5 = some ⟨oc5, od5, .func (PySem.W.fnOf "is_quantified" "is_quantified" (defArgs s_is_quantified) (defBody s_is_quantified) (defScope s_is_quantified) .none kV5 dc5 pm5 an5 cd5 ct5), sl5⟩) (c5 : PySem.W.codeIn K cd5 "is_quantified" = true) (k5 : PySem.W.keepIn K (.ref f5) = true)
    (a6 : PySem.W.nsIn K mainGlobals "shortest_lasso" = some (some (.ref f6))) (l6 : K.lookup f6 = some ⟨oc6, od6, .func (PySem.W.fnOf "shortest_lasso" "shortest_lasso" (defArgs s_shortest_lasso) (defBody s_shortest_lasso) (defScope s_shortest_lasso) .none kV6 dc6 pm6 an6 cd6 ct6), sl6⟩) (c6 : PySem.W.codeIn K cd6 "shortest_lasso" = true) (k6 : PySem.W.keepIn K (.ref f6) = true)
    (a7 : PySem.W.nsIn K mainGlobals "shortest_period" = some (some (.ref f7))) (l7 : K.lookup f7 = some ⟨oc7, od7, .func (PySem.W.fnOf "shortest_period" "shortest_period" (defArgs s_shortest_period) (defBody s_shortest_period) (defScope s_shortest_period) .none kV7 dc7 pm7 an7 cd7 ct7), sl7⟩) (c7 : PySem.W.codeIn K cd7 "shortest_period" = true) (k7 : PySem.W.keepIn K (.ref f7) = true)
    (a8 : PySem.W.nsIn K mainGlobals "letter_at" = some (some (.ref f8))) (l8 : K.lookup f8 = some ⟨oc8, od8, .func (PySem.W.fnOf "letter_at" "letter_at" (defArgs s_letter_at) (defBody s_letter_at) (defScope s_letter_at) .none kV8 dc8 pm8 an8 cd8 ct8), sl8⟩) (c8 : PySem.W.codeIn K cd8 "letter_at" = true) (k8 : PySem.W.keepIn K (.ref f8) = true)
    (a9 : PySem.W.nsIn K mainGlobals "check_letters" = some (some (.ref f9))) (l9 : K.lookup f9 = some ⟨oc9, od9, .func (PySem.W.fnOf "check_letters" "check_letters" (defArgs s_check_letters) (defBody s_check_letters) (defScope s_check_letters) .none kV9 dc9 pm9 an9 cd9 ct9), sl9⟩) (c9 : PySem.W.codeIn K cd9 "check_letters" = true) (k9 : PySem.W.keepIn K (.ref f9) = true)
    (a10 : PySem.W.nsIn K mainGlobals "holds" = some (some (.ref f10))) (l10 : K.lookup f10 = some ⟨oc10, od10, .func (PySem.W.fnOf "holds" "holds" (defArgs s_holds) (defBody s_holds) (defScope s_holds) .none (.ref kD10) dc10 pm10 an10 cd10 ct10), sl10⟩) (c10 : PySem.W.codeIn K cd10 "holds" = true) (k10 : PySem.W.keepIn K (.ref f10) = true)
    (kd10 : PySem.W.nsIn K kD10 "turn" = some (some (.int 0 kt10)))
    (a11 : PySem.W.nsIn K mainGlobals "truth_word" = some (some (.ref f11))) (l11 : K.lookup f11 = some ⟨oc11, od11, .func (PySem.W.fnOf "truth_word" "truth_word" (defArgs s_truth_word) (defBody s_truth_word) (defScope s_truth_word) .none kV11 dc11 pm11 an11 cd11 ct11), sl11⟩) (c11 : PySem.W.codeIn K cd11 "truth_word" = true) (k11 : PySem.W.keepIn K (.ref f11) = true)
    (a12 : PySem.W.nsIn K mainGlobals "part_values" = some (some (.ref f12))) (l12 : K.lookup f12 = some ⟨oc12, od12, .func (PySem.W.fnOf "part_values" "part_values" (defArgs s_part_values) (defBody s_part_values) (defScope s_part_values) .none kV12 dc12 pm12 an12 cd12 ct12), sl12⟩) (c12 : PySem.W.codeIn K cd12 "part_values" = true) (k12 : PySem.W.keepIn K (.ref f12) = true)
    (a13 : PySem.W.nsIn K mainGlobals "past_values" = some (some (.ref f13))) (l13 : K.lookup f13 = some ⟨oc13, od13, .func (PySem.W.fnOf "past_values" "past_values" (defArgs s_past_values) (defBody s_past_values) (defScope s_past_values) .none kV13 dc13 pm13 an13 cd13 ct13), sl13⟩) (c13 : PySem.W.codeIn K cd13 "past_values" = true) (k13 : PySem.W.keepIn K (.ref f13) = true)
    (a14 : PySem.W.nsIn K mainGlobals "future_values" = some (some (.ref f14))) (l14 : K.lookup f14 = some ⟨oc14, od14, .func (PySem.W.fnOf "future_values" "future_values" (defArgs s_future_values) (defBody s_future_values) (defScope s_future_values) .none kV14 dc14 pm14 an14 cd14 ct14), sl14⟩) (c14 : PySem.W.codeIn K cd14 "future_values" = true) (k14 : PySem.W.keepIn K (.ref f14) = true)
    (a15 : PySem.W.nsIn K mainGlobals "_law_draws" = some (some (.ref f15))) (l15 : K.lookup f15 = some ⟨oc15, od15, .func (PySem.W.fnOf "_law_draws" "_law_draws" (defArgs s_law_draws) (defBody s_law_draws) (defScope s_law_draws) .none kV15 dc15 pm15 an15 cd15 ct15), sl15⟩) (c15 : PySem.W.codeIn K cd15 "_law_draws" = true) (k15 : PySem.W.keepIn K (.ref f15) = true)
    (a16 : PySem.W.nsIn K mainGlobals "_law_take" = some (some (.ref f16))) (l16 : K.lookup f16 = some ⟨oc16, od16, .func (PySem.W.fnOf "_law_take" "_law_take" (defArgs s_law_take) (defBody s_law_take) (defScope s_law_take) .none kV16 dc16 pm16 an16 cd16 ct16), sl16⟩) (c16 : PySem.W.codeIn K cd16 "_law_take" = true) (k16 : PySem.W.keepIn K (.ref f16) = true)
    (a17 : PySem.W.nsIn K mainGlobals "_law_at" = some (some (.ref f17))) (l17 : K.lookup f17 = some ⟨oc17, od17, .func (PySem.W.fnOf "_law_at" "_law_at" (defArgs s_law_at) (defBody s_law_at) (defScope s_law_at) .none kV17 dc17 pm17 an17 cd17 ct17), sl17⟩) (c17 : PySem.W.codeIn K cd17 "_law_at" = true) (k17 : PySem.W.keepIn K (.ref f17) = true)
    (a18 : PySem.W.nsIn K mainGlobals "_law_lasso" = some (some (.ref f18))) (l18 : K.lookup f18 = some ⟨oc18, od18, .func (PySem.W.fnOf "_law_lasso" "_law_lasso" (defArgs s_law_lasso) (defBody s_law_lasso) (defScope s_law_lasso) .none kV18 dc18 pm18 an18 cd18 ct18), sl18⟩) (c18 : PySem.W.codeIn K cd18 "_law_lasso" = true) (k18 : PySem.W.keepIn K (.ref f18) = true)
    (a19 : PySem.W.nsIn K mainGlobals "_law_name" = some (some (.ref f19))) (l19 : K.lookup f19 = some ⟨oc19, od19, .func (PySem.W.fnOf "_law_name" "_law_name" (defArgs s_law_name) (defBody s_law_name) (defScope s_law_name) .none kV19 dc19 pm19 an19 cd19 ct19), sl19⟩) (c19 : PySem.W.codeIn K cd19 "_law_name" = true) (k19 : PySem.W.keepIn K (.ref f19) = true)
    (a20 : PySem.W.nsIn K mainGlobals "_law_names" = some (some (.ref f20))) (l20 : K.lookup f20 = some ⟨oc20, od20, .func (PySem.W.fnOf "_law_names" "_law_names" (defArgs s_law_names) (defBody s_law_names) (defScope s_law_names) .none kV20 dc20 pm20 an20 cd20 ct20), sl20⟩) (c20 : PySem.W.codeIn K cd20 "_law_names" = true) (k20 : PySem.W.keepIn K (.ref f20) = true)
    (a21 : PySem.W.nsIn K mainGlobals "_law_leaf" = some (some (.ref f21))) (l21 : K.lookup f21 = some ⟨oc21, od21, .func (PySem.W.fnOf "_law_leaf" "_law_leaf" (defArgs s_law_leaf) (defBody s_law_leaf) (defScope s_law_leaf) .none kV21 dc21 pm21 an21 cd21 ct21), sl21⟩) (c21 : PySem.W.codeIn K cd21 "_law_leaf" = true) (k21 : PySem.W.keepIn K (.ref f21) = true)
    (a22 : PySem.W.nsIn K mainGlobals "_law_formula" = some (some (.ref f22))) (l22 : K.lookup f22 = some ⟨oc22, od22, .func (PySem.W.fnOf "_law_formula" "_law_formula" (defArgs s_law_formula) (defBody s_law_formula) (defScope s_law_formula) .none kV22 dc22 pm22 an22 cd22 ct22), sl22⟩) (c22 : PySem.W.codeIn K cd22 "_law_formula" = true) (k22 : PySem.W.keepIn K (.ref f22) = true)
    (a23 : PySem.W.nsIn K mainGlobals "_law_logic" = some (some (.ref f23))) (l23 : K.lookup f23 = some ⟨oc23, od23, .func (PySem.W.fnOf "_law_logic" "_law_logic" (defArgs s_law_logic) (defBody s_law_logic) (defScope s_law_logic) .none kV23 dc23 pm23 an23 cd23 ct23), sl23⟩) (c23 : PySem.W.codeIn K cd23 "_law_logic" = true) (k23 : PySem.W.keepIn K (.ref f23) = true)
    (a24 : PySem.W.nsIn K mainGlobals "_law_fold" = some (some (.ref f24))) (l24 : K.lookup f24 = some ⟨oc24, od24, .func (PySem.W.fnOf "_law_fold" "_law_fold" (defArgs s_law_fold) (defBody s_law_fold) (defScope s_law_fold) .none kV24 dc24 pm24 an24 cd24 ct24), sl24⟩) (c24 : PySem.W.codeIn K cd24 "_law_fold" = true) (k24 : PySem.W.keepIn K (.ref f24) = true)
    (a25 : PySem.W.nsIn K mainGlobals "_law_shifted" = some (some (.ref f25))) (l25 : K.lookup f25 = some ⟨oc25, od25, .func (PySem.W.fnOf "_law_shifted" "_law_shifted" (defArgs s_law_shifted) (defBody s_law_shifted) (defScope s_law_shifted) .none kV25 dc25 pm25 an25 cd25 ct25), sl25⟩) (c25 : PySem.W.codeIn K cd25 "_law_shifted" = true) (k25 : PySem.W.keepIn K (.ref f25) = true)
    (a26 : PySem.W.nsIn K mainGlobals "_law_fixed" = some (some (.ref f26))) (l26 : K.lookup f26 = some ⟨oc26, od26, .func (PySem.W.fnOf "_law_fixed" "_law_fixed" (defArgs s_law_fixed) (defBody s_law_fixed) (defScope s_law_fixed) .none kV26 dc26 pm26 an26 cd26 ct26), sl26⟩) (c26 : PySem.W.codeIn K cd26 "_law_fixed" = true) (k26 : PySem.W.keepIn K (.ref f26) = true)
    (a27 : PySem.W.nsIn K mainGlobals "_law_table" = some (some (.ref f27))) (l27 : K.lookup f27 = some ⟨oc27, od27, .func (PySem.W.fnOf "_law_table" "_law_table" (defArgs s_law_table) (defBody s_law_table) (defScope s_law_table) .none kV27 dc27 pm27 an27 cd27 ct27), sl27⟩) (c27 : PySem.W.codeIn K cd27 "_law_table" = true) (k27 : PySem.W.keepIn K (.ref f27) = true)
    (a28 : PySem.W.nsIn K mainGlobals "_law_past_count" = some (some (.ref f28))) (l28 : K.lookup f28 = some ⟨oc28, od28, .func (PySem.W.fnOf "_law_past_count" "_law_past_count" (defArgs s_law_past_count) (defBody s_law_past_count) (defScope s_law_past_count) .none kV28 dc28 pm28 an28 cd28 ct28), sl28⟩) (c28 : PySem.W.codeIn K cd28 "_law_past_count" = true) (k28 : PySem.W.keepIn K (.ref f28) = true)
    (a29 : PySem.W.nsIn K mainGlobals "_law_truth" = some (some (.ref f29))) (l29 : K.lookup f29 = some ⟨oc29, od29, .func (PySem.W.fnOf "_law_truth" "_law_truth" (defArgs s_law_truth) (defBody s_law_truth) (defScope s_law_truth) .none kV29 dc29 pm29 an29 cd29 ct29), sl29⟩) (c29 : PySem.W.codeIn K cd29 "_law_truth" = true) (k29 : PySem.W.keepIn K (.ref f29) = true)
    (a30 : PySem.W.nsIn K mainGlobals "_law_outcome" = some (some (.ref f30))) (l30 : K.lookup f30 = some ⟨oc30, od30, .func (PySem.W.fnOf "_law_outcome" "_law_outcome" (defArgs s_law_outcome) (defBody s_law_outcome) (defScope s_law_outcome) .none kV30 dc30 pm30 an30 cd30 ct30), sl30⟩) (c30 : PySem.W.codeIn K cd30 "_law_outcome" = true) (k30 : PySem.W.keepIn K (.ref f30) = true)
    (a31 : PySem.W.nsIn K mainGlobals "law" = some (some (.ref f31))) (l31 : K.lookup f31 = some ⟨oc31, od31, .func (PySem.W.fnOf "law" "law" (defArgs s_law) (defBody s_law) (defScope s_law) .none kV31 dc31 pm31 an31 cd31 ct31), sl31⟩) (c31 : PySem.W.codeIn K cd31 "law" = true) (k31 : PySem.W.keepIn K (.ref f31) = true)
    (z0 : PySem.W.nsIn K mainGlobals "bool" = some none) (z1 : PySem.W.nsIn K mainGlobals "int" = some none) (z2 : PySem.W.nsIn K mainGlobals "isinstance" = some none) (z3 : PySem.W.nsIn K mainGlobals "len" = some none) (z4 : PySem.W.nsIn K mainGlobals "list" = some none) (z5 : PySem.W.nsIn K mainGlobals "max" = some none) (z6 : PySem.W.nsIn K mainGlobals "range" = some none) (z7 : PySem.W.nsIn K mainGlobals "tuple" = some none) (z8 : PySem.W.nsIn K mainGlobals "zip" = some none) (xa : PySem.W.nsIn K mainGlobals "InvalidTurn" = some (some (.ref cT))) (xb : PySem.W.excIn K cT [.type "ValueError", .type "Exception", .type "BaseException", .type "object"] "ValueError.__new__" = true) (xc : PySem.W.keepIn K (.ref cT) = true) (xd : PySem.W.typeIn K (.ref cT) = some (.type "type")) (xe : PySem.W.subIn K (.ref cT) (.ref cT) = some true) (xf : PySem.W.findIn K (.ref cT) "__getattribute__" = some (some (.builtin "BaseException.__getattribute__"))) (xg : PySem.W.findIn K (.ref cT) "__getattr__" = some none) (xh : PySem.W.subIn K (.ref cT) (.type "BaseException") = some true) (xi : PySem.W.hasDictIn K cT = true) (xj : PySem.W.findIn K (.ref cT) "__class__" = some (some (.builtin "object.__class__"))) (xk : PySem.W.specialIn K (.builtin "object.__class__") "__get__" = some (some (.builtin "getset_descriptor.__get__"))) (xl : PySem.W.takesIn K (.builtin "object.__class__") = some true) (xm : PySem.W.mroIn K cT (.type "object") = some true) (ya : PySem.W.nsIn K mainGlobals "InvalidLetter" = some (some (.ref cL))) (yb : PySem.W.excIn K cL [.type "ValueError", .type "Exception", .type "BaseException", .type "object"] "ValueError.__new__" = true) (yc : PySem.W.keepIn K (.ref cL) = true) (yd : PySem.W.typeIn K (.ref cL) = some (.type "type")) (ye : PySem.W.subIn K (.ref cL) (.ref cL) = some true) (yf : PySem.W.findIn K (.ref cL) "__getattribute__" = some (some (.builtin "BaseException.__getattribute__"))) (yg : PySem.W.findIn K (.ref cL) "__getattr__" = some none) (yh : PySem.W.subIn K (.ref cL) (.type "BaseException") = some true) (yi : PySem.W.hasDictIn K cL = true) (yj : PySem.W.findIn K (.ref cL) "__class__" = some (some (.builtin "object.__class__"))) (yk : PySem.W.specialIn K (.builtin "object.__class__") "__get__" = some (some (.builtin "getset_descriptor.__get__"))) (yl : PySem.W.takesIn K (.builtin "object.__class__") = some true) (ym : PySem.W.mroIn K cL (.type "object") = some true) (xt : PySem.W.subIn K (.ref cL) (.ref cT) = some false) (gFa : PySem.W.nsIn K mainGlobals "FUTURE" = some (some (.ref aF))) (gFb : K.lookup aF = some ⟨.type "tuple", dF, .seq #[.str "next" tF0, .str "eventually" tF1, .str "always" tF2, .str "until" tF3, .str "weak_until" tF4, .str "release" tF5] nF, slF⟩) (gPa : PySem.W.nsIn K mainGlobals "PAST" = some (some (.ref aP))) (gPb : K.lookup aP = some ⟨.type "tuple", dP, .seq #[.str "previous" tP0, .str "weak_previous" tP1, .str "once" tP2, .str "historically" tP3, .str "since" tP4, .str "trigger" tP5] nP, slP⟩) (gSa : PySem.W.nsIn K mainGlobals "STEPS" = some (some (.ref aS))) (gSb : K.lookup aS = some ⟨.type "tuple", dS, .seq #[.str "next" tS0, .str "previous" tS1, .str "weak_previous" tS2] nS, slS⟩) (gBa : PySem.W.nsIn K mainGlobals "TRUE_BEYOND" = some (some (.ref aB))) (gBb : K.lookup aB = some ⟨.type "tuple", dB, .seq #[.str "weak_previous" tB0, .str "historically" tB1, .str "trigger" tB2, .str "always" tB3, .str "release" tB4, .str "weak_until" tB5] nB, slB⟩) (gQa : PySem.W.nsIn K mainGlobals "QUANTIFIERS" = some (some (.ref aQ))) (gQb : K.lookup aQ = some ⟨.type "tuple", dQ, .seq #[.str "exists" tQ0, .str "forall" tQ1] nQ, slQ⟩) :
    ∃ fd : FuncData, (∀ (s : Shared) (v : Value), BindsTo s fd ⟨[v], []⟩ [("script", v)]) ∧ ∀ base : Heap, K.In base → base.Ns mainGlobals mg → FnOk l.prog w K mg base CX0 8 fa fd ["script"] (spLaw K) := by
  have e := hfa.symm.trans (PySem.W.mg_of X G a31)
  cases e
  have T : Txt K mg := ⟨⟨f0, _, fun_mk (st := s_operands) l0 c0 k0, PySem.W.mg_of X G a0, (fun_mk (st := s_operands) l0 c0 k0).binds fun _ _ _ _ _ _ us hl => match us, hl with | [_], _ => rfl⟩, ⟨f1, _, fun_mk (st := s_subformulas) l1 c1 k1, PySem.W.mg_of X G a1, (fun_mk (st := s_subformulas) l1 c1 k1).binds fun _ _ _ _ _ _ us hl => match us, hl with | [_], _ => rfl⟩, ⟨f2, _, fun_mk (st := s_number_parts) l2 c2 k2, PySem.W.mg_of X G a2, (fun_mk (st := s_number_parts) l2 c2 k2).binds fun _ _ _ _ _ _ us hl => match us, hl with | [_, _], _ => rfl⟩, ⟨f3, _, fun_mk (st := s_truth_of) l3 c3 k3, PySem.W.mg_of X G a3, (fun_mk (st := s_truth_of) l3 c3 k3).binds fun _ _ _ _ _ _ us hl => match us, hl with | [_, _, _, _, _], _ => rfl⟩, ⟨f4, _, fun_mk (st := s_plain_truth) l4 c4 k4, PySem.W.mg_of X G a4, (fun_mk (st := s_plain_truth) l4 c4 k4).binds fun _ _ _ _ _ _ us hl => match us, hl with | [_, _, _, _], _ => rfl⟩, ⟨f5, _, fun_mk (st := s_is_quantified) l5 c5 k5, PySem.W.mg_of X G a5, (fun_mk (st := s_is_quantified) l5 c5 k5).binds fun _ _ _ _ _ _ us hl => match us, hl with | [_], _ => rfl⟩, ⟨f6, _, fun_mk (st := s_shortest_lasso) l6 c6 k6, PySem.W.mg_of X G a6, (fun_mk (st := s_shortest_lasso) l6 c6 k6).binds fun _ _ _ _ _ _ us hl => match us, hl with | [_, _], _ => rfl⟩, ⟨f7, _, fun_mk (st := s_shortest_period) l7 c7 k7, PySem.W.mg_of X G a7, (fun_mk (st := s_shortest_period) l7 c7 k7).binds fun _ _ _ _ _ _ us hl => match us, hl with | [_], _ => rfl⟩, ⟨f8, _, fun_mk (st := s_letter_at) l8 c8 k8, PySem.W.mg_of X G a8, (fun_mk (st := s_letter_at) l8 c8 k8).binds fun _ _ _ _ _ _ us hl => match us, hl with | [_, _], _ => rfl⟩, ⟨f9, _, fun_mk (st := s_check_letters) l9 c9 k9, PySem.W.mg_of X G a9, (fun_mk (st := s_check_letters) l9 c9 k9).binds fun _ _ _ _ _ _ us hl => match us, hl with | [_, _], _ => rfl⟩, ⟨f10, _, ⟨⟨oc10, od10, .none, .ref kD10, dc10, pm10, an10, cd10, ct10, sl10, rfl, l10, c10, .inl ⟨rfl, rfl⟩, .inr ⟨kD10, rfl, fun q hq => by rw [List.mem_singleton.mp hq]; exact ⟨_, kd10, _, rfl⟩⟩⟩, k10⟩, PySem.W.mg_of X G a10⟩, ⟨f11, _, fun_mk (st := s_truth_word) l11 c11 k11, PySem.W.mg_of X G a11, (fun_mk (st := s_truth_word) l11 c11 k11).binds fun _ _ _ _ _ _ us hl => match us, hl with | [_, _, _], _ => rfl⟩, ⟨f12, _, fun_mk (st := s_part_values) l12 c12 k12, PySem.W.mg_of X G a12, (fun_mk (st := s_part_values) l12 c12 k12).binds fun _ _ _ _ _ _ us hl => match us, hl with | [_, _, _], _ => rfl⟩, ⟨f13, _, fun_mk (st := s_past_values) l13 c13 k13, PySem.W.mg_of X G a13, (fun_mk (st := s_past_values) l13 c13 k13).binds fun _ _ _ _ _ _ us hl => match us, hl with | [_, _, _], _ => rfl⟩, ⟨f14, _, fun_mk (st := s_future_values) l14 c14 k14, PySem.W.mg_of X G a14, (fun_mk (st := s_future_values) l14 c14 k14).binds fun _ _ _ _ _ _ us hl => match us, hl with | [_, _, _, _], _ => rfl⟩, ⟨f15, _, fun_mk (st := s_law_draws) l15 c15 k15, PySem.W.mg_of X G a15, (fun_mk (st := s_law_draws) l15 c15 k15).binds fun _ _ _ _ _ _ us hl => match us, hl with | [_, _], _ => rfl⟩, ⟨f16, _, fun_mk (st := s_law_take) l16 c16 k16, PySem.W.mg_of X G a16, (fun_mk (st := s_law_take) l16 c16 k16).binds fun _ _ _ _ _ _ us hl => match us, hl with | [_, _], _ => rfl⟩, ⟨f17, _, fun_mk (st := s_law_at) l17 c17 k17, PySem.W.mg_of X G a17, (fun_mk (st := s_law_at) l17 c17 k17).binds fun _ _ _ _ _ _ us hl => match us, hl with | [_, _], _ => rfl⟩, ⟨f18, _, fun_mk (st := s_law_lasso) l18 c18 k18, PySem.W.mg_of X G a18, (fun_mk (st := s_law_lasso) l18 c18 k18).binds fun _ _ _ _ _ _ us hl => match us, hl with | [_, _, _], _ => rfl⟩, ⟨f19, _, fun_mk (st := s_law_name) l19 c19 k19, PySem.W.mg_of X G a19, (fun_mk (st := s_law_name) l19 c19 k19).binds fun _ _ _ _ _ _ us hl => match us, hl with | [_, _], _ => rfl⟩, ⟨f20, _, fun_mk (st := s_law_names) l20 c20 k20, PySem.W.mg_of X G a20, (fun_mk (st := s_law_names) l20 c20 k20).binds fun _ _ _ _ _ _ us hl => match us, hl with | [_, _], _ => rfl⟩, ⟨f21, _, fun_mk (st := s_law_leaf) l21 c21 k21, PySem.W.mg_of X G a21, (fun_mk (st := s_law_leaf) l21 c21 k21).binds fun _ _ _ _ _ _ us hl => match us, hl with | [_, _], _ => rfl⟩, ⟨f22, _, fun_mk (st := s_law_formula) l22 c22 k22, PySem.W.mg_of X G a22, (fun_mk (st := s_law_formula) l22 c22 k22).binds fun _ _ _ _ _ _ us hl => match us, hl with | [_, _, _, _], _ => rfl⟩, ⟨f23, _, fun_mk (st := s_law_logic) l23 c23 k23, PySem.W.mg_of X G a23, (fun_mk (st := s_law_logic) l23 c23 k23).binds fun _ _ _ _ _ _ us hl => match us, hl with | [_, _, _], _ => rfl⟩, ⟨f24, _, fun_mk (st := s_law_fold) l24 c24 k24, PySem.W.mg_of X G a24, (fun_mk (st := s_law_fold) l24 c24 k24).binds fun _ _ _ _ _ _ us hl => match us, hl with | [_, _, _, _], _ => rfl⟩, ⟨f25, _, fun_mk (st := s_law_shifted) l25 c25 k25, PySem.W.mg_of X G a25, (fun_mk (st := s_law_shifted) l25 c25 k25).binds fun _ _ _ _ _ _ us hl => match us, hl with | [_, _, _], _ => rfl⟩, ⟨f26, _, fun_mk (st := s_law_fixed) l26 c26 k26, PySem.W.mg_of X G a26, (fun_mk (st := s_law_fixed) l26 c26 k26).binds fun _ _ _ _ _ _ us hl => match us, hl with | [_, _, _, _], _ => rfl⟩, ⟨f27, _, fun_mk (st := s_law_table) l27 c27 k27, PySem.W.mg_of X G a27, (fun_mk (st := s_law_table) l27 c27 k27).binds fun _ _ _ _ _ _ us hl => match us, hl with | [_, _, _, _], _ => rfl⟩, ⟨f28, _, fun_mk (st := s_law_past_count) l28 c28 k28, PySem.W.mg_of X G a28, (fun_mk (st := s_law_past_count) l28 c28 k28).binds fun _ _ _ _ _ _ us hl => match us, hl with | [_], _ => rfl⟩, ⟨f29, _, fun_mk (st := s_law_truth) l29 c29 k29, PySem.W.mg_of X G a29, (fun_mk (st := s_law_truth) l29 c29 k29).binds fun _ _ _ _ _ _ us hl => match us, hl with | [_, _, _], _ => rfl⟩, ⟨f30, _, fun_mk (st := s_law_outcome) l30 c30 k30, PySem.W.mg_of X G a30, (fun_mk (st := s_law_outcome) l30 c30 k30).binds fun _ _ _ _ _ _ us hl => match us, hl with | [_, _, _, _], _ => rfl⟩, PySem.W.mg_none_of X G z0, PySem.W.mg_none_of X G z1, PySem.W.mg_none_of X G z2, PySem.W.mg_none_of X G z3, PySem.W.mg_none_of X G z4, PySem.W.mg_none_of X G z5, PySem.W.mg_none_of X G z6, PySem.W.mg_none_of X G z7, PySem.W.mg_none_of X G z8, ⟨cT, cL, aF, aP, aS, aB, aQ, ⟨PySem.W.mg_of X G xa, xb, xc, xd, xe, ⟨xf, xg, xh, xi, xj, xk, xl, xm⟩⟩, ⟨PySem.W.mg_of X G ya, yb, yc, yd, ye, ⟨yf, yg, yh, yi, yj, yk, yl, ym⟩⟩, xt, ⟨PySem.W.mg_of X G gFa, fun H => .inr ⟨_, _, _, gFb, rfl, rfl, (show 6 ≤ sizeLine by decide), (.cons ⟨_, rfl⟩ (.cons ⟨_, rfl⟩ (.cons ⟨_, rfl⟩ (.cons ⟨_, rfl⟩ (.cons ⟨_, rfl⟩ (.cons ⟨_, rfl⟩ .nil))))))⟩⟩, ⟨PySem.W.mg_of X G gPa, fun H => .inr ⟨_, _, _, gPb, rfl, rfl, (show 6 ≤ sizeLine by decide), (.cons ⟨_, rfl⟩ (.cons ⟨_, rfl⟩ (.cons ⟨_, rfl⟩ (.cons ⟨_, rfl⟩ (.cons ⟨_, rfl⟩ (.cons ⟨_, rfl⟩ .nil))))))⟩⟩, ⟨PySem.W.mg_of X G gSa, fun H => .inr ⟨_, _, _, gSb, rfl, rfl, (show 3 ≤ sizeLine by decide), (.cons ⟨_, rfl⟩ (.cons ⟨_, rfl⟩ (.cons ⟨_, rfl⟩ .nil)))⟩⟩, ⟨PySem.W.mg_of X G gBa, fun H => .inr ⟨_, _, _, gBb, rfl, rfl, (show 6 ≤ sizeLine by decide), (.cons ⟨_, rfl⟩ (.cons ⟨_, rfl⟩ (.cons ⟨_, rfl⟩ (.cons ⟨_, rfl⟩ (.cons ⟨_, rfl⟩ (.cons ⟨_, rfl⟩ .nil))))))⟩⟩, ⟨PySem.W.mg_of X G gQa, fun H => .inr ⟨_, _, _, gQb, rfl, rfl, (show 2 ≤ sizeLine by decide), (.cons ⟨_, rfl⟩ (.cons ⟨_, rfl⟩ .nil))⟩⟩⟩⟩
  exact ⟨_, fun s v => .of_eq rfl, fun base _ _ => ok_law (fun_mk (st := s_law) l31 c31 k31) T⟩
end My
open PySem PySem.W PyProof.Rows
set_option maxHeartbeats 0 in
theorem PySem.Challenge.cw_reactivesynth_k12_holds_holds : PySem.Challenge.rw_reactivesynth_k12_holds.Holds := by
  w_on; o_law; k_head; (case hw => w_witness2)
  k_fill
  refine L2.walk_of (l := PySem.Challenge.rw_reactivesynth_k12_holds) (n := 63) (k := 8) (x := "script") (CX := fun _ => L2.CX0) (sp := fun w => My.spLaw _) rfl (by decide) rfl ⟨rfl, by decide, by decide⟩ (fun w h Y => PySem.W.km_in_of Y) ?F (fun _ _ a ns hl _ hS => ⟨a, ns, rfl, hS, hl, fun _ => rfl⟩) (fun _ _ _ _ _ h => h)
  case F =>
    intro w mg fa h KX G hmg
    refine' My.all_mk KX G hmg ?a0 ?l0 ?c0 ?k0 ?a1 ?l1 ?c1 ?k1 ?a2 ?l2 ?c2 ?k2 ?a3 ?l3 ?c3 ?k3 ?a4 ?l4 ?c4 ?k4 ?a5 ?l5 ?c5 ?k5 ?a6 ?l6 ?c6 ?k6 ?a7 ?l7 ?c7 ?k7 ?a8 ?l8 ?c8 ?k8 ?a9 ?l9 ?c9 ?k9 ?a10 ?l10 ?c10 ?k10 ?kd10 ?a11 ?l11 ?c11 ?k11 ?a12 ?l12 ?c12 ?k12 ?a13 ?l13 ?c13 ?k13 ?a14 ?l14 ?c14 ?k14 ?a15 ?l15 ?c15 ?k15 ?a16 ?l16 ?c16 ?k16 ?a17 ?l17 ?c17 ?k17 ?a18 ?l18 ?c18 ?k18 ?a19 ?l19 ?c19 ?k19 ?a20 ?l20 ?c20 ?k20 ?a21 ?l21 ?c21 ?k21 ?a22 ?l22 ?c22 ?k22 ?a23 ?l23 ?c23 ?k23 ?a24 ?l24 ?c24 ?k24 ?a25 ?l25 ?c25 ?k25 ?a26 ?l26 ?c26 ?k26 ?a27 ?l27 ?c27 ?k27 ?a28 ?l28 ?c28 ?k28 ?a29 ?l29 ?c29 ?k29 ?a30 ?l30 ?c30 ?k30 ?a31 ?l31 ?c31 ?k31 ?z0 ?z1 ?z2 ?z3 ?z4 ?z5 ?z6 ?z7 ?z8 ?xa ?xb ?xc ?xd ?xe ?xf ?xg ?xh ?xi ?xj ?xk ?xl ?xm ?ya ?yb ?yc ?yd ?ye ?yf ?yg ?yh ?yi ?yj ?yk ?yl ?ym ?xt ?gFa ?gFb ?gPa ?gPb ?gSa ?gSb ?gBa ?gBb ?gQa ?gQb
    (case a0 => k_is); (case l0 => k_is); (case c0 => k_is); (case k0 => k_is); (case a1 => k_is); (case l1 => k_is); (case c1 => k_is); (case k1 => k_is); (case a2 => k_is); (case l2 => k_is); (case c2 => k_is); (case k2 => k_is); (case a3 => k_is); (case l3 => k_is); (case c3 => k_is); (case k3 => k_is); (case a4 => k_is); (case l4 => k_is); (case c4 => k_is); (case k4 => k_is); (case a5 => k_is); (case l5 => k_is); (case c5 => k_is); (case k5 => k_is); (case a6 => k_is); (case l6 => k_is); (case c6 => k_is); (case k6 => k_is); (case a7 => k_is); (case l7 => k_is); (case c7 => k_is); (case k7 => k_is); (case a8 => k_is); (case l8 => k_is); (case c8 => k_is); (case k8 => k_is); (case a9 => k_is); (case l9 => k_is); (case c9 => k_is); (case k9 => k_is); (case a10 => k_is); (case l10 => k_is); (case c10 => k_is); (case k10 => k_is); (case kd10 => k_is); (case a11 => k_is); (case l11 => k_is); (case c11 => k_is); (case k11 => k_is); (case a12 => k_is); (case l12 => k_is); (case c12 => k_is); (case k12 => k_is); (case a13 => k_is); (case l13 => k_is); (case c13 => k_is); (case k13 => k_is); (case a14 => k_is); (case l14 => k_is); (case c14 => k_is); (case k14 => k_is); (case a15 => k_is); (case l15 => k_is); (case c15 => k_is); (case k15 => k_is); (case a16 => k_is); (case l16 => k_is); (case c16 => k_is); (case k16 => k_is); (case a17 => k_is); (case l17 => k_is); (case c17 => k_is); (case k17 => k_is); (case a18 => k_is); (case l18 => k_is); (case c18 => k_is); (case k18 => k_is); (case a19 => k_is); (case l19 => k_is); (case c19 => k_is); (case k19 => k_is); (case a20 => k_is); (case l20 => k_is); (case c20 => k_is); (case k20 => k_is); (case a21 => k_is); (case l21 => k_is); (case c21 => k_is); (case k21 => k_is); (case a22 => k_is); (case l22 => k_is); (case c22 => k_is); (case k22 => k_is); (case a23 => k_is); (case l23 => k_is); (case c23 => k_is); (case k23 => k_is); (case a24 => k_is); (case l24 => k_is); (case c24 => k_is); (case k24 => k_is); (case a25 => k_is); (case l25 => k_is); (case c25 => k_is); (case k25 => k_is); (case a26 => k_is); (case l26 => k_is); (case c26 => k_is); (case k26 => k_is); (case a27 => k_is); (case l27 => k_is); (case c27 => k_is); (case k27 => k_is); (case a28 => k_is); (case l28 => k_is); (case c28 => k_is); (case k28 => k_is); (case a29 => k_is); (case l29 => k_is); (case c29 => k_is); (case k29 => k_is); (case a30 => k_is); (case l30 => k_is); (case c30 => k_is); (case k30 => k_is); (case a31 => k_is); (case l31 => k_is); (case c31 => k_is); (case k31 => k_is); (case z0 => k_is); (case z1 => k_is); (case z2 => k_is); (case z3 => k_is); (case z4 => k_is); (case z5 => k_is); (case z6 => k_is); (case z7 => k_is); (case z8 => k_is); (case xa => first | rfl | k_is); (case xb => first | k_exc | rfl | k_is); (case xc => first | rfl | k_is); (case xd => first | rfl | k_is); (case xe => first | rfl | k_is); (case xf => first | rfl | k_is); (case xg => first | rfl | k_is); (case xh => first | rfl | k_is); (case xi => first | rfl | k_is); (case xj => first | rfl | k_is); (case xk => first | rfl | k_is); (case xl => first | rfl | k_is); (case xm => first | rfl | k_is); (case ya => k_is); (case yb => first | k_exc | rfl | k_is); (case yc => k_is); (case yd => k_is); (case ye => k_is); (case yf => k_is); (case yg => k_is); (case yh => k_is); (case yi => k_is); (case yj => k_is); (case yk => k_is); (case yl => k_is); (case ym => k_is); (case xt => first | rfl | k_is); (case gFa => k_is); (case gFb => k_is); (case gPa => k_is); (case gPb => k_is); (case gSa => k_is); (case gSb => k_is); (case gBa => k_is); (case gBb => k_is); (case gQa => k_is); (case gQb => k_is)
