import PyProof.Rows.All
import Wide.All
import OpenK.AllK
import Wide.FinOn
import HandS.ForMost
import HandS.ForExc
import HandS.ExcIs
import HandS.ExcOwn
import HandS.WordsExc
import HandS.TryMany
import HandS.TryOnly
import HandS.Codes
import HandS.IsInst
import HandS.TupAny
import HandS.TupMul
import HandS.SortKw
import KE.KMinKey
import PyProof.WalksMore
import HandS.Dict
import HandS.Style
import HandS.Conv
import HandS.Walk
import HandS.Zip
import PyProof.AutoSeq1
import HandS.Text
import HandS.More
import HandS.Strs
import HandS.SetFor
import HandS.SetTxt0
import PySem.Challenge.RW_reactivesynth_k06_normal_form
set_option Elab.async false
set_option linter.all false
set_option maxRecDepth 100000
set_option maxHeartbeats 4000000
namespace Wd
/-- m is the length of a proper border of the first k letters -/
def Bd (w : Nat → Int) (k m : Nat) : Prop := m < k ∧ ∀ i, i < m → w i = w (k - m + i)
/-- .. the greatest -/
def Lg (w : Nat → Int) (k m : Nat) : Prop := Bd w k m ∧ ∀ j, Bd w k j → j ≤ m
theorem Bd.zero {w : Nat → Int} {k : Nat} (h : 0 < k) : Bd w k 0 := ⟨h, fun i hi => absurd hi (Nat.not_lt_zero i)⟩
theorem Bd.down {w : Nat → Int} {k m : Nat} (h : Bd w (k + 1) (m + 1)) : Bd w k m ∧ w m = w k := by
  obtain ⟨h1, h2⟩ := h
  refine ⟨⟨by omega, fun i hi => ?_⟩, ?_⟩
  · have := h2 i (by omega)
    rw [this]
    congr 1
    omega
  · have := h2 m (by omega)
    rw [this]
    congr 1
    omega
theorem Bd.up {w : Nat → Int} {k m : Nat} (h : Bd w k m) (e : w m = w k) : Bd w (k + 1) (m + 1) := by
  obtain ⟨h1, h2⟩ := h
  refine ⟨by omega, fun i hi => ?_⟩
  rcases Nat.lt_or_ge i m with c | c
  · rw [h2 i c]
    congr 1
    omega
  · have : i = m := by omega
    subst this
    rw [e]
    congr 1
    omega
theorem Bd.inner {w : Nat → Int} {k b j : Nat} (h : Bd w k b) (g : Bd w k j) (l : j < b) : Bd w b j := by
  obtain ⟨h1, h2⟩ := h
  obtain ⟨g1, g2⟩ := g
  refine ⟨l, fun i hi => ?_⟩
  rw [g2 i hi, h2 (b - j + i) (by omega)]
  congr 1
  omega
theorem Bd.trans {w : Nat → Int} {k b j : Nat} (h : Bd w k b) (g : Bd w b j) : Bd w k j := by
  obtain ⟨h1, h2⟩ := h
  obtain ⟨g1, g2⟩ := g
  refine ⟨by omega, fun i hi => ?_⟩
  rw [g2 i hi, h2 (b - j + i) (by omega)]
  congr 1
  omega
/-- what the inner loop keeps: b is a border of the first k letters, and no border of the first k + 1 is longer than b + 1 -/
def In (w : Nat → Int) (k b : Nat) : Prop := Bd w k b ∧ ∀ j, Bd w (k + 1) (j + 1) → j ≤ b
theorem In.start {w : Nat → Int} {k b : Nat} (h : Lg w k b) : In w k b := ⟨h.1, fun j hj => h.2 j hj.down.1⟩
theorem In.step {w : Nat → Int} {k b c : Nat} (h : In w k b) (hb : 0 < b) (ne : w k ≠ w b) (g : Lg w b c) : In w k c ∧ c < b := by
  refine ⟨⟨h.1.trans g.1, fun j hj => ?_⟩, g.1.1⟩
  have h1 := h.2 j hj
  obtain ⟨h2, h3⟩ := hj.down
  have : j ≠ b := fun z => ne (by rw [← h3, z])
  exact g.2 j (h.1.inner h2 (by omega))
theorem In.found {w : Nat → Int} {k b : Nat} (h : In w k b) (e : w k = w b) : Lg w (k + 1) (b + 1) := by
  refine ⟨h.1.up e.symm, fun j hj => ?_⟩
  cases j with
  | zero => omega
  | succ j => exact Nat.succ_le_succ (h.2 j hj)
theorem In.none {w : Nat → Int} {k : Nat} (h : In w k 0) (ne : w k ≠ w 0) : Lg w (k + 1) 0 := by
  refine ⟨Bd.zero (by omega), fun j hj => ?_⟩
  cases j with
  | zero => omega
  | succ j =>
    have h1 := h.2 j hj
    have : j = 0 := by omega
    subst this
    exact absurd hj.down.2.symm ne
/-! periods -/
/-- the letters of the word without end that repeats the first n letters -/
def cyc (w : Nat → Int) (n i : Nat) : Int := w (i % n)
def Rp (w : Nat → Int) (n p : Nat) : Prop := ∀ i, cyc w n (i + p) = cyc w n i
theorem Rp.mul {w : Nat → Int} {n p : Nat} (h : Rp w n p) : ∀ k i, cyc w n (i + k * p) = cyc w n i
  | 0, i => by rw [Nat.zero_mul, Nat.add_zero]
  | k + 1, i => by
    rw [Nat.succ_mul, ← Nat.add_assoc, h, h.mul k i]
theorem Rp.mod {w : Nat → Int} {n p i : Nat} (h : Rp w n p) : cyc w n i = cyc w n (i % p) := by
  have := h.mul (i / p) (i % p)
  rw [Nat.mul_comm, Nat.mod_add_div] at this
  exact this
theorem cyc_lt {w : Nat → Int} {n i : Nat} (h : i < n) : cyc w n i = w i := by
  unfold cyc
  rw [Nat.mod_eq_of_lt h]
theorem rp_self (w : Nat → Int) (n : Nat) : Rp w n n := fun i => by
  unfold cyc
  rw [Nat.add_mod_right]
/-- a period of the finite word that divides its length is one of the word without end -/
theorem rp_of {w : Nat → Int} {n p : Nat} (hp : 0 < p) (hd : p ∣ n) (hn : 0 < n) (h : ∀ i, i + p < n → w i = w (i + p)) : Rp w n p := by
  have red : ∀ k i, i + k * p < n → w (i + k * p) = w i := by
    intro k
    induction k with
    | zero => intro i _; rw [Nat.zero_mul, Nat.add_zero]
    | succ k ih =>
      intro i hi
      rw [Nat.succ_mul] at hi ⊢
      rw [← Nat.add_assoc, ← h (i + k * p) (by omega)]
      exact ih i (by omega)
  have toMod : ∀ i, cyc w n i = w (i % p) := by
    intro i
    unfold cyc
    have h1 : i % n < n := Nat.mod_lt _ hn
    have e : i % n % p + (i % n / p) * p = i % n := by
      rw [Nat.mul_comm]
      exact Nat.mod_add_div _ _
    have h2 := red (i % n / p) (i % n % p) (by rw [e]; exact h1)
    rw [e] at h2
    rw [h2, Nat.mod_mod_of_dvd _ hd]
  intro i
  rw [toMod, toMod, Nat.add_mod_right]
/-- the least repetition: r divides n, the word repeats its first r letters, and no shorter one does -/
structure Least (w : Nat → Int) (n r : Nat) : Prop where
  pos : 0 < r
  dvd : r ∣ n
  rp : Rp w n r
  min : ∀ p, 0 < p → p ∣ n → Rp w n p → r ≤ p
theorem least_of {w : Nat → Int} {n b : Nat} (hn : 0 < n) (h : Lg w n b) : Least w n (if n % (n - b) = 0 then n - b else n) := by
  obtain ⟨⟨hb, h1⟩, h2⟩ := h
  have hs : 0 < n - b := by omega
  -- n - b is the least period of the finite word
  have per : ∀ i, i + (n - b) < n → w i = w (i + (n - b)) := fun i hi => by
    have := h1 i (by omega)
    rw [this]
    congr 1
    omega
  have low : ∀ p, 0 < p → p ≤ n → (∀ i, i + p < n → w i = w (i + p)) → n - b ≤ p := fun p hp hpn hq => by
    have := h2 (n - p) ⟨by omega, fun i hi => by
      have := hq i (by omega)
      rw [this]
      congr 1
      omega⟩
    omega
  have fin : ∀ p, Rp w n p → ∀ i, i + p < n → w i = w (i + p) := fun p hp i hi => by
    have := hp i
    rw [cyc_lt hi, cyc_lt (by omega)] at this
    exact this.symm
  -- a shorter repetition makes n - b a repetition
  have key : ∀ p, 0 < p → p ∣ n → p < n → Rp w n p → n % (n - b) = 0 ∧ n - b ≤ p := by
    intro p hp hd hlt hr
    have le := low p hp (by omega) (fin p hr)
    obtain ⟨q, hq⟩ := hd
    have hq2 : 2 ≤ q := by
      rcases Nat.lt_or_ge q 2 with c | c
      · have : q = 0 ∨ q = 1 := by omega
        rcases this with z | z
        · rw [z] at hq; omega
        · rw [z] at hq; omega
      · exact c
    have h2p : 2 * p ≤ n := by
      rw [hq, Nat.mul_comm 2 p]
      exact Nat.mul_le_mul_left p hq2
    have rs : Rp w n (n - b) := by
      intro i
      have e1 : cyc w n (i + (n - b)) = cyc w n (i % p + (n - b)) := by
        have := hr.mul (i / p) (i % p + (n - b))
        rw [← this]
        congr 1
        have := Nat.mod_add_div i p
        rw [Nat.mul_comm (i / p) p]
        omega
      have hm : i % p < p := Nat.mod_lt _ hp
      rw [e1, hr.mod (i := i), cyc_lt (show i % p + (n - b) < n by omega), cyc_lt (show i % p < n by omega)]
      exact (per _ (by omega)).symm
    -- p is a multiple of n - b
    have hmod : p % (n - b) = 0 := by
      rcases Nat.eq_zero_or_pos (p % (n - b)) with z | z
      · exact z
      · have lt : p % (n - b) < n - b := Nat.mod_lt _ hs
        have rm : Rp w n (p % (n - b)) := by
          intro i
          have a := rs.mul (p / (n - b)) (i + p % (n - b))
          have e : i + p % (n - b) + p / (n - b) * (n - b) = i + p := by
            rw [Nat.mul_comm, Nat.add_assoc, Nat.mod_add_div]
          rw [e] at a
          rw [← a]
          exact hr i
        have := low _ z (by omega) (fin _ rm)
        omega
    refine ⟨?_, le⟩
    exact Nat.mod_eq_zero_of_dvd (Nat.dvd_trans (Nat.dvd_of_mod_eq_zero hmod) ⟨q, hq⟩)
  by_cases c : n % (n - b) = 0
  · rw [if_pos c]
    refine ⟨hs, Nat.dvd_of_mod_eq_zero c, rp_of hs (Nat.dvd_of_mod_eq_zero c) hn per, fun p hp hd hr => ?_⟩
    exact low p hp (Nat.le_of_dvd hn hd) (fin p hr)
  · rw [if_neg c]
    refine ⟨hn, Nat.dvd_refl n, rp_self w n, fun p hp hd hr => ?_⟩
    have le := Nat.le_of_dvd hn hd
    rcases Nat.lt_or_ge p n with l | l
    · exact absurd (key p hp hd l hr).1 c
    · exact l
end Wd
/-! ### min(xs, default=d) of a list of ints: own rule -/
namespace MinD
open PySem PySem.W PyProof.Rows
def kwD (d : Value) : List (Str × Value) := [(Str.ofString "default", d)]
theorem nameL : (toString "min" ++ toString ".loop" : String) = "min.loop" := by decide
section
variable {prog : Program} {w : World} {A : Around} {R : Result → Shared → Prop} {I S : Addr} {fp wr : List Addr} {n : Nat} {P : Nat → Value → Prop} {St : Nat → Heap → Prop} {d : Value}
theorem loopD (W : Walks prog w A.in1 I fp wr n P St) (bt : Nat → Nat → Bool) (cm : CmpOf prog w A.in1 .Lt P bt) (nf : S ∉ fp) :
    ∀ (m j : Nat) (u : Shared) (best : Value) (c : Nat), n - (j + 1) = m → j + 1 ≤ n → St (j + 1) u.heap → P (argBest bt j) best →
    u.heap.get? S = some { cls := .type "list", dict := none, data := .seq #[best, best] c, slots := #[] } →
    (∀ v g tk, P (argBest bt (n - 1)) v → (∀ b o, b ∉ wr → b ≠ S → u.heap.get? b = some o → g.get? b = some o) → R (.ok (.ret v)) { u with heap := g, toks := tk }) →
    codeAny (model prog w) A (.builtin "min.loop" ⟨[.ref I, .none, .ref S], kwD d⟩) R u := by
  have nw : S ∉ wr := fun q => nf (W.sub _ q)
  intro m
  induction m with
  | zero =>
    intro j u best c em hj st pb gS out
    have ej : j + 1 = n := by omega
    refine codeAny_builtin PySem.F.entry_min_loop ?_
    rw [Around.under_plainId PySem.F.plain_min_loop _]
    show wpAny _ A.in1 (seqItems? (.ref S) >>= _) _ _ u
    refine wpAny_bind (wpAny_seqItems gS rfl ?_)
    show wpAny _ A.in1 (tryCatch (pyNext (.ref I)) _ >>= _) _ _ u
    refine wpAny_bind (wpAny_tryCatch (W.done u _ _ (ej ▸ st) fun g tk keep => ?_))
    have gS2 := keep S _ nw gS
    show wpAny _ A.in1 (updateSeq S (fun _ => #[]) >>= _) _ _ _
    refine wpAny_bind (wpAny_updateSeq gS2 rfl (wpAny_bind (wpAny_letGo (wpAny_pure ?_))))
    exact out best _ tk (by rw [← ej]; exact pb) fun b o hb hS e => (Heap.get?_update_other _ _ (Ne.symm hS)).trans (keep b o hb e)
  | succ m ih =>
    intro j u best c em hj st pb gS out
    have lt : j + 1 < n := by omega
    refine codeAny_builtin PySem.F.entry_min_loop ?_
    rw [Around.under_plainId PySem.F.plain_min_loop _]
    show wpAny _ A.in1 (seqItems? (.ref S) >>= _) _ _ u
    refine wpAny_bind (wpAny_seqItems gS rfl ?_)
    show wpAny _ A.in1 (tryCatch (pyNext (.ref I)) _ >>= _) _ _ u
    refine wpAny_bind (wpAny_tryCatch (W.item (j + 1) u _ _ lt st fun v g tk pv st2 keep => ?_))
    have gS2 := keep S _ nw gS
    show wpAny _ A.in1 (tryCatch (holding [v, v] (richCompare .Lt v best >>= _)) _ >>= _) _ _ _
    refine wpAny_bind (wpAny_tryCatch (wpAny_holding (wpAny_bind (cm (j + 1) (argBest bt j) v best _ _ _ pv pb ?_))))
    refine wpAny_bind (wpAny_holding (wpAny_truthy_bool (wpAny_bind (wpAny_letGo (wpAny_pure ?_)))))
    cases hb : bt (j + 1) (argBest bt j) with
    | true =>
      simp only [if_true]
      refine wpAny_bind (wpAny_updateSeq gS2 rfl (wpAny_bind (wpAny_letGo ?_)))
      rw [nameL]
      refine wpAny_pure ⟨plainId_quiet PySem.F.plain_min_loop _, ih (j + 1) _ v _ (by omega) lt (W.frame _ _ _ st2 fun b bf o e => ?_) (by simp only [argBest, hb, if_true]; exact pv) (Heap.get?_update_self _ gS2 rfl)
        fun v2 g2 tk2 p2 keep2 => ?_⟩
      · exact (Heap.get?_update_other _ _ (fun q : S = b => nf (by rw [q]; exact bf))).trans e
      · exact out v2 g2 tk2 p2 fun b o hw hS e => keep2 b o hw hS ((Heap.get?_update_other _ _ (Ne.symm hS)).trans (keep b o hw e))
    | false =>
      simp only [Bool.false_eq_true, if_false]
      refine wpAny_bind (wpAny_letGo ?_)
      rw [nameL]
      exact wpAny_pure ⟨plainId_quiet PySem.F.plain_min_loop _, ih (j + 1) _ best c (by omega) lt st2 (by simp only [argBest, hb, Bool.false_eq_true, if_false]; exact pb) gS2 fun v2 g2 tk2 p2 keep2 =>
        out v2 g2 tk2 p2 fun b o hw hS e => keep2 b o hw hS (keep b o hw e)⟩
theorem firstD (W : Walks prog w A.in1 I fp wr n P St) (bt : Nat → Nat → Bool) (cm : CmpOf prog w A.in1 .Lt P bt) (nf : S ∉ fp) {u : Shared} {c : Nat} (st : St 0 u.heap)
    (gS : u.heap.get? S = some { cls := .type "list", dict := none, data := .seq #[] c, slots := #[] })
    (out : ∀ v g tk, (0 < n → P (argBest bt (n - 1)) v) → (n = 0 → v = d) → (∀ b o, b ∉ wr → b ≠ S → u.heap.get? b = some o → g.get? b = some o) → R (.ok (.ret v)) { u with heap := g, toks := tk }) :
    codeAny (model prog w) A (.builtin "min.loop" ⟨[.ref I, .none, .ref S], kwD d⟩) R u := by
  have nw : S ∉ wr := fun q => nf (W.sub _ q)
  refine codeAny_builtin PySem.F.entry_min_loop ?_
  rw [Around.under_plainId PySem.F.plain_min_loop _]
  show wpAny _ A.in1 (seqItems? (.ref S) >>= _) _ _ u
  refine wpAny_bind (wpAny_seqItems gS rfl ?_)
  show wpAny _ A.in1 (tryCatch (pyNext (.ref I)) _ >>= _) _ _ u
  by_cases h0 : 0 < n
  · refine wpAny_bind (wpAny_tryCatch (W.item 0 u _ _ h0 st fun v g tk pv st2 keep => ?_))
    have gS2 := keep S _ nw gS
    show wpAny _ A.in1 (updateSeq S (fun _ => #[v, v]) >>= _) _ _ _
    refine wpAny_bind (wpAny_updateSeq gS2 rfl ?_)
    rw [nameL]
    refine wpAny_pure ⟨plainId_quiet PySem.F.plain_min_loop _, loopD W bt cm nf _ 0 _ v _ rfl h0 (W.frame _ _ _ st2 fun b bf o e => ?_) pv (Heap.get?_update_self _ gS2 rfl) fun v2 g2 tk2 p2 keep2 => ?_⟩
    · exact (Heap.get?_update_other _ _ (fun q : S = b => nf (by rw [q]; exact bf))).trans e
    · exact out v2 g2 tk2 (fun _ => p2) (fun z => by omega) fun b o hw hS e => keep2 b o hw hS ((Heap.get?_update_other _ _ (Ne.symm hS)).trans (keep b o hw e))
  · have e0 : n = 0 := by omega
    refine wpAny_bind (wpAny_tryCatch (W.done u _ _ (by rw [e0]; exact st) fun g tk keep => ?_))
    show wpAny _ A.in1 (rule _ >>= _) _ _ _
    refine wpAny_bind (wpAny_rule (wpAny_pure ?_))
    exact out d g tk (fun z => absurd z h0) (fun _ => rfl) fun b o hw _ e => keep b o hw e
end
section
variable {prog : Program} {w : World} {A : Around} {E : Value → Shared → Prop} {s : Shared} {d : Value}
theorem args_d (a v : Value) : argsOk "min" ⟨[a], kwD v⟩ := by
  unfold argsOk
  kernel_rfl
theorem callD {l : Addr} {xs : Array (Int × Tok)} {Q : Value → Shared → Prop} (hh : A.handled = none) (hl : s.heap.IsList l (intItems xs))
    (h : ∀ v g tk, (0 < xs.size → (intItems xs)[argBest (fun i j => decide (numAt xs i < numAt xs j)) (xs.size - 1)]? = some v) → (xs.size = 0 → v = d) → (∀ b o, s.heap.get? b = some o → g.get? b = some o) → Q v { s with heap := g, toks := tk }) :
    wpAny (model prog w) A (call (.builtin "min") [.ref l] (kwD d)) Q E s := by
  refine kmk_tree PySem.F.kind_min PySem.F.plain_min PySem.F.entry_min (args_d _ _) ?_
  show wpAny _ A.in1 (Builtin.Builtins.bindParams "min" ["key", "default"] 0 ⟨[], kwD d⟩ >>= _) _ _ s
  refine wpAny_bind (wpAny_of_eq (show Builtin.Builtins.bindParams "min" ["key", "default"] 0 ⟨[], kwD d⟩ = pure [none, some d] from rfl) ?_)
  refine wpAny_bind (wpAny_pure ?_)
  refine wpAny_bind (iter_intList hl fun u eu st hfp hlI => ?_)
  subst eu
  refine wpAny_bind (wpAny_newObj_type ?_)
  rw [nameL]
  refine wpAny_pure ⟨plainId_quiet PySem.F.plain_min_loop _, firstD (Walks.list (A := A.in1) hh _ l hlI (intItems xs)) _ (CmpOf.ints_lt (numAt xs) (fun _ _ => intItems_at)) (fun hm => Nat.lt_irrefl _ (hfp _ hm)) ?_ (Heap.get?_push_size _ rfl) fun v g tk p1 p2 keep => ?_⟩
  · exact (Walks.list (prog := prog) (w := w) (A := A.in1) hh _ l hlI (intItems xs)).frame _ _ _ st fun b _ o e => Heap.get?_push_of_some _ e
  · have hsz : (intItems xs).size = xs.size := by simp [intItems]
    refine h v g tk (fun z => by have := p1 (by rw [hsz]; exact z); rw [hsz] at this; exact this) (fun z => p2 (by rw [hsz]; exact z)) (old_kept (l := l) fun b o hb e => ?_)
    exact keep b o hb (Nat.ne_of_lt (Heap.lt_size e)) (Heap.get?_push_of_some _ e)
end
theorem rawD {prog : Program} {w : World} {A : Around} {E : Value → Shared → Prop} {s : Shared} {l : Addr} {its : List Value} {ns : List Int} {z : Int} {t : Tok} {Q : Value → Shared → Prop} (hh : A.handled = none) (hl : s.heap.IsList l its.toArray) (hi : IntsAre its ns)
    (h : ∀ (g : Heap) (tk : Nat) (m : Int) (t' : Tok), (∀ b o, s.heap.get? b = some o → g.get? b = some o) → (ns = [] → m = z) → (ns ≠ [] → m ∈ ns ∧ ∀ y ∈ ns, m ≤ y) → Q (.int m t') { s with heap := g, toks := tk }) :
    wpAny (model prog w) A (call (.builtin "min") [.ref l] (kwD (.int z t))) Q E s := by
  obtain ⟨xs, e⟩ := hi.allInts.items
  have hn : numsOf (intItems xs).toList = ns := by rw [← e]; exact hi.numsOf
  rw [PySem.nums_intItems] at hn
  subst hn
  rw [e] at hl
  refine callD hh hl fun v g tk p1 p2 keep => ?_
  by_cases c : 0 < xs.size
  · obtain ⟨u, rfl⟩ := intItems_at (p1 c)
    obtain ⟨a1, a2⟩ := argBest_lt (numAt xs) (xs.size - 1)
    refine h g tk _ u keep (fun z => ?_) fun _ => ⟨?_, fun y hy => ?_⟩
    · have q : xs.size = 0 := by simpa using congrArg List.length z
      omega
    · rw [PySem.numAt_eq]
      refine PySem.getD_mem ?_
      rw [List.length_map, Array.length_toList]
      exact Nat.lt_of_le_of_lt a1 (by omega)
    · obtain ⟨j, hj, rfl⟩ := PySem.mem_getD hy
      rw [List.length_map, Array.length_toList] at hj
      rw [← PySem.numAt_eq]
      exact a2 j (by omega)
  · rw [p2 (by omega)]
    refine h g tk z t keep (fun _ => rfl) fun q => absurd ?_ q
    have : xs = #[] := Array.eq_empty_of_size_eq_zero (by omega)
    rw [this]
    rfl
end MinD
namespace Bx
open PySem PySem.Spec PyProof.Rows L2
def rMinD (K : PySem.W.Frag) : List V → List V → Hp → VK → Prop := fun xs zs H Q => ∃ (a : Addr) (ns : List Int) (z : Int), xs = [.ref a] ∧ zs = [.int z] ∧ SqL K H a (ns.map V.int) ∧
  ∀ m, (ns = [] → m = z) → (ns ≠ [] → m ∈ ns ∧ ∀ y ∈ ns, m ≤ y) → Q (.int m) H
theorem call_minD {X : Cx} {K : PySem.W.Frag} (h : X.K = K) (hc : X.calm = true) : CallRK X (.builtin "min") ["default"] (rMinD K) := by
  subst h
  intro pins s σ H xs zs us ws Q I r r2 hw
  obtain ⟨a, ns, z, rfl, rfl, hs, q⟩ := hw
  obtain ⟨its, rv, hl, _⟩ := I.list hs
  rw [Vals.ref1 r]
  obtain ⟨u, rfl, ru⟩ := vals1 r2
  obtain ⟨t, rfl⟩ := ru
  exact MinD.rawD (I.ok.hd hc) hl.isList rv.ints fun g tk m t' hk h1 h2 => ⟨.int m, H, I.kept hk, ⟨_, rfl⟩, q m h1 h2⟩
end Bx
namespace Bx
open PySem PySem.Spec PyProof.Rows L2
/-! ### rules over the written part by its name -/
section
variable {X : Cx} {K : PySem.W.Frag}
theorem ix_tupK (h : X.K = K) : IxR X (rIxT K) := h ▸ ix_tup
theorem ix_listK (h : X.K = K) : IxR X (rIxL K) := h ▸ ix_list
theorem ix_seqK (h : X.K = K) : IxR X (rIx K) := h ▸ ix_seq
def rLen (K : PySem.W.Frag) : List V → Hp → VK → Prop := fun xs H Q => ∃ (p : Addr) (ys : List V), xs = [.ref p] ∧ (SqL K H p ys ∨ SqT K H p ys) ∧ Q (.int ys.length) H
theorem call_lenK (h : X.K = K) : CallR X (.builtin "len") (rLen K) := by
  subst h
  exact call_len_seq
def rTupOf (K : PySem.W.Frag) : List V → Hp → VK → Prop := fun xs H Q => ∃ (p : Addr) (ys : List V), xs = [.ref p] ∧ ((SqL K H p ys ∧ ∀ l, H l = none → Q (.ref l) (upd H l (.tup ys))) ∨ (SqT K H p ys ∧ Q (.ref p) H))
theorem call_tuple_ofK (h : X.K = K) : CallR X (.type "tuple") (rTupOf K) := by
  subst h
  exact call_tuple_of
def rLstOf (K : PySem.W.Frag) : List V → Hp → VK → Prop := fun xs H Q => ∃ (p : Addr) (ys : List V), xs = [.ref p] ∧ (SqL K H p ys ∨ SqT K H p ys) ∧ ∀ l, H l = none → Q (.ref l) (upd H l (.lst ys))
theorem call_list_ofK (h : X.K = K) : CallR X (.type "list") (rLstOf K) := by
  subst h
  exact call_list_of
end
end Bx
/-! ### heaps: what one list at d may lose, all else as it was -/
namespace Bx
open PySem PySem.Spec PyProof.Rows L2
def Kp (d : Addr) (H H' : Hp) : Prop := ∀ b o, b ≠ d → H b = some o → H' b = some o
theorem Kp.refl (d : Addr) (H : Hp) : Kp d H H := fun _ _ _ h => h
theorem Kp.trans {d : Addr} {H H1 H2 : Hp} (a : Kp d H H1) (b : Kp d H1 H2) : Kp d H H2 := fun c o n h => b c o n (a c o n h)
theorem Same.kp {d : Addr} {H H' : Hp} (s : Same H H') : Kp d H H' := fun b o _ h => s b o h
theorem Kp.own {d : Addr} {H : Hp} {o : HO} : Kp d H (upd H d o) := fun b _ n h => by rw [upd_ne n]; exact h
theorem same_new {H : Hp} {p : Addr} {o : HO} (h : H p = none) : Same H (upd H p o) := fun b x e => by
  rw [upd_ne (ne_of_none e h)]
  exact e
theorem Kp.new {d p : Addr} {H : Hp} {o : HO} (h : H p = none) : Kp d H (upd H p o) := Same.kp (same_new h)
theorem upd_self {H : Hp} {d : Addr} {o : HO} (h : H d = some o) : upd H d o = H := by
  funext b
  by_cases e : b = d
  · rw [e, upd_same, h]
  · rw [upd_ne e]
/-- a list of ints at d -/
def Ints (H : Hp) (d : Addr) (xs : List Int) : Prop := H d = some (.lst (xs.map V.int))
/-- the draws: some list of ints -/
def Drw (H : Hp) (d : Addr) : Prop := ∃ ds : List Int, H d = some (.lst (ds.map V.int))
theorem Drw.new {H : Hp} {d p : Addr} {o : HO} (h : Drw H d) (n : H p = none) : Drw (upd H p o) d := by
  obtain ⟨ds, e⟩ := h
  exact ⟨ds, same_new n _ _ e⟩
theorem Drw.own {H : Hp} {d : Addr} {ds : List Int} : Drw (upd H d (.lst (ds.map V.int))) d := ⟨ds, upd_same⟩
theorem Drw.same {H H' : Hp} {d : Addr} (h : Drw H d) (s : Same H H') : Drw H' d := by
  obtain ⟨ds, e⟩ := h
  exact ⟨ds, s _ _ e⟩
/-- a tuple of ints -/
def TupI (H : Hp) (a : Addr) (xs : List Int) : Prop := H a = some (.tup (xs.map V.int))
theorem Drw.ne_tup {H : Hp} {d a : Addr} {xs : List V} (h : Drw H d) (e : H a = some (.tup xs)) : a ≠ d := by
  obtain ⟨ds, e2⟩ := h
  exact ne_of e e2 (by intro z; cases z)
/-- a lasso: a pair of tuples of ints -/
def Las (H : Hp) (p : Addr) (h l : List Int) : Prop := ∃ a b, H p = some (.tup [.ref a, .ref b]) ∧ H a = some (.tup (h.map V.int)) ∧ H b = some (.tup (l.map V.int))
theorem Las.keep {H H' : Hp} {d p : Addr} {h l : List Int} (k : Kp d H H') (w : Drw H d) (x : Las H p h l) : Las H' p h l := by
  obtain ⟨a, b, e1, e2, e3⟩ := x
  exact ⟨a, b, k _ _ (w.ne_tup e1) e1, k _ _ (w.ne_tup e2) e2, k _ _ (w.ne_tup e3) e3⟩
theorem Las.same {H H' : Hp} {p : Addr} {h l : List Int} (k : Same H H') (x : Las H p h l) : Las H' p h l := by
  obtain ⟨a, b, e1, e2, e3⟩ := x
  exact ⟨a, b, k _ _ e1, k _ _ e2, k _ _ e3⟩
theorem lenI {xs : List Int} (h : xs.length ≤ 1000000) : (xs.map V.int).length < sizeLine := by
  rw [List.length_map]
  exact Nat.lt_of_le_of_lt h (by decide)
theorem ixN_at {n j : Nat} (h : j < n) : ixN n (j : Int) = some j := by
  unfold ixN
  rw [if_pos (by omega), if_pos (by omega)]
  rfl
theorem set_mapI {xs : List Int} {j : Nat} {v : Int} : (xs.map V.int).set j (.int v) = (xs.set j v).map V.int := by rw [List.map_set]
/-- a list or a tuple of ints -/
def SeqI (H : Hp) (a : Addr) (xs : List Int) : Prop := H a = some (.lst (xs.map V.int)) ∨ H a = some (.tup (xs.map V.int))
theorem SeqI.sq {K : PySem.W.Frag} {H : Hp} {a : Addr} {xs : List Int} (h : SeqI H a xs) : SqL K H a (xs.map V.int) ∨ SqT K H a (xs.map V.int) := by
  rcases h with h | h
  · exact .inl (.of h)
  · exact .inr (.of h)
theorem SeqI.same {H H' : Hp} {a : Addr} {xs : List Int} (k : Same H H') (h : SeqI H a xs) : SeqI H' a xs := by
  rcases h with h | h
  · exact .inl (k _ _ h)
  · exact .inr (k _ _ h)
/-- a pair of lists or tuples of ints -/
def Pr (H : Hp) (p : Addr) (h l : List Int) : Prop := ∃ a b, H p = some (.tup [.ref a, .ref b]) ∧ SeqI H a h ∧ SeqI H b l
theorem Las.pr {H : Hp} {p : Addr} {h l : List Int} (x : Las H p h l) : Pr H p h l := by
  obtain ⟨a, b, e1, e2, e3⟩ := x
  exact ⟨a, b, e1, .inr e2, .inr e3⟩
theorem Pr.same {H H' : Hp} {p : Addr} {h l : List Int} (k : Same H H') (x : Pr H p h l) : Pr H' p h l := by
  obtain ⟨a, b, e1, e2, e3⟩ := x
  exact ⟨a, b, k _ _ e1, e2.same k, e3.same k⟩
/-- an item -/
theorem ixq {K : PySem.W.Frag} {H : Hp} {a : Addr} {xs : List Int} {i : Int} {j : Nat} {v : V} {Q : VK} (h : SeqI H a xs) (ei : i = (j : Int)) (e : (xs.map V.int)[j]? = some v) (q : Q v H) : rIx K (.ref a) (.int i) H Q := by
  subst ei
  rcases h with h | h
  · exact .inl ⟨_, _, _, _, rfl, rfl, .of h, atI_nat e, q⟩
  · exact .inr (.inl ⟨_, _, _, _, rfl, rfl, .of h, atI_nat e, q⟩)
theorem ixq_last {K : PySem.W.Frag} {H : Hp} {a : Addr} {xs : List Int} {z : Int} {Q : VK} (h : SeqI H a xs) (e : xs.getLast? = some z) (q : Q (.int z) H) : rIx K (.ref a) (.int (-1)) H Q := by
  obtain ⟨ys, rfl⟩ := List.getLast?_eq_some_iff.mp e
  have g : atI ((ys ++ [z]).map V.int) (-1) = some (.int z) := by
    rw [List.map_append]
    exact atI_last _ _
  rcases h with h | h
  · exact .inl ⟨_, _, _, _, rfl, rfl, .of h, g, q⟩
  · exact .inr (.inl ⟨_, _, _, _, rfl, rfl, .of h, g, q⟩)
theorem at_map {xs : List Int} {j : Nat} (h : j < xs.length) : (xs.map V.int)[j]? = some (.int (xs.getD j 0)) := by
  rw [List.getElem?_map, List.getElem?_eq_getElem h, List.getD_eq_getElem?_getD, List.getElem?_eq_getElem h]
  rfl
/-! slices -/
section
variable {X : Cx} {K : PySem.W.Frag}
def rSlQ (K : PySem.W.Frag) : V → Option Int → Option Int → Hp → VK → Prop := fun x lo hi H Q => rSlL K x lo hi H Q ∨ rSlA K x lo hi H Q
theorem sl_seqK (h : X.K = K) : SlR X (rSlQ K) := by
  subst h
  exact sl_list.or sl_tupA
theorem sl_tupK (h : X.K = K) : SlR X (rSlA K) := by
  subst h
  exact sl_tupA
theorem sl_listK (h : X.K = K) : SlR X (rSlL K) := by
  subst h
  exact sl_list
theorem op_catK (h : X.K = K) : OpR X (binaryOp .Add) (rCatA K) := by
  subst h
  exact op_catA
theorem op_repTK (h : X.K = K) : OpR X (binaryOp .Mult) (rRepT K) := by
  subst h
  exact op_repT
theorem op_eqDK (h : X.K = K) (hu : X.A.units + 64 < cLine) : OpR X (compareOp .Eq) (rEqD K) := by
  subst h
  exact op_eqD hu
theorem op_neDK (h : X.K = K) (hu : X.A.units + 64 < cLine) : OpR X (compareOp .NotEq) (rNeD K) := by
  subst h
  exact op_neD hu
theorem call_minK (h : X.K = K) (hc : X.calm = true) : CallR X (.builtin "min") (rMin K) := by
  subst h
  exact cr_min hc
theorem call_isiK' (h : X.K = K) : CallR X (.builtin "isinstance") (rIsi K) := by
  subst h
  exact call_isi
end
theorem cut_map {xs : List Int} {lo hi : Option Int} : cutV (xs.map V.int) lo hi = ((xs.drop (HT.sIx xs.length 0 lo)).take (HT.sIx xs.length xs.length hi - HT.sIx xs.length 0 lo)).map V.int := by
  unfold cutV
  rw [List.length_map, List.map_take, List.map_drop]
/-- a slice of a tuple -/
theorem slt {K : PySem.W.Frag} {H : Hp} {a : Addr} {xs ys : List Int} {lo hi : Option Int} {Q : VK} (h : TupI H a xs) (e : (xs.drop (HT.sIx xs.length 0 lo)).take (HT.sIx xs.length xs.length hi - HT.sIx xs.length 0 lo) = ys)
    (q : ∀ (H' : Hp) (p : Addr), Same H H' → TupI H' p ys → Q (.ref p) H') : rSlA K (.ref a) lo hi H Q := by
  subst e
  refine ⟨a, _, rfl, .of h, fun w => ?_, fun _ p hp => q _ p (same_new hp) ?_⟩
  · refine q H a (Same.refl H) ?_
    rw [List.length_map] at w
    rw [w.1, w.2, List.drop_zero, Nat.sub_zero, List.take_length]
    exact h
  · unfold TupI
    rw [upd_same, cut_map]
/-- a slice of a list or tuple -/
theorem slq {K : PySem.W.Frag} {H : Hp} {a : Addr} {xs ys : List Int} {lo hi : Option Int} {Q : VK} (h : SeqI H a xs) (e : (xs.drop (HT.sIx xs.length 0 lo)).take (HT.sIx xs.length xs.length hi - HT.sIx xs.length 0 lo) = ys)
    (q : ∀ (H' : Hp) (p : Addr), Same H H' → SeqI H' p ys → Q (.ref p) H') : rSlQ K (.ref a) lo hi H Q := by
  rcases h with h | h
  · subst e
    refine .inl ⟨a, _, rfl, .of h, fun p hp => q _ p (same_new hp) (.inl ?_)⟩
    rw [upd_same, cut_map]
  · exact .inr (slt h e fun H' p s t => q H' p s (.inr t))
theorem cut_to (xs : List Int) (n : Nat) : (xs.drop (HT.sIx xs.length 0 none)).take (HT.sIx xs.length xs.length (some (n : Int)) - HT.sIx xs.length 0 none) = xs.take n := by
  rw [HT.sIx_none, HT.sIx_nat, List.drop_zero, Nat.sub_zero]
  rcases Nat.le_total n xs.length with c | c
  · rw [Nat.min_eq_left c]
  · rw [Nat.min_eq_right c, List.take_length, List.take_of_length_le c]
theorem cut_from (xs : List Int) {n : Nat} (hn : n ≤ xs.length) : (xs.drop (HT.sIx xs.length 0 (some (n : Int)))).take (HT.sIx xs.length xs.length none - HT.sIx xs.length 0 (some (n : Int))) = xs.drop n := by
  rw [HT.sIx_none, HT.sIx_nat, Nat.min_eq_left hn]
  exact List.take_of_length_le (by rw [List.length_drop]; exact Nat.le_refl _)
theorem slt_to {K : PySem.W.Frag} {H : Hp} {a : Addr} {xs : List Int} {k : Int} {n : Nat} {Q : VK} (h : TupI H a xs) (ek : k = (n : Int))
    (q : ∀ (H' : Hp) (p : Addr), Same H H' → TupI H' p (xs.take n) → Q (.ref p) H') : rSlA K (.ref a) none (some k) H Q := by
  subst ek
  exact slt h (cut_to xs n) q
theorem slt_from {K : PySem.W.Frag} {H : Hp} {a : Addr} {xs : List Int} {k : Int} {n : Nat} {Q : VK} (h : TupI H a xs) (ek : k = (n : Int)) (hn : n ≤ xs.length)
    (q : ∀ (H' : Hp) (p : Addr), Same H H' → TupI H' p (xs.drop n) → Q (.ref p) H') : rSlA K (.ref a) (some k) none H Q := by
  subst ek
  exact slt h (cut_from xs hn) q
theorem slq_to {K : PySem.W.Frag} {H : Hp} {a : Addr} {xs : List Int} {k : Int} {n : Nat} {Q : VK} (h : SeqI H a xs) (ek : k = (n : Int))
    (q : ∀ (H' : Hp) (p : Addr), Same H H' → SeqI H' p (xs.take n) → Q (.ref p) H') : rSlQ K (.ref a) none (some k) H Q := by
  subst ek
  exact slq h (cut_to xs n) q
theorem slq_mid {K : PySem.W.Frag} {H : Hp} {a : Addr} {xs : List Int} {k k2 : Int} {n m : Nat} {Q : VK} (h : SeqI H a xs) (ek : k = (n : Int)) (ek2 : k2 = (m : Int)) (hn : n ≤ xs.length) (hm : m ≤ xs.length)
    (q : ∀ (H' : Hp) (p : Addr), Same H H' → SeqI H' p ((xs.drop n).take (m - n)) → Q (.ref p) H') : rSlQ K (.ref a) (some k) (some k2) H Q := by
  subst ek
  subst ek2
  refine slq h ?_ q
  rw [HT.sIx_nat, HT.sIx_nat, Nat.min_eq_left hn, Nat.min_eq_left hm]
/-- tuple(x) -/
theorem tupq {K : PySem.W.Frag} {H : Hp} {a : Addr} {xs : List Int} {Q : VK} (h : SeqI H a xs) (q : ∀ (H' : Hp) (p : Addr), Same H H' → TupI H' p xs → Q (.ref p) H') : rTupOf K [.ref a] H Q := by
  rcases h with h | h
  · exact ⟨a, _, rfl, .inl ⟨.of h, fun p hp => q _ p (same_new hp) upd_same⟩⟩
  · exact ⟨a, _, rfl, .inr ⟨.of h, q H a (Same.refl H) h⟩⟩
/-- x + y of tuples -/
theorem catq {K : PySem.W.Frag} {H : Hp} {a b : Addr} {xs ys : List Int} {Q : VK} (h : TupI H a xs) (g : TupI H b ys) (hl : xs.length + ys.length ≤ 1000000) (q : ∀ (H' : Hp) (p : Addr), Same H H' → TupI H' p (xs ++ ys) → Q (.ref p) H') : rCatA K (.ref a) (.ref b) H Q := by
  refine ⟨a, b, _, _, rfl, rfl, .of h, .of g, ?_, fun z => ?_, fun _ z => ?_, fun _ _ p hp => ?_⟩
  · rw [List.length_map, List.length_map]
    exact Nat.le_trans hl (by decide)
  · have e : xs = [] := List.map_eq_nil_iff.mp z
    refine q H b (Same.refl H) ?_
    rw [e]
    exact g
  · have e : ys = [] := List.map_eq_nil_iff.mp z
    refine q H a (Same.refl H) ?_
    rw [e, List.append_nil]
    exact h
  · refine q _ p (same_new hp) ?_
    unfold TupI
    rw [upd_same, List.map_append]
/-- a slice of a list -/
theorem sll_from {K : PySem.W.Frag} {H : Hp} {a : Addr} {xs : List Int} {k : Int} {n : Nat} {Q : VK} (h : H a = some (.lst (xs.map V.int))) (ek : k = (n : Int)) (hn : n ≤ xs.length)
    (q : ∀ p, H p = none → Q (.ref p) (upd H p (.lst ((xs.drop n).map V.int)))) : rSlL K (.ref a) (some k) none H Q := by
  subst ek
  refine ⟨a, _, rfl, .of h, fun p hp => ?_⟩
  rw [cut_map, cut_from xs hn]
  exact q p hp
theorem sll_to {K : PySem.W.Frag} {H : Hp} {a : Addr} {xs : List Int} {k : Int} {n : Nat} {Q : VK} (h : H a = some (.lst (xs.map V.int))) (ek : k = (n : Int))
    (q : ∀ p, H p = none → Q (.ref p) (upd H p (.lst ((xs.take n).map V.int)))) : rSlL K (.ref a) none (some k) H Q := by
  subst ek
  refine ⟨a, _, rfl, .of h, fun p hp => ?_⟩
  rw [cut_map, cut_to xs n]
  exact q p hp
/-! == of data -/
theorem eqvAll_int : ∀ xs ys : List Int, PyData.eqvAll (xs.map PyData.int) (ys.map PyData.int) = decide (xs = ys)
  | [], [] => by simp [PyData.eqvAll]
  | [], y :: ys => by simp [PyData.eqvAll]
  | x :: xs, [] => by simp [PyData.eqvAll]
  | x :: xs, y :: ys => by
    rw [List.map_cons, List.map_cons, PyData.eqvAll, eqvAll_int xs ys, PyData.eqv]
    by_cases c : x = y
    · by_cases d : xs = ys
      · simp [c, d]
      · simp [c, d]
    · simp [c]
theorem eqv_tup (xs ys : List Int) : PyData.eqv (.tuple (xs.map PyData.int)) (.tuple (ys.map PyData.int)) = decide (xs = ys) := by
  rw [PyData.eqv]
  exact eqvAll_int xs ys
theorem eqv_lst (xs ys : List Int) : PyData.eqv (.list (xs.map PyData.int)) (.list (ys.map PyData.int)) = decide (xs = ys) := by
  rw [PyData.eqv]
  exact eqvAll_int xs ys
theorem layAll : ∀ xs : List Int, PyData.canLayAll0 (xs.map PyData.int) = true
  | [] => rfl
  | x :: xs => by
    rw [List.map_cons, PyData.canLayAll0, layAll xs]
    rfl
theorem depAll : ∀ xs : List Int, PyData.depthAll (xs.map PyData.int) = 0
  | [] => by simp [PyData.depthAll]
  | x :: xs => by
    rw [List.map_cons, PyData.depthAll, depAll xs]
    simp [PyData.depth]
theorem shaped_tup (xs : List Int) : SeqAt.shaped (.tuple (xs.map PyData.int)) = true := by
  unfold SeqAt.shaped
  rw [PyData.canLay0, layAll, PyData.depth, depAll]
  rfl
theorem shaped_lst (xs : List Int) : SeqAt.shaped (.list (xs.map PyData.int)) = true := by
  unfold SeqAt.shaped
  rw [PyData.canLay0, layAll, PyData.depth, depAll]
  rfl
theorem dpAll_int {K : PySem.W.Frag} {H : Hp} : ∀ xs : List Int, DpAll K H (xs.map V.int) (xs.map PyData.int)
  | [] => .nil
  | x :: xs => .cons (.int x) (dpAll_int xs)
theorem dp_lst {K : PySem.W.Frag} {H : Hp} {a : Addr} {xs : List Int} (h : H a = some (.lst (xs.map V.int))) : Dp K H (.ref a) (.list (xs.map PyData.int)) := .lst (.of h) (dpAll_int xs)
theorem dp_tup {K : PySem.W.Frag} {H : Hp} {a : Addr} {xs : List Int} (h : TupI H a xs) : Dp K H (.ref a) (.tuple (xs.map PyData.int)) := .tup (.of h) (dpAll_int xs)
theorem ite_ne {x y : Int} {A B : Prop} (h1 : x ≠ y → A) (h2 : x = y → B) : if (!decide (V.int x = V.int y)) = true then A else B := by
  by_cases c : x = y
  · rw [c, decide_eq_true rfl]
    exact iteF (h2 c)
  · rw [decide_eq_false (fun z => c (V.int.inj z))]
    exact iteT (h1 c)
theorem ite_eq {x y : Int} {A B : Prop} (h1 : x = y → A) (h2 : x ≠ y → B) : if decide (V.int x = V.int y) = true then A else B := by
  by_cases c : x = y
  · rw [c, decide_eq_true rfl]
    exact iteT (h1 c)
  · rw [decide_eq_false (fun z => c (V.int.inj z))]
    exact iteF (h2 c)
theorem ite_lt {x y : Int} {A B : Prop} (h1 : x < y → A) (h2 : y ≤ x → B) : if decide (x < y) = true then A else B := by
  by_cases c : x < y
  · rw [decide_eq_true c]
    exact iteT (h1 c)
  · rw [decide_eq_false c]
    exact iteF (h2 (by omega))
/-! ### the letters of a word -/
def wat (h l : List Int) (t : Nat) : Int := if t < h.length then h.getD t 0 else l.getD ((t - h.length) % l.length) 0
theorem wat_head {h l : List Int} {t : Nat} (c : t < h.length) : (h.map V.int)[t]? = some (.int (wat h l t)) := by
  unfold wat
  rw [if_pos c, List.getElem?_map, List.getElem?_eq_getElem c, List.getD_eq_getElem?_getD, List.getElem?_eq_getElem c]
  rfl
theorem wat_loop {h l : List Int} {t : Nat} (c : ¬ t < h.length) (n : l ≠ []) : (l.map V.int)[(t - h.length) % l.length]? = some (.int (wat h l t)) := by
  have hl : 0 < l.length := List.length_pos_iff.mpr n
  have c2 : (t - h.length) % l.length < l.length := Nat.mod_lt _ hl
  unfold wat
  rw [if_neg c, List.getElem?_map, List.getElem?_eq_getElem c2, List.getD_eq_getElem?_getD, List.getElem?_eq_getElem c2]
  rfl
theorem ix_mod {t n m : Nat} (h : n ≤ t) : ((t : Int) - (n : Int)) % (m : Int) = (((t - n) % m : Nat) : Int) := by
  have e : ((t : Int) - (n : Int)) = ((t - n : Nat) : Int) := by omega
  rw [e]
  rfl
/-! ### promises of the helpers -/
def spTake : Sp := fun vs H Q _ => ∃ (d : Addr) (n : Int), vs = [.ref d, .int n] ∧ Drw H d ∧ 0 < n ∧
  ∀ (r : Int) (ds : List Int), 0 ≤ r → r < n → Q (.int r) (upd H d (.lst (ds.map V.int)))
def spDraws (K : PySem.W.Frag) : Sp := fun vs H Q _ => ∃ (a : Addr) (ns : List Int) (c : Nat), vs = [.ref a, .int c] ∧ SqL K H a (ns.map V.int) ∧ c ≤ 1000 ∧
  ∀ (H' : Hp) (d : Addr), Same H H' → H d = none → Drw H' d → Q (.ref d) H'
def spAt : Sp := fun vs H Q _ => ∃ (p : Addr) (h l : List Int) (t : Nat), vs = [.ref p, .int t] ∧ Pr H p h l ∧ l ≠ [] ∧ Q (.int (wat h l t)) H
def spLasso : Sp := fun vs H Q _ => ∃ (d : Addr) (n : Int) (m : Nat), vs = [.ref d, .int n, .int m] ∧ Drw H d ∧ 0 < n ∧ 0 < m ∧ m ≤ 1000 ∧
  ∀ (H' : Hp) (p : Addr) (h l : List Int), Kp d H H' → Drw H' d → Las H' p h l → h.length ≤ m → l ≠ [] → l.length ≤ m → (∀ x ∈ h, 0 ≤ x ∧ x < n) → (∀ x ∈ l, 0 ≤ x ∧ x < n) → Q (.ref p) H'
/-- v says where f and g first differ below n -/
def IsDiff (f g : Nat → Int) (n : Nat) (v : V) : Prop := (v = .non ∧ ∀ t < n, f t = g t) ∨ ∃ t, t < n ∧ v = .int (t : Nat) ∧ f t ≠ g t ∧ ∀ s < t, f s = g s
theorem IsDiff.uniq {f g : Nat → Int} {n : Nat} {v u : V} (a : IsDiff f g n v) (b : IsDiff f g n u) : v = u := by
  rcases a with ⟨rfl, a⟩ | ⟨t, ht, rfl, a1, a2⟩
  · rcases b with ⟨rfl, b⟩ | ⟨s, hs, rfl, b1, b2⟩
    · rfl
    · exact absurd (a s hs) b1
  · rcases b with ⟨rfl, b⟩ | ⟨s, hs, rfl, b1, b2⟩
    · exact absurd (b t ht) a1
    · rcases Nat.lt_trichotomy t s with c | c | c
      · exact absurd (b2 t c) a1
      · rw [c]
      · exact absurd (a2 s c) b1
theorem IsDiff.swap {f g : Nat → Int} {n : Nat} {v : V} (a : IsDiff f g n v) : IsDiff g f n v := by
  rcases a with ⟨rfl, a⟩ | ⟨t, ht, rfl, a1, a2⟩
  · exact .inl ⟨rfl, fun t h => (a t h).symm⟩
  · exact .inr ⟨t, ht, rfl, a1.symm, fun s h => (a2 s h).symm⟩
def dfn (h1 l1 h2 l2 : List Int) : Nat := max h1.length h2.length + l1.length + l2.length
def spFd : Sp := fun vs H Q _ => ∃ (p q : Addr) (h1 l1 h2 l2 : List Int), vs = [.ref p, .ref q] ∧ Las H p h1 l1 ∧ Las H q h2 l2 ∧ l1 ≠ [] ∧ l2 ≠ [] ∧ dfn h1 l1 h2 l2 ≤ 1000000 ∧
  ∀ v, IsDiff (wat h1 l1) (wat h2 l2) (dfn h1 l1 h2 l2) v → Q v H
theorem max_if (a b : Nat) : (if ((b : Nat) : Int) > (a : Int) then (b : Int) else (a : Int)) = ((max a b : Nat) : Int) := by
  by_cases h : ((b : Nat) : Int) > (a : Int)
  · rw [if_pos h]
    omega
  · rw [if_neg h]
    omega
/-- the letters of a list, by places -/
def lw (l : List Int) : Nat → Int := fun i => l.getD i 0
def spPeriod : Sp := fun vs H Q _ => ∃ (a : Addr) (l : List Int), vs = [.ref a] ∧ SeqI H a l ∧ l ≠ [] ∧ l.length ≤ 1000000 ∧
  ∀ (H' : Hp) (r : Nat), Same H H' → Wd.Least (lw l) l.length r → Q (.int r) H'
/-- the normal form (h', l') of (h, l) -/
structure Short (h l h' l' : List Int) : Prop where
  ne : l' ≠ []
  same : ∀ t, wat h' l' t = wat h l t
  hl : h'.length ≤ h.length
  ll : l'.length ≤ l.length
  last : h' ≠ [] → h'.getLast? ≠ l'.getLast?
  prim : ∀ p, 0 < p → p < l'.length → p ∣ l'.length → ∃ i, i + p < l'.length ∧ lw l' i ≠ lw l' (i + p)
  memH : ∀ x ∈ h', x ∈ h
  memL : ∀ x ∈ l', x ∈ l
/-- the letter of the repeated word at any whole number of turns from where it begins -/
def bk (l : List Int) (r : Nat) (z : Int) : Int := lw l ((z % (r : Int)).toNat)
def rot (l : List Int) (r c : Nat) : List Int := (l.drop c).take (r - c) ++ l.take c
theorem rot_len {l : List Int} {r c : Nat} (hc : c < r) (hr : r ≤ l.length) : (rot l r c).length = r := by
  unfold rot
  rw [List.length_append, List.length_take, List.length_drop, List.length_take]
  omega
theorem lw_get {l : List Int} {i : Nat} (h : i < l.length) : l[i]? = some (lw l i) := by
  unfold lw
  rw [List.getD_eq_getElem?_getD, List.getElem?_eq_getElem h]
  rfl
theorem lw_of {l : List Int} {i : Nat} {x : Int} (h : l[i]? = some x) : lw l i = x := by
  unfold lw
  rw [List.getD_eq_getElem?_getD, h]
  rfl
theorem rot_at {l : List Int} {r c j : Nat} (hc : c < r) (hr : r ≤ l.length) (hj : j < r) : lw (rot l r c) j = lw l ((j + c) % r) := by
  apply lw_of
  unfold rot
  have e1 : ((l.drop c).take (r - c)).length = r - c := by
    rw [List.length_take, List.length_drop]
    omega
  rcases Nat.lt_or_ge j (r - c) with h | h
  · rw [List.getElem?_append_left (by rw [e1]; exact h), List.getElem?_take, if_pos h, List.getElem?_drop, Nat.mod_eq_of_lt (by omega), Nat.add_comm c j]
    exact lw_get (by omega)
  · rw [List.getElem?_append_right (by rw [e1]; exact h), e1, List.getElem?_take, if_pos (by omega)]
    have e2 : (j + c) % r = j - (r - c) := by
      rw [Nat.mod_eq_sub_mod (by omega), Nat.mod_eq_of_lt (by omega)]
      omega
    rw [e2]
    exact lw_get (by omega)
theorem bk_shift {l : List Int} {r : Nat} {a b z : Int} (h : a = b + r * z) : bk l r a = bk l r b := by
  unfold bk
  rw [h, Int.add_mul_emod_self_left]
theorem bk_nat {l : List Int} {r t : Nat} : bk l r (t : Int) = lw l (t % r) := rfl
theorem least_le {w : Nat → Int} {n r : Nat} (hn : 0 < n) (L : Wd.Least w n r) : r ≤ n := Nat.le_of_dvd hn L.dvd
/-- the letters of l repeated, by the least repetition -/
theorem cyc_least {l : List Int} {r : Nat} (hn : 0 < l.length) (L : Wd.Least (lw l) l.length r) (i : Nat) : lw l (i % l.length) = bk l r (i : Int) := by
  have h1 : Wd.cyc (lw l) l.length i = Wd.cyc (lw l) l.length (i % r) := L.rp.mod
  have h2 : Wd.cyc (lw l) l.length (i % r) = lw l (i % r) := Wd.cyc_lt (Nat.lt_of_lt_of_le (Nat.mod_lt _ L.pos) (least_le hn L))
  rw [bk_nat, ← h2, ← h1]
  rfl
theorem cut_lt {r : Nat} (hr : 0 < r) (z : Int) : (z % (r : Int)).toNat < r := by
  have h1 := Int.emod_nonneg z (show (r : Int) ≠ 0 by omega)
  have h2 := Int.emod_lt_of_pos z (show (0 : Int) < (r : Int) by omega)
  omega
theorem cut_int {r : Nat} (hr : 0 < r) (z : Int) : (((z % (r : Int)).toNat : Nat) : Int) = z - r * (z / r) := by
  have h1 := Int.emod_nonneg z (show (r : Int) ≠ 0 by omega)
  rw [Int.toNat_of_nonneg h1, Int.emod_def]
theorem rot_bk {l : List Int} {r : Nat} (hr0 : 0 < r) (hr : r ≤ l.length) (z : Int) (j : Nat) : lw (rot l r (z % (r : Int)).toNat) (j % r) = bk l r ((j : Int) + z) := by
  rw [rot_at (cut_lt hr0 z) hr (Nat.mod_lt _ hr0), Nat.mod_add_mod]
  have h : bk l r (((j + (z % (r : Int)).toNat : Nat)) : Int) = bk l r ((j : Int) + z) := bk_shift (z := -(z / r)) (by
    rw [Int.natCast_add, cut_int hr0, Int.mul_neg]
    omega)
  rw [← h]
  rfl
theorem short_of {h l : List Int} {r k : Nat} (hne : l ≠ []) (L : Wd.Least (lw l) l.length r) (hk : k ≤ h.length)
    (hB : ∀ t, k ≤ t → t < h.length → lw h t = bk l r ((t : Int) - (h.length : Int))) (hX : k = 0 ∨ lw h (k - 1) ≠ bk l r ((k : Int) - 1 - (h.length : Int))) :
    Short h l (h.take k) (rot l r (((k : Int) - (h.length : Int)) % (r : Int)).toNat) := by
  have hn : 0 < l.length := List.length_pos_iff.mpr hne
  have hr0 := L.pos
  have hr := least_le hn L
  have hlen := rot_len (cut_lt hr0 ((k : Int) - (h.length : Int))) hr
  have htk : (h.take k).length = k := by
    rw [List.length_take]
    omega
  refine ⟨fun z => ?_, fun t => ?_, by rw [htk]; exact hk, by rw [hlen]; exact hr, fun hh => ?_, fun p hp hpl hpd => ?_, fun x hx => List.mem_of_mem_take hx, fun x hx => ?_⟩
  · rw [z] at hlen
    have : (0 : Nat) = r := hlen
    omega
  · unfold wat
    rw [htk, hlen]
    by_cases c : t < k
    · rw [if_pos c, if_pos (by omega), List.getD_eq_getElem?_getD, List.getD_eq_getElem?_getD, List.getElem?_take, if_pos c]
    · rw [if_neg c]
      have e1 := rot_bk (l := l) hr0 hr ((k : Int) - (h.length : Int)) (t - k)
      have e2 : ((t - k : Nat) : Int) + ((k : Int) - (h.length : Int)) = (t : Int) - (h.length : Int) := by omega
      rw [e2] at e1
      show lw _ _ = _
      rw [e1]
      by_cases d : t < h.length
      · rw [if_pos d]
        exact (hB t (by omega) d).symm
      · rw [if_neg d]
        have e3 : (t : Int) - (h.length : Int) = ((t - h.length : Nat) : Int) := by omega
        rw [e3]
        exact (cyc_least hn L _).symm
  · have hk0 : k ≠ 0 := fun z => hh (by rw [z]; rfl)
    rcases hX with z | z
    · exact absurd z hk0
    · rw [List.getLast?_eq_getElem?, List.getLast?_eq_getElem?, htk, hlen]
      rw [List.getElem?_take, if_pos (by omega), lw_get (show k - 1 < h.length by omega), lw_get (show r - 1 < (rot l r _).length by rw [hlen]; omega)]
      intro q
      refine z ?_
      rw [Option.some.inj q]
      have e1 := rot_bk (l := l) hr0 hr ((k : Int) - (h.length : Int)) (r - 1)
      rw [Nat.mod_eq_of_lt (show r - 1 < r by omega)] at e1
      rw [e1]
      exact bk_shift (z := 1) (by omega)
  · rw [hlen] at hpl hpd ⊢
    apply Classical.byContradiction
    intro hno
    have hall : ∀ i, i + p < r → lw (rot l r (((k : Int) - (h.length : Int)) % (r : Int)).toNat) i = lw (rot l r (((k : Int) - (h.length : Int)) % (r : Int)).toNat) (i + p) := fun i hi =>
      Classical.byContradiction fun q => hno ⟨i, hi, q⟩
    have hrp := Wd.rp_of hp hpd hr0 hall
    have key : ∀ i, Wd.cyc (lw l) l.length i = Wd.cyc (lw (rot l r (((k : Int) - (h.length : Int)) % (r : Int)).toNat)) r (i + (r - (((k : Int) - (h.length : Int)) % (r : Int)).toNat)) := by
      intro i
      have hc := cut_lt hr0 ((k : Int) - (h.length : Int))
      have a1 : Wd.cyc (lw l) l.length i = bk l r (i : Int) := cyc_least hn L i
      have a2 := rot_at hc hr (Nat.mod_lt (i + (r - (((k : Int) - (h.length : Int)) % (r : Int)).toNat)) hr0)
      rw [a1]
      show _ = lw _ (_ % r)
      rw [a2, Nat.mod_add_mod, show i + (r - (((k : Int) - (h.length : Int)) % (r : Int)).toNat) + (((k : Int) - (h.length : Int)) % (r : Int)).toNat = i + r by omega, Nat.add_mod_right]
      rfl
    have hR : Wd.Rp (lw l) l.length p := fun i => by
      rw [key, key, Nat.add_right_comm]
      exact hrp _
    have := L.min p hp (Nat.dvd_trans hpd L.dvd) hR
    omega
  · unfold rot at hx
    rcases List.mem_append.mp hx with z | z
    · exact List.mem_of_mem_drop (List.mem_of_mem_take z)
    · exact List.mem_of_mem_take z
theorem rp_mod {w : Nat → Int} {n p q : Nat} (hp : Wd.Rp w n p) (hq : Wd.Rp w n q) : Wd.Rp w n (q % p) := fun i => by
  have a := hp.mul (q / p) (i + q % p)
  rw [Nat.mul_comm, Nat.add_assoc, Nat.mod_add_div] at a
  rw [← a]
  exact hq i
theorem rp_gcd {w : Nat → Int} {n : Nat} (p q : Nat) : Wd.Rp w n p → Wd.Rp w n q → Wd.Rp w n (Nat.gcd p q) := by
  induction p, q using Nat.gcd.induction with
  | H0 q => intro _ hq; rw [Nat.gcd_zero_left]; exact hq
  | H1 p q hp ih => intro h1 h2; rw [Nat.gcd_rec]; exact ih (rp_mod h1 h2) h1
/-- the normal form -/
structure Nrm (h l : List Int) : Prop where
  ne : l ≠ []
  last : h ≠ [] → h.getLast? ≠ l.getLast?
  prim : ∀ p, 0 < p → p < l.length → p ∣ l.length → ∃ i, i + p < l.length ∧ lw l i ≠ lw l (i + p)
theorem Short.nrm {h l h' l' : List Int} (s : Short h l h' l') : Nrm h' l' := ⟨s.ne, s.last, s.prim⟩
theorem Nrm.pos {h l : List Int} (N : Nrm h l) : 0 < l.length := List.length_pos_iff.mpr N.ne
theorem wat_cyc {h l : List Int} {t : Nat} (c : h.length ≤ t) : wat h l t = Wd.cyc (lw l) l.length (t - h.length) := by
  unfold wat
  rw [if_neg (by omega)]
  rfl
/-- every period that the word has from some turn on is a multiple of the loop's length -/
theorem Nrm.dvd {h l : List Int} (N : Nrm h l) {p M : Nat} (hP : ∀ t, M ≤ t → wat h l (t + p) = wat h l t) : l.length ∣ p := by
  have hr := N.pos
  have hRp : Wd.Rp (lw l) l.length p := fun i => by
    have self := Wd.rp_self (lw l) l.length
    have e1 := self.mul M i
    have e2 := self.mul M (i + p)
    have hM : M ≤ M * l.length := Nat.le_mul_of_pos_right M hr
    have q := hP (h.length + (i + M * l.length)) (by omega)
    rw [wat_cyc (by omega), wat_cyc (by omega)] at q
    rw [show h.length + (i + M * l.length) + p - h.length = i + p + M * l.length by omega, show h.length + (i + M * l.length) - h.length = i + M * l.length by omega, e1, e2] at q
    exact q
  have hg := rp_gcd p l.length hRp (Wd.rp_self (lw l) l.length)
  have gd : Nat.gcd p l.length ∣ l.length := Nat.gcd_dvd_right p l.length
  have gp : 0 < Nat.gcd p l.length := Nat.gcd_pos_of_pos_right p hr
  have gl := Nat.le_of_dvd hr gd
  rcases Nat.lt_or_ge (Nat.gcd p l.length) l.length with c | c
  · obtain ⟨i, hi, hne⟩ := N.prim _ gp c gd
    refine absurd ?_ hne
    have := hg i
    rw [Wd.cyc_lt hi, Wd.cyc_lt (by omega)] at this
    exact this.symm
  · have e : Nat.gcd p l.length = l.length := by omega
    rw [← e]
    exact Nat.gcd_dvd_left p l.length
theorem wat_per {h l : List Int} {t : Nat} (c : h.length ≤ t) : wat h l (t + l.length) = wat h l t := by
  rw [wat_cyc c, wat_cyc (by omega), show t + l.length - h.length = (t - h.length) + l.length by omega]
  exact Wd.rp_self (lw l) l.length _
theorem last_at {l : List Int} (n : l ≠ []) : l.getLast? = some (lw l (l.length - 1)) := by
  have := List.length_pos_iff.mpr n
  rw [List.getLast?_eq_getElem?]
  exact lw_get (by omega)
theorem Nrm.head_le {h l g m : List Int} (N : Nrm h l) (hs : ∀ t, wat h l t = wat g m t) (e : l.length = m.length) : h.length ≤ g.length := by
  rcases Nat.lt_or_ge g.length h.length with c | c
  · exfalso
    have hne : h ≠ [] := List.length_pos_iff.mp (by omega)
    refine N.last hne ?_
    rw [last_at hne, last_at N.ne]
    congr 1
    have hp := N.pos
    have a1 : wat h l (h.length - 1) = lw h (h.length - 1) := by
      unfold wat
      rw [if_pos (by omega)]
      rfl
    have a2 : wat h l (h.length - 1 + l.length) = lw l (l.length - 1) := by
      rw [wat_cyc (by omega), show h.length - 1 + l.length - h.length = l.length - 1 by omega, Wd.cyc_lt (by omega)]
    rw [← a1, ← a2, hs, hs, e]
    exact (wat_per (by omega)).symm
  · exact c
theorem Nrm.uniq {h l g m : List Int} (N : Nrm h l) (M : Nrm g m) (hs : ∀ t, wat h l t = wat g m t) : h = g ∧ l = m := by
  have d1 : l.length ∣ m.length := N.dvd (M := g.length) fun t ht => by
    rw [hs, hs]
    exact wat_per ht
  have d2 : m.length ∣ l.length := M.dvd (M := h.length) fun t ht => by
    rw [← hs, ← hs]
    exact wat_per ht
  have e : l.length = m.length := Nat.dvd_antisymm d1 d2
  have e2 : h.length = g.length := Nat.le_antisymm (N.head_le hs e) (M.head_le (fun t => (hs t).symm) e.symm)
  refine ⟨List.ext_getElem e2 fun i h1 h2 => ?_, List.ext_getElem e fun i h1 h2 => ?_⟩
  · have := hs i
    unfold wat at this
    rw [if_pos h1, if_pos h2, List.getD_eq_getElem?_getD, List.getD_eq_getElem?_getD, List.getElem?_eq_getElem h1, List.getElem?_eq_getElem h2] at this
    exact this
  · have := hs (h.length + i)
    rw [wat_cyc (by omega), wat_cyc (by omega), show h.length + i - h.length = i by omega, show h.length + i - g.length = i by omega, Wd.cyc_lt h1, Wd.cyc_lt h2] at this
    have a1 := lw_get h1
    have a2 := lw_get h2
    rw [List.getElem?_eq_getElem h1] at a1
    rw [List.getElem?_eq_getElem h2] at a2
    rw [Option.some.inj a1, Option.some.inj a2, this]
theorem at_last {l : List Int} (n : l ≠ []) : atI (l.map V.int) (-1) = some (.int (lw l (l.length - 1))) := by
  have hp := List.length_pos_iff.mpr n
  have e : l.map V.int = (l.dropLast.map V.int) ++ [.int (l.getLast n)] := by
    rw [← List.map_singleton, ← List.map_append, List.dropLast_concat_getLast]
  rw [e, atI_last]
  have q := last_at n
  rw [List.getLast?_eq_getLast n] at q
  rw [Option.some.inj q]
/-! repetition of a text -/
theorem flat_at {w : List Int} : ∀ (k i : Nat), i < k * w.length → (List.replicate k w).flatten[i]? = w[i % w.length]?
  | 0, i, h => by
    rw [Nat.zero_mul] at h
    exact absurd h (Nat.not_lt_zero i)
  | k + 1, i, h => by
    rw [List.replicate_succ, List.flatten_cons]
    rcases Nat.lt_or_ge i w.length with c | c
    · rw [List.getElem?_append_left c, Nat.mod_eq_of_lt c]
    · rw [List.getElem?_append_right c, flat_at k (i - w.length) (by rw [Nat.succ_mul] at h; omega), ← Nat.mod_eq_sub_mod c]
theorem flat_per {l : List Int} {p k : Nat} (hp : 0 < p) (hpl : p ≤ l.length) (e : l = (List.replicate k (l.take p)).flatten) (hk : k * p = l.length) : ∀ i, i + p < l.length → lw l i = lw l (i + p) := by
  intro i hi
  have el : (l.take p).length = p := by
    rw [List.length_take]
    omega
  have at_ : ∀ j, j < l.length → l[j]? = (l.take p)[j % p]? := fun j hj => by
    have h0 := flat_at (w := l.take p) k j (by rw [el, hk]; exact hj)
    rw [← e, el] at h0
    exact h0
  have h1 := at_ i (by omega)
  have h2 := at_ (i + p) hi
  rw [Nat.add_mod_right, ← h1, lw_get hi, lw_get (show i < l.length by omega)] at h2
  exact (Option.some.inj h2).symm
def spShort : Sp := fun vs H Q _ => ∃ (a b : Addr) (h l : List Int), vs = [.ref a, .ref b] ∧ SeqI H a h ∧ SeqI H b l ∧ l ≠ [] ∧ h.length ≤ 100000 ∧ l.length ≤ 100000 ∧
  ∀ (H' : Hp) (p : Addr) (h' l' : List Int), Same H H' → Las H' p h' l' → Short h l h' l' → Q (.ref p) H'
/-- what suffix hands back -/
def Suf (h l : List Int) (t : Nat) (h' l' : List Int) : Prop := Nrm h' l' ∧ (∀ i, wat h' l' i = wat h l (t + i)) ∧ h'.length ≤ h.length ∧ l'.length ≤ l.length ∧ (∀ x ∈ h', x ∈ h ∨ x ∈ l) ∧ ∀ x ∈ l', x ∈ l
def spSuffix : Sp := fun vs H Q _ => ∃ (p : Addr) (h l : List Int) (t : Nat), vs = [.ref p, .int t] ∧ Las H p h l ∧ l ≠ [] ∧ h.length ≤ 50000 ∧ l.length ≤ 50000 ∧
  ∀ (H' : Hp) (p' : Addr) (h' l' : List Int), Same H H' → Las H' p' h' l' → Suf h l t h' l' → Q (.ref p') H'
def spMake : Sp := fun vs H Q _ => ∃ (a b : Addr) (h l : List Int), vs = [.ref a, .ref b] ∧ H a = some (.lst (h.map V.int)) ∧ H b = some (.lst (l.map V.int)) ∧ l ≠ [] ∧ h.length ≤ 100000 ∧ l.length ≤ 100000 ∧ (∀ x ∈ h, 0 ≤ x) ∧ (∀ x ∈ l, 0 ≤ x) ∧
  ∀ (H' : Hp) (p : Addr) (h' l' : List Int), Same H H' → Las H' p h' l' → Short h l h' l' → Q (.ref p) H'
theorem suf_drop {h l : List Int} {t : Nat} (c : t < h.length) (i : Nat) : wat (h.drop t) l i = wat h l (t + i) := by
  unfold wat
  rw [List.length_drop]
  by_cases d : t + i < h.length
  · rw [if_pos d, if_pos (by omega), List.getD_eq_getElem?_getD, List.getD_eq_getElem?_getD, List.getElem?_drop]
  · rw [if_neg d, if_neg (by omega), show t + i - h.length = i - (h.length - t) by omega]
theorem suf_turn {h l : List Int} {t : Nat} (hn : l ≠ []) (c : h.length ≤ t) (i : Nat) : wat [] (l.drop ((t - h.length) % l.length) ++ l.take ((t - h.length) % l.length)) i = wat h l (t + i) := by
  have hp : 0 < l.length := List.length_pos_iff.mpr hn
  have hc := Nat.mod_lt (t - h.length) hp
  have e : l.drop ((t - h.length) % l.length) ++ l.take ((t - h.length) % l.length) = rot l l.length ((t - h.length) % l.length) := by
    have e3 : (l.drop ((t - h.length) % l.length)).take (l.length - (t - h.length) % l.length) = l.drop ((t - h.length) % l.length) := List.take_of_length_le (by rw [List.length_drop]; exact Nat.le_refl _)
    unfold rot
    rw [e3]
  rw [e, wat_cyc (Nat.zero_le _), wat_cyc (show h.length ≤ t + i by omega), rot_len hc (Nat.le_refl _)]
  show lw _ (_ % _) = lw _ (_ % _)
  rw [rot_at hc (Nat.le_refl _) (Nat.mod_lt _ hp), Nat.mod_add_mod, Nat.add_mod_mod]
  congr 2
  show i - 0 + _ = _
  omega
def spInts : Sp := fun vs H Q _ => ∃ (a : Addr) (xs : List Int) (lo hi : Int), vs = [.ref a, .int lo, .int hi] ∧ TupI H a xs ∧ (∀ x ∈ xs, lo ≤ x ∧ x < hi) ∧ Q (.bl true) H
def spNormal : Sp := fun vs H Q _ => ∃ (p : Addr) (h l : List Int), vs = [.ref p] ∧ Las H p h l ∧ Nrm h l ∧ l.length ≤ 1000 ∧ ∀ H', Same H H' → Q (.bl true) H'
def spIsLasso : Sp := fun vs H Q _ => ∃ (p : Addr) (h l : List Int) (n : Int), vs = [.ref p, .int n] ∧ Las H p h l ∧ Nrm h l ∧ l.length ≤ 1000 ∧ (∀ x ∈ h, 0 ≤ x ∧ x < n) ∧ (∀ x ∈ l, 0 ≤ x ∧ x < n) ∧ ∀ H', Same H H' → Q (.bl true) H'
/-! the same word in other forms -/
theorem wat_mem {h l : List Int} (n : l ≠ []) (t : Nat) : wat h l t ∈ h ∨ wat h l t ∈ l := by
  have hl : 0 < l.length := List.length_pos_iff.mpr n
  unfold wat
  by_cases c : t < h.length
  · rw [if_pos c, List.getD_eq_getElem?_getD, List.getElem?_eq_getElem c]
    exact .inl (List.getElem_mem c)
  · have c2 := Nat.mod_lt (t - h.length) hl
    rw [if_neg c, List.getD_eq_getElem?_getD, List.getElem?_eq_getElem c2]
    exact .inr (List.getElem_mem c2)
theorem range_getD {f : Nat → Int} {n t : Nat} (c : t < n) : ((List.range n).map f).getD t 0 = f t := by
  rw [List.getD_eq_getElem?_getD, List.getElem?_map, List.getElem?_range c]
  rfl
theorem wat_form {h l : List Int} {m k : Nat} (n : l ≠ []) (hk : 0 < k) (t : Nat) :
    wat ((List.range (h.length + m)).map (wat h l)) ((List.range (k * l.length)).map fun t => wat h l (h.length + m + t)) t = wat h l t := by
  have hl : 0 < l.length := List.length_pos_iff.mpr n
  have hkl : 0 < k * l.length := Nat.mul_pos hk hl
  rw [show wat ((List.range (h.length + m)).map (wat h l)) ((List.range (k * l.length)).map fun t => wat h l (h.length + m + t)) t
      = if t < ((List.range (h.length + m)).map (wat h l)).length then ((List.range (h.length + m)).map (wat h l)).getD t 0 else ((List.range (k * l.length)).map fun t => wat h l (h.length + m + t)).getD ((t - ((List.range (h.length + m)).map (wat h l)).length) % ((List.range (k * l.length)).map fun t => wat h l (h.length + m + t)).length) 0 from rfl]
  rw [List.length_map, List.length_range, List.length_map, List.length_range]
  by_cases c : t < h.length + m
  · rw [if_pos c, range_getD c]
  · rw [if_neg c, range_getD (Nat.mod_lt _ hkl), wat_cyc (by omega), wat_cyc (by omega)]
    show lw l (_ % _) = lw l (_ % _)
    congr 1
    have e1 : h.length + m + (t - (h.length + m)) % (k * l.length) - h.length = m + (t - (h.length + m)) % (k * l.length) := by omega
    have e2 : t - h.length = m + (t - (h.length + m)) := by omega
    rw [e1, e2, ← Nat.add_mod_mod, Nat.mod_mod_of_dvd _ ⟨k, Nat.mul_comm k l.length⟩, Nat.add_mod_mod]
theorem wat_front (f h l : List Int) (i : Nat) : wat (f ++ h) l (f.length + i) = wat h l i := by
  unfold wat
  rw [List.length_append]
  by_cases c : i < h.length
  · rw [if_pos c, if_pos (by omega), List.getD_eq_getElem?_getD, List.getD_eq_getElem?_getD, List.getElem?_append_right (by omega), Nat.add_sub_cancel_left]
  · rw [if_neg c, if_neg (by omega), show f.length + i - (f.length + h.length) = i - h.length by omega]
def dLas (h l : List Int) : PyData := .tuple [.tuple (h.map PyData.int), .tuple (l.map PyData.int)]
theorem dp_las {K : PySem.W.Frag} {H : Hp} {p : Addr} {h l : List Int} (x : Las H p h l) : Dp K H (.ref p) (dLas h l) := by
  obtain ⟨a, b, e1, e2, e3⟩ := x
  exact .tup (.of e1) (.cons (dp_tup e2) (.cons (dp_tup e3) .nil))
theorem shaped_las (h l : List Int) : SeqAt.shaped (dLas h l) = true := by
  unfold SeqAt.shaped dLas
  rw [PyData.canLay0, PyData.canLayAll0, PyData.canLayAll0, PyData.canLayAll0, PyData.canLay0, layAll, PyData.canLay0, layAll, PyData.depth, PyData.depthAll, PyData.depthAll, PyData.depthAll, PyData.depth, depAll, PyData.depth, depAll]
  rfl
theorem eqv_las (h l : List Int) : PyData.eqv (dLas h l) (dLas h l) = true := by
  unfold dLas
  rw [PyData.eqv, PyData.eqvAll, PyData.eqvAll, PyData.eqvAll, eqv_tup, eqv_tup]
  simp
def spCell (K : PySem.W.Frag) : Sp := fun vs H Q _ => ∃ (a : Addr) (ns : List Int) (k : Nat), vs = [.ref a, .int k] ∧ SqL K H a (ns.map V.int) ∧ ∀ v : Int, Q (.int v) H
def spNegX (C : Addr) : Sp := fun vs H _ E => ∃ (p : Addr) (t : Int), vs = [.ref p, .int t] ∧ t < 0 ∧ E (.ref C) none H
def spRefuses : Sp := fun vs H Q _ => ∃ (p : Addr) (t : Int), vs = [.ref p, .int t] ∧ t < 0 ∧ Q (.bl true) H
def spSame : Sp := fun vs H Q _ => ∃ (p q : Addr) (h l h2 l2 : List Int), vs = [.ref p, .ref q] ∧ Pr H p h l ∧ Pr H q h2 l2 ∧ l ≠ [] ∧ l2 ≠ [] ∧ dfn h l h2 l2 ≤ 1000000 ∧ (∀ t, wat h l t = wat h2 l2 t) ∧ Q (.bl true) H
def spMakeX (cE cL : Addr) : Sp := fun vs H Q E => ∃ (a b : Addr) (h l : List Int), vs = [.ref a, .ref b] ∧ H a = some (.lst (h.map V.int)) ∧ H b = some (.lst (l.map V.int)) ∧ h.length ≤ 100000 ∧ l.length ≤ 100000 ∧
  (l = [] → E (.ref cE) none H) ∧ (l ≠ [] → (∃ x, (x ∈ h ∨ x ∈ l) ∧ x < 0) → E (.ref cL) none H) ∧
  (l ≠ [] → (∀ x, x ∈ h ∨ x ∈ l → 0 ≤ x) → ∀ (H' : Hp) (p : Addr) (h' l' : List Int), Same H H' → Las H' p h' l' → Short h l h' l' → Q (.ref p) H')
def spOut : Sp := fun vs H Q _ => ∃ (a b : Addr) (h l : List Int), vs = [.ref a, .ref b] ∧ H a = some (.lst (h.map V.int)) ∧ H b = some (.lst (l.map V.int)) ∧ h.length ≤ 100000 ∧ l.length ≤ 100000 ∧
  (l = [] → ∀ (H' : Hp) (p : Addr), Same H H' → H' p = some (.tup [.str "empty", .bl true]) → Q (.ref p) H') ∧
  (l ≠ [] → (∃ x, (x ∈ h ∨ x ∈ l) ∧ x < 0) → ∀ (H' : Hp) (p : Addr), Same H H' → H' p = some (.tup [.str "letter", .bl true]) → Q (.ref p) H') ∧
  (l ≠ [] → (∀ x, x ∈ h ∨ x ∈ l → 0 ≤ x) → ∀ (H' : Hp) (p q : Addr) (h' l' : List Int), Same H H' → H' p = some (.tup [.str "lasso", .ref q]) → Las H' q h' l' → Short h l h' l' → Q (.ref p) H')
theorem neg_cases (h l : List Int) : (∃ x, (x ∈ h ∨ x ∈ l) ∧ x < 0) ∨ ∀ x, x ∈ h ∨ x ∈ l → 0 ≤ x := by
  by_cases c : ∃ x, (x ∈ h ∨ x ∈ l) ∧ x < 0
  · exact .inl c
  · exact .inr fun x hx => by
      rcases Int.lt_or_le x 0 with z | z
      · exact absurd ⟨x, hx, z⟩ c
      · exact z
def spIsInt : Sp := fun vs H Q _ => ∃ (i : Int), vs = [.int i] ∧ Q (.bl true) H
end Bx
/-! ### own errors, two levels below ValueError -/
namespace Bx
open PySem PySem.Spec PyProof.Rows L2
abbrev veB : List Value := [.type "ValueError", .type "Exception", .type "BaseException", .type "object"]
structure ErrC (K : PySem.W.Frag) (mg : Str → Option Value) (x : Str) (C : Addr) : Prop where
  g : mg x = some (.ref C)
  ex : PySem.W.excIn K C veB "ValueError.__new__" = true
  kp : PySem.W.keepIn K (.ref C) = true
  ty : PySem.W.typeIn K (.ref C) = some (.type "type")
  sf : PySem.W.subIn K (.ref C) (.ref C) = some true
  ec : ExcC K C
theorem ErrC.exm {K : PySem.W.Frag} {mg : Str → Option Value} {x : Str} {C : Addr} {cls : Value} {b : Bool} (e : ErrC K mg x C) (h : PySem.W.subIn K cls (.ref C) = some b) : PySem.W.exmOne K cls (.ref C) = some b := PySem.W.exm_ref e.ec.hs e.ec.hd e.ty h
theorem ErrC.me {K : PySem.W.Frag} {mg : Str → Option Value} {x : Str} {C : Addr} (e : ErrC K mg x C) : PySem.W.exmOne K (.ref C) (.ref C) = some true := e.exm e.sf
/-- raise X('..') -/
theorem ErrC.made {X : Cx} {C : Addr} {x m : Str} {j : Nat} {p p2 pos : Pos} (e : ErrC X.K X.mg x C) (hg : Gl X x) (hd : (x == ("__debug__" : Str)) = false := by decide) : PMk X (.Call (.Name x p) [.Constant (.str m) j p2] [] pos) (fun _ H Q => Q (.ref C) none H) :=
  pmk_own PySem.F.excBase_ValueError e.ex e.g e.kp (raises_own e.ec.hs e.ty) hg hd
/-- isinstance(e, c), e the exception that the suite holds -/
def rIsEx (K : PySem.W.Frag) (a : Addr) (cls : Value) (d : Option Addr) : List V → Hp → VK → Prop := fun xs H Q => ∃ D : Addr, cls = .ref D ∧ d = none ∧ ExcC K D ∧ rIsE K D a xs H Q
theorem call_isEx {X : Cx} {K : PySem.W.Frag} {a : Addr} {cls : Value} {d : Option Addr} {oe : Obj} {pn : List (Addr × Obj)} (h : X.K = K) (hz : Zc cls d oe) (hf : ∃ vs, oe.data = .fields vs) : CallR (X.suite a ((a, oe) :: pn)) (.builtin "isinstance") (rIsEx K a cls d) := by
  subst h
  intro pins s σ H xs us Q I r hw
  obtain ⟨D, rfl, rfl, C, hw⟩ := hw
  exact call_isE C hz hf pins s σ H xs us Q I r hw
/-- a def that may raise, by its name -/
structure CalX (P : Program) (w : World) (K : PySem.W.Frag) (mg : Str → Option Value) (base : Heap) (k : Nat) (x : Str) (sp : Sp) : Prop where
  ex : ∃ (f : Addr) (fd : FuncData) (ps : List Str), FnOk P w K mg base (L2.CX P w) k f fd ps sp ∧ mg x = some (.ref f) ∧ PySem.W.keepIn K (.ref f) = true ∧ Binds K fd ps []
theorem pe_cx {X : Cx} {k j : Nat} {x : Str} {sp : Sp} {W : WX} {p pos : Pos} {e : Expr} {es : List Expr} {t : TA} (c : CalX X.prog X.w X.K X.mg X.base k x sp) (hr : Room j X.A) (hk : k ≤ j) (tk : Takes X W) (hg : Gl X x) (ha : PA X (e :: es) t)
    (hdb : (x == ("__debug__" : Str)) = false := by decide) (he : starEach (e :: es) X.env = (false, eval e X.env) :: starEach es X.env := by rfl) (hpl : (backTo pos (starEach es X.env)).any (·.1) = false := by rfl) :
    PE X (.Call (.Name x p) (e :: es) [] pos) (tCallS sp (WE W) t) := by
  obtain ⟨f, fd, ps, F, hm, kp, b⟩ := c.ex
  exact pe_callS F (hr.mono hk) hg hm kp b (fun σ => passAt tk σ) ha hdb he hpl
end Bx
/-! ### several clauses, each with its name: own rule -/
namespace Bx
open PySem PySem.Spec PyProof.Rows L2
/-- what the clauses wish, one after the other: (class, the name's slot, the suite's reading) -/
def wAll (K : PySem.W.Frag) (Wo : WX) (D : Ends) : List (Value × Nat × (Addr → Value → Option Addr → TS)) → WX
  | [] => Wo
  | (c, i, ts) :: r => fun cls d σ H => ∃ b, PySem.W.exmOne K cls c = some b ∧
    (b = true → ∀ a, H a = none → ts a cls d { nx := fun σ' H' => D.nx (σ'.set i none) H', rt := D.rt, bk := fun σ' H' => D.bk (σ'.set i none) H', ct := fun σ' H' => D.ct (σ'.set i none) H' } (σ.set i (some (.ref a))) H) ∧
    (b = false → wAll K Wo D r cls d σ H)
inductive Clauses (Y : Cx) : List ExceptHandler → List (Value × Nat × (Addr → Value → Option Addr → TS)) → Prop
  | nil : Clauses Y [] []
  | cons {x n : Str} {c : Value} {i : Nat} {ts : Addr → Value → Option Addr → TS} {b0 : Stmt} {suite : List Stmt} {p p' : Pos} {cs : List ExceptHandler} {l : List (Value × Nat × (Addr → Value → Option Addr → TS))}
      (hc : Names Y x c) (hi : Y.N[i]? = some n) (hl : Y.env.kindOf n = some .local)
      (su : ∀ (a : Addr) (oe : Obj) (cls : Value) (d : Option Addr) (pn : List (Addr × Obj)), Zc cls d oe → (∃ vs, oe.data = .fields vs) → PSs (Y.suite a ((a, oe) :: pn)) (b0 :: suite) (ts a cls d)) (r : Clauses Y cs l) :
      Clauses Y (.ExceptHandler (some (.Name x p)) (some n) (b0 :: suite) p' :: cs) ((c, i, ts) :: l)
theorem ps_try_all {Y : Cx} {body : List Stmt} {c0 : ExceptHandler} {cs : List ExceptHandler} {l : List (Value × Nat × (Addr → Value → Option Addr → TS))} {pos : Pos} {tb : WX → TS} {Wo : WX}
    (ks : Y.stack = Y.env :: Y.outer) (kf : Y.env.frame = some Y.env.locals) (kN : Y.N.Nodup) (tk : Takes Y Wo)
    (kb : ∀ (W : WX) (pn : List (Addr × Obj)) (xe : Value → Shared → Prop), Takes (Y.tr pn xe) W → PassesOwn (model Y.prog Y.w) Y.A Y.env xe → PSs (Y.tr pn xe) body (tb W))
    (kh : Clauses Y (c0 :: cs) l) : PS Y (.Try body (c0 :: cs) [] [] pos) (fun D σ H => tb (wAll Y.K Wo D l) D σ H) := by
  refine ⟨fun pins u σ H D I hw => ?_⟩
  have okY := I.ok
  have fr := okY.frames
  rw [ks] at fr
  refine wpAny_Try_except ?_
  refine wpAny_mono ((kb (wAll Y.K Wo D l) (Y.pn ++ pins) (fun e u1 => wpAny (model Y.prog Y.w) Y.A (noteFrame e Y.env) (fun _ u2 => wpAny (model Y.prog Y.w) Y.A (setFlight e none) (fun _ u3 =>
    wpAny (model Y.prog Y.w) Y.A (handleBy e Y.env (c0 :: cs)) (SP Y pins D) Y.xe u3) Y.xe u2) Y.xe u1) (fun v g xx => ?_) PassesOwn.looking).run [] u σ H D (I.toTry _) hw) (fun f u1 q => ?_) (fun e u1 q => q)
  · obtain ⟨a, B, sI, pins1, σ1, H1, cls, d, rfl, Jt, nb, up, sk, na, os, ag, w⟩ := xx
    have J : Inv Y pins σ1 H1 sI := Jt.ofTry okY
    have sk1 : Sky B (Y.env :: Y.outer) a (Zc cls d) Y.env.locals g.heap := by rw [← ks]; exact sk
    show wpAny (model Y.prog Y.w) Y.A (noteFrame (.ref a) Y.env) _ _ _
    refine Sky.land Zc.steady fr kf sk1 fun g3 f3 u3 => ?_
    have I3 : Inv Y pins σ1 H1 { g with heap := g3 } := J.landed nb f3.1 (up.trans u3) os ag
    obtain ⟨o3, w3, at3, z3, dt3⟩ := f3.there
    have apart : ∀ {t : Heap} {o : Obj} {vs : Array Value}, t.FunFrames B (Y.env :: Y.outer) → t.get? a = some o → o.data = .fields vs → a ∉ frs (Y.env :: Y.outer) := fun {t o vs} ff e dd hm => by
      obtain ⟨_, o2, e2, q2⟩ := ff.mem hm
      rw [e] at e2
      cases e2
      exact q2 _ dd
    have n0 := apart f3.2.2.1 at3 dt3
    have nL : a ≠ Y.env.locals := fun z => n0 (List.mem_filterMap.mpr ⟨Y.env, List.mem_cons_self, by rw [kf, z]⟩)
    have nF : a ∉ Y.fs := fun hm => by
      obtain ⟨e, he, q⟩ := List.mem_filterMap.mp hm
      exact n0 (List.mem_filterMap.mpr ⟨e, List.mem_cons_of_mem _ he, q⟩)
    have T3 := I3.suite at3 dt3 na nL nF
    have all : ∀ {cs2 : List ExceptHandler} {l2 : List (Value × Nat × (Addr → Value → Option Addr → TS))}, Clauses Y cs2 l2 → wAll Y.K Wo D l2 cls d σ1 H1 →
        wpAny (model Y.prog Y.w) Y.A (handleBy (.ref a) Y.env cs2) (SP Y pins D) Y.xe { g with heap := g3 } := by
      intro cs2 l2 hk
      induction hk with
      | nil =>
        intro w
        refine wpAny_handleBy_nil ?_
        obtain ⟨_, _, _, oe, vs, T, oT, t2, he, hz, hd, h1, _⟩ := id f3
        unfold PySem.passOn
        refine wpAny_bind (wpAny_field he hd h1 ?_)
        rw [if_neg (show ¬ ((Value.ref T == Value.none) = true) from by simp)]
        have away : wpAny (model Y.prog Y.w) Y.A (setFlight (.ref a) Y.env.frame) (fun _ u4 => wpAny (model Y.prog Y.w) Y.A (throw (.ref a) : Sem Flow) (SP Y pins D) Y.xe u4) Y.xe { g with heap := g3 } := by
          rw [kf]
          refine HandSPX.setFlight_upZ f3 fun g4 q4 u4 => wpAny_throw (tk _ _ ?_)
          exact ⟨a, B, sI, pins, σ1, H1, cls, d, rfl, J, nb, (up.trans u3).trans u4, .inr (.inr (by rw [ks]; exact q4)), na, os, ag, w⟩
        first
          | exact wpAny_bind (wpAny_pure (wpAny_bind away))
          | exact wpAny_bind away
      | @cons x n c i ts b0 suite p p' cs3 l3 hc hi hl su r ih =>
        intro w
        obtain ⟨b, e1, yes, no⟩ := w
        refine wpAny_handleBy_cons (codeAny_handlers_test ?_) (by intro q; cases q)
        have LT : PySem.W.Looks (model Y.prog Y.w) g3 (typeOf (.ref a)) cls := fun A Q E s k q => wpAny_typeOf_ref (k _ _ at3) (by rw [z3.1]; exact q)
        have LM := PySem.W.exm_one (M := model Y.prog Y.w) (I3.kIn) LT e1
        have test : ∀ {Q : Value → Shared → Prop} {E : Value → Shared → Prop}, Q c { g with heap := g3 } → wpAny (model Y.prog Y.w) (Y.A.mark (some (.ref a))) (eval (.Name x p) Y.env) Q E { g with heap := g3 } := fun {Q E} q => by
          obtain ⟨hg, hdb, hm | ⟨hm, hv, hnn⟩⟩ := hc
          · exact ld_glob (X := Y.suite a ((a, o3) :: (Y.pn ++ pins))) T3 hg hm q hdb
          · exact ld_blt (X := Y.suite a ((a, o3) :: (Y.pn ++ pins))) T3 hg hm hv q hnn hdb
        refine test (LM.here ?_)
        cases b with
        | true =>
          refine codeAny_handlers_suite_as ?_
          refine HandSPX.lands_againZ f3 fun g4 f4 u4 => ?_
          have I4 : Inv Y pins σ1 H1 { g with heap := g4 } := J.landed nb f4.1 ((up.trans u3).trans u4) os ag
          obtain ⟨o4, w4, at4, z4, dt4⟩ := f4.there
          have T4 := I4.suite at4 dt4 na nL nF
          refine store_ok (X := Y.suite a ((a, o4) :: (Y.pn ++ pins))) (v := .ref a) T4 kN hi (.inl hl) rfl (fun u5 T5 => ?_) (.inr hl)
          refine wpAny_mono ((su a o4 cls d (Y.pn ++ pins) z4 ⟨_, dt4⟩).run [] u5 _ H1 _ T5 (yes rfl a na)) (fun f u6 q => ?_) (fun _ _ z => False.elim z)
          have fin : ∀ {σ6 : L2.St} {H6 : Hp} {Q : Shared → Prop}, Inv (Y.suite a ((a, o4) :: (Y.pn ++ pins))) [] σ6 H6 u6 → (∀ u7, Inv Y pins (σ6.set i none) H6 u7 → Q u7) →
              wpAny (model Y.prog Y.w) Y.A (do bindName Y.env n .none; unbindBehindTheSuite Y.env n p') (fun _ u7 => Q u7) Y.xe u6 := fun {σ6 H6 Q} T6 hq => gone_ok (T6.unsuite okY) kN hi hl hq
          cases f with
          | next =>
            obtain ⟨_, _, T6, q6⟩ := q
            exact fin T6 fun _ I7 => ⟨_, _, I7, q6⟩
          | brk =>
            obtain ⟨_, _, T6, q6⟩ := q
            exact fin T6 fun _ I7 => ⟨_, _, I7, q6⟩
          | cont =>
            obtain ⟨_, _, T6, q6⟩ := q
            exact fin T6 fun _ I7 => ⟨_, _, I7, q6⟩
          | ret v =>
            obtain ⟨_, _, _, T6, r6, q6⟩ := q
            exact fin T6 fun _ I7 => ⟨_, _, _, I7, r6, q6⟩
        | false =>
          show wpAny _ Y.A (handleBy (.ref a) Y.env cs3) _ _ _
          exact ih (no rfl)
    exact all kh w
  · cases f with
    | next =>
      obtain ⟨_, _, J1, q1⟩ := q
      exact wpAny_execs_nil ⟨_, _, J1.ofTry okY, q1⟩
    | brk =>
      obtain ⟨_, _, J1, q1⟩ := q
      exact ⟨_, _, J1.ofTry okY, q1⟩
    | cont =>
      obtain ⟨_, _, J1, q1⟩ := q
      exact ⟨_, _, J1.ofTry okY, q1⟩
    | ret v =>
      obtain ⟨_, _, _, J1, r1, q1⟩ := q
      exact ⟨_, _, _, J1.ofTry okY, r1, q1⟩
end Bx
/-! ### max of a tuple of ints, lcm: own rules -/
namespace MaxT
open PySem PySem.W PyProof.Rows
section
variable {prog : Program} {w : World} {A : Around} {E : Value → Shared → Prop} {s : Shared}
theorem walkT {l : Addr} {xs : Array (Int × Tok)} {Q : Value → Shared → Prop} (hh : A.handled = none) (ht : s.heap.IsTuple l (intItems xs)) (hne : 0 < xs.size)
    (h : ∀ v g tk, (intItems xs)[argBest (fun i j => decide (numAt xs i > numAt xs j)) (xs.size - 1)]? = some v → (∀ b o, s.heap.get? b = some o → g.get? b = some o) → Q v { s with heap := g, toks := tk }) :
    wpAny (model prog w) A (call (.builtin "max") [.ref l]) Q E s := by
  have ll : l < s.heap.objs.size := by
    obtain ⟨_, e, _⟩ := ht
    exact Heap.lt_size e
  refine call_max_walk (wpAny_pyIter_tuple ht ?_)
  refine ⟨_, _, _, _, _, _, _, rfl, Walks.tuple (A := A.in1) hh _ l (Nat.ne_of_lt ll) (intItems xs), ⟨⟨_, Heap.get?_push_size _ rfl, rfl, rfl⟩, ht.push _⟩, fun c hc => ?_, by simpa [intItems] using hne, CmpOf.ints_gt (numAt xs) (fun _ _ => intItems_at), fun v g tk hP hk => ?_⟩
  · show c < (s.heap.push _).objs.size
    rw [Heap.size_push]
    rcases List.mem_cons.mp hc with rfl | hc
    · exact Nat.lt_succ_self _
    · rcases List.mem_cons.mp hc with rfl | hc
      · exact Nat.lt_succ_of_lt ll
      · cases hc
  · refine h v g tk (by simpa [intItems] using hP) fun b o e => hk b o (fun hm => ?_) (Heap.get?_push_of_some _ e)
    have e1 : b = s.heap.objs.size := List.mem_singleton.mp hm
    rw [e1] at e
    exact absurd (Heap.lt_size e) (Nat.lt_irrefl _)
theorem rawT {l : Addr} {its : List Value} {ns : List Int} {Q : Value → Shared → Prop} (hh : A.handled = none) (hl : IsTup s.heap l its.toArray) (hi : IntsAre its ns) (hne : ns ≠ [])
    (h : ∀ (g : Heap) (tk : Nat) (m : Int) (t' : Tok), (∀ b o, s.heap.get? b = some o → g.get? b = some o) → m ∈ ns → (∀ y ∈ ns, y ≤ m) → Q (.int m t') { s with heap := g, toks := tk }) :
    wpAny (model prog w) A (call (.builtin "max") [.ref l]) Q E s := by
  obtain ⟨xs, e⟩ := hi.allInts.items
  have hn : numsOf (intItems xs).toList = ns := by rw [← e]; exact hi.numsOf
  rw [PySem.nums_intItems] at hn
  subst hn
  rw [e] at hl
  have c : 0 < xs.size := by
    rcases Nat.eq_zero_or_pos xs.size with z | z
    · refine absurd ?_ hne
      have : xs = #[] := Array.eq_empty_of_size_eq_zero z
      rw [this]
      rfl
    · exact z
  refine walkT hh hl c fun v g tk p1 keep => ?_
  obtain ⟨u, rfl⟩ := intItems_at p1
  obtain ⟨a1, a2⟩ := argBest_gt (numAt xs) (xs.size - 1)
  refine h g tk _ u keep ?_ fun y hy => ?_
  · rw [PySem.numAt_eq]
    refine PySem.getD_mem ?_
    rw [List.length_map, Array.length_toList]
    exact Nat.lt_of_le_of_lt a1 (by omega)
  · obtain ⟨j, hj, rfl⟩ := PySem.mem_getD hy
    rw [List.length_map, Array.length_toList] at hj
    rw [← PySem.numAt_eq]
    exact a2 j (by omega)
end
end MaxT
namespace Bx
open PySem PySem.Spec PyProof.Rows L2
def rMaxT (K : PySem.W.Frag) : List V → Hp → VK → Prop := fun xs H Q => ∃ (a : Addr) (ns : List Int), xs = [.ref a] ∧ SqT K H a (ns.map V.int) ∧ ns ≠ [] ∧ ∀ m, m ∈ ns → (∀ y ∈ ns, y ≤ m) → Q (.int m) H
theorem call_maxT {X : Cx} {K : PySem.W.Frag} (h : X.K = K) (hc : X.calm = true) : CallR X (.builtin "max") (rMaxT K) := by
  subst h
  intro pins s σ H xs us Q I r hw
  obtain ⟨a, ns, rfl, hs, hne, q⟩ := hw
  obtain ⟨its, rv, ht, _⟩ := I.tuple hs
  rw [Vals.ref1 r]
  exact MaxT.rawT (I.ok.hd hc) ht rv.ints hne fun g tk m t' hk h1 h2 => ⟨.int m, H, I.kept hk, ⟨_, rfl⟩, q m h1 h2⟩
theorem call_maxK {X : Cx} {K : PySem.W.Frag} (h : X.K = K) (hc : X.calm = true) : CallR X (.builtin "max") (rMax K) := by
  subst h
  exact cr_max hc
def spCheckX (cL : Addr) : Sp := fun vs H Q E => ∃ (p : Addr) (h l : List Int) (n : Int), vs = [.ref p, .int n] ∧ Las H p h l ∧ l ≠ [] ∧ h.length ≤ 1000 ∧ l.length ≤ 1000 ∧
  ((∃ x, (x ∈ h ∨ x ∈ l) ∧ n ≤ x) → ∀ H', Same H H' → E (.ref cL) none H') ∧ ((∀ x, x ∈ h ∨ x ∈ l → x < n) → ∀ H', Same H H' → Q .non H')
end Bx
/-! ### lists of lists, instances made in a try: own rules -/
namespace Bx
open PySem PySem.Spec PyProof.Rows L2
section
variable {X : Cx}
theorem pi_or {tg iter : Expr} {w1 w2 : TI} (h1 : PI X tg iter w1) (h2 : PI X tg iter w2) : PI X tg iter (fun σ H R => w1 σ H R ∨ w2 σ H R) := ⟨fun pins s σ H R I h => by
  rcases h with h | h
  · exact h1.run pins s σ H R I h
  · exact h2.run pins s σ H R I h⟩
theorem passF {P : Program} {w : World} : Passes (L2.CX P w) X (fun _ _ _ => False) := fun _ _ _ _ _ _ _ h => by
  obtain ⟨_, _, _, _, _, _, _, _, _, _, _, _, z⟩ := h
  exact z.elim
/-- a new instance of an own class whose __init__ may raise -/
structure MakX (P : Program) (w : World) (K : PySem.W.Frag) (mg : Str → Option Value) (base : Heap) (k : Nat) (x : Str) (C : Addr) (sp : Sp) : Prop where
  ex : ∃ (f : Addr) (fd : FuncData) (ps : List Str), Mk K C f ∧ FnOk P w K mg base (L2.CX P w) k f fd ps sp ∧ mg x = some (.ref C) ∧ Binds K fd ps []
def tMakX (C : Addr) (sp : Sp) (E : L2.St → XK) (t : TA) : TE := fun σ H Q => t σ H fun vs H1 => ∀ x dx, H1 x = none → H1 dx = none → dx ≠ x → sp (.ref x :: vs) (upd (upd H1 dx (.own x)) x (.ins C dx [])) (fun v H2 => v = .non ∧ Q (.ref x) H2) (E σ)
theorem made_at {k : Nat} {f C : Addr} {fd : FuncData} {ps : List Str} {sp : Sp} {E : XK} {pins : List (Addr × Obj)} {σ : L2.St} {H : Hp} {u : Shared} {Q : VK} {us : List Value} {vs : List V} (M : Mk X.K C f) (F : FnOk X.prog X.w X.K X.mg X.base (L2.CX X.prog X.w) k f fd ps sp) (hr : Room (k + 1) X.A) (hb : Binds X.K fd ps [])
    (hx : PassesAt (L2.CX X.prog X.w) X σ E) (I : Inv X pins σ H u) (r : Vals vs us)
    (h : ∀ x dx, H x = none → H dx = none → dx ≠ x → sp (.ref x :: vs) (upd (upd H dx (.own x)) x (.ins C dx [])) (fun v H2 => v = .non ∧ Q (.ref x) H2) E) :
    wpAny (model X.prog X.w) X.A (call (.ref C) us) (EP X pins σ Q) X.xe u := by
  have q0 := h (u.heap.objs.size + 1) u.heap.objs.size (I.hok.fresh (Nat.le_succ _)) (I.hok.fresh (Nat.le_refl _)) (Nat.ne_of_lt (Nat.lt_succ_self _))
  have J := Inv.made (C := C) I
  have r2 : Vals (V.ref (u.heap.objs.size + 1) :: vs) (Value.ref (u.heap.objs.size + 1) :: us) := .cons rfl r
  have hl : (Value.ref (u.heap.objs.size + 1) :: us ++ []).length = ps.length := by
    have e := r2.length
    rw [F.len _ _ _ _ q0] at e
    rw [List.append_nil]
    exact e.symm
  refine wpAny_call (make_map (f := f) I.kIn M.makes M.init (beq_iff_eq.mp M.fn) (codeAny_mono (F.run _ X.stack _ _ ⟨Value.ref (u.heap.objs.size + 1) :: us, []⟩ (Value.ref (u.heap.objs.size + 1) :: us) _ _ E (hr.make C us [])
    (J.env0.make C us []) (by have q := hb _ (Value.ref (u.heap.objs.size + 1) :: us) J.kIn hl; rw [List.append_nil] at q; exact q) r2 q0) fun r u' hq => ?_))
  cases r with
  | error e => exact hx pins _ _ e u' J hq
  | ok fl =>
    cases fl with
    | ret v =>
      obtain ⟨y, G, J3, ry, ey, qy⟩ := J.after hq
      subst ey
      exact ⟨ry, ⟨V.ref (u.heap.objs.size + 1), G, J3, rfl, qy⟩⟩
    | next => exact False.elim hq
    | brk => exact False.elim hq
    | cont => exact False.elim hq
theorem pe_makeX {k j : Nat} {C : Addr} {x : Str} {sp : Sp} {W : WX} {p pos : Pos} {e : Expr} {es : List Expr} {t : TA} (c : MakX X.prog X.w X.K X.mg X.base k x C sp) (hr : Room j X.A) (hk : k + 1 ≤ j) (tk : Takes X W) (hg : Gl X x) (ha : PA X (e :: es) t)
    (hdb : (x == ("__debug__" : Str)) = false := by decide) (he : starEach (e :: es) X.env = (false, eval e X.env) :: starEach es X.env := by rfl) (hpl : (backTo pos (starEach es X.env)).any (·.1) = false := by rfl) :
    PE X (.Call (.Name x p) (e :: es) [] pos) (tMakX C sp (WE W) t) := by
  obtain ⟨f, fd, ps, M, F, hm, b⟩ := c.ex
  refine ⟨fun pins u σ H Q I hw => ?_⟩
  refine wpAny_Call_Name_kw (ld_glob I hg hm ?_ hdb)
  refine PySem.W.callWith_K (h₀ := X.base) I.ok.mod.kin M.kp (thn (ha.run pos pins u σ H _ I hw) fun us u1 ⟨vs, H1, I1, rv, qv⟩ => ⟨I1.kIn, ?_⟩) he hpl
  exact made_at M F (hr.mono hk) b (passAt tk σ) I1 rv qv
theorem pe_makeN {k j : Nat} {C : Addr} {x : Str} {sp : Sp} {p pos : Pos} {e : Expr} {es : List Expr} {t : TA} (c : MakX X.prog X.w X.K X.mg X.base k x C sp) (hr : Room j X.A) (hk : k + 1 ≤ j) (hg : Gl X x) (ha : PA X (e :: es) t)
    (hdb : (x == ("__debug__" : Str)) = false := by decide) (he : starEach (e :: es) X.env = (false, eval e X.env) :: starEach es X.env := by rfl) (hpl : (backTo pos (starEach es X.env)).any (·.1) = false := by rfl) :
    PE X (.Call (.Name x p) (e :: es) [] pos) (tMakX C sp (fun _ => fun _ _ _ => False) t) := by
  obtain ⟨f, fd, ps, M, F, hm, b⟩ := c.ex
  refine ⟨fun pins u σ H Q I hw => ?_⟩
  refine wpAny_Call_Name_kw (ld_glob I hg hm ?_ hdb)
  refine PySem.W.callWith_K (h₀ := X.base) I.ok.mod.kin M.kp (thn (ha.run pos pins u σ H _ I hw) fun us u1 ⟨vs, H1, I1, rv, qv⟩ => ⟨I1.kIn, ?_⟩) he hpl
  exact made_at M F (hr.mono hk) b (fun pins G v e v' J q => passF pins σ G v e v' J q) I1 rv qv
end
/-! rows of ints -/
def RowsA (mk : List V → HO) (H : Hp) : List Addr → List (List Int) → Prop
  | [], [] => True
  | a :: as, r :: rs => H a = some (mk (r.map V.int)) ∧ RowsA mk H as rs
  | _, _ => False
def RowsQ (H : Hp) : List Addr → List (List Int) → Prop
  | [], [] => True
  | a :: as, r :: rs => SeqI H a r ∧ RowsQ H as rs
  | _, _ => False
theorem RowsA.keep {mk : List V → HO} {H H' : Hp} : ∀ {as : List Addr} {rs : List (List Int)}, (∀ b o, b ∈ as → H b = some o → H' b = some o) → RowsA mk H as rs → RowsA mk H' as rs
  | [], [], _, _ => True.intro
  | a :: as, r :: rs, k, h => ⟨k a _ List.mem_cons_self h.1, RowsA.keep (fun b o hb => k b o (List.mem_cons_of_mem _ hb)) h.2⟩
  | [], _ :: _, _, h => h.elim
  | _ :: _, [], _, h => h.elim
theorem RowsA.same {mk : List V → HO} {H H' : Hp} {as : List Addr} {rs : List (List Int)} (k : Same H H') (h : RowsA mk H as rs) : RowsA mk H' as rs := h.keep fun b o _ e => k b o e
theorem RowsA.len {mk : List V → HO} {H : Hp} : ∀ {as : List Addr} {rs : List (List Int)}, RowsA mk H as rs → as.length = rs.length
  | [], [], _ => rfl
  | a :: as, r :: rs, h => congrArg (· + 1) h.2.len
  | [], _ :: _, h => h.elim
  | _ :: _, [], h => h.elim
theorem RowsA.snoc {mk : List V → HO} {H : Hp} {a : Addr} {r : List Int} (ha : H a = some (mk (r.map V.int))) : ∀ {as : List Addr} {rs : List (List Int)}, RowsA mk H as rs → RowsA mk H (as ++ [a]) (rs ++ [r])
  | [], [], _ => ⟨ha, True.intro⟩
  | b :: as, q :: rs, h => ⟨h.1, h.2.snoc ha⟩
  | [], _ :: _, h => h.elim
  | _ :: _, [], h => h.elim
theorem RowsA.get {mk : List V → HO} {H : Hp} : ∀ {as : List Addr} {rs : List (List Int)} {i : Nat} {a : Addr}, RowsA mk H as rs → as[i]? = some a → ∃ r, rs[i]? = some r ∧ H a = some (mk (r.map V.int))
  | [], _, _, _, _, e => by simp at e
  | b :: as, [], _, _, h, _ => h.elim
  | b :: as, q :: rs, 0, a, h, e => by
    have : b = a := Option.some.inj e
    subst this
    exact ⟨q, rfl, h.1⟩
  | b :: as, q :: rs, i + 1, a, h, e => RowsA.get (i := i) h.2 e
theorem RowsA.q1 {H : Hp} : ∀ {as : List Addr} {rs : List (List Int)}, RowsA .lst H as rs → RowsQ H as rs
  | [], [], _ => True.intro
  | a :: as, r :: rs, h => ⟨.inl h.1, h.2.q1⟩
  | [], _ :: _, h => h.elim
  | _ :: _, [], h => h.elim
theorem RowsA.q2 {H : Hp} : ∀ {as : List Addr} {rs : List (List Int)}, RowsA .tup H as rs → RowsQ H as rs
  | [], [], _ => True.intro
  | a :: as, r :: rs, h => ⟨.inr h.1, h.2.q2⟩
  | [], _ :: _, h => h.elim
  | _ :: _, [], h => h.elim
theorem RowsQ.same {H H' : Hp} (k : Same H H') : ∀ {as : List Addr} {rs : List (List Int)}, RowsQ H as rs → RowsQ H' as rs
  | [], [], _ => True.intro
  | a :: as, r :: rs, h => ⟨h.1.same k, h.2.same k⟩
  | [], _ :: _, h => h.elim
  | _ :: _, [], h => h.elim
theorem RowsQ.len {H : Hp} : ∀ {as : List Addr} {rs : List (List Int)}, RowsQ H as rs → as.length = rs.length
  | [], [], _ => rfl
  | a :: as, r :: rs, h => congrArg (· + 1) h.2.len
  | [], _ :: _, h => h.elim
  | _ :: _, [], h => h.elim
theorem RowsQ.get {H : Hp} : ∀ {as : List Addr} {rs : List (List Int)} {i : Nat} {a : Addr}, RowsQ H as rs → as[i]? = some a → ∃ r, rs[i]? = some r ∧ SeqI H a r
  | [], _, _, _, _, e => by simp at e
  | b :: as, [], _, _, h, _ => h.elim
  | b :: as, q :: rs, 0, a, h, e => by
    have : b = a := Option.some.inj e
    subst this
    exact ⟨q, rfl, h.1⟩
  | b :: as, q :: rs, i + 1, a, h, e => RowsQ.get (i := i) h.2 e
/-- a list or a tuple of any values -/
def SeqV (H : Hp) (a : Addr) (xs : List V) : Prop := H a = some (.lst xs) ∨ H a = some (.tup xs)
theorem SeqV.same {H H' : Hp} {a : Addr} {xs : List V} (k : Same H H') (h : SeqV H a xs) : SeqV H' a xs := by
  rcases h with h | h
  · exact .inl (k _ _ h)
  · exact .inr (k _ _ h)
theorem SeqV.sq {K : PySem.W.Frag} {H : Hp} {a : Addr} {xs : List V} (h : SeqV H a xs) : SqL K H a xs ∨ SqT K H a xs := by
  rcases h with h | h
  · exact .inl (.of h)
  · exact .inr (.of h)
def iSeq (K : PySem.W.Frag) (te : TE) : TI := fun σ H R => iList K te σ H R ∨ iTup K te σ H R
theorem pi_seq {X : Cx} {K : PySem.W.Frag} {tg e : Expr} {te : TE} (h : X.K = K) (he : PE X e te) : PI X tg e (iSeq K te) := by
  subst h
  exact pi_or (pi_list he) (pi_tup he)
theorem for_seq {K : PySem.W.Frag} {i : Nat} {a : Addr} {xs : List V} {g : TG} {tb : TS} {D : Ends} {σ : L2.St} {H : Hp} (hv : σ[i]? = some (some (.ref a))) (hq : SeqV H a xs) (Pv : Nat → L2.St → Hp → Prop) (h0 : Pv 0 σ H) (hS : ∀ i σ' H', Pv i σ' H' → Same H H')
    (hs : ∀ i x σ H, xs[i]? = some x → Pv i σ H → g x σ H fun σ2 H2 => tb { D with nx := Pv (i + 1), ct := Pv (i + 1), bk := D.nx } σ2 H2) (hd : ∀ σ H, Pv xs.length σ H → D.nx σ H) : tFor (iSeq K (tVar i)) g tb D σ H := by
  rcases hq with h | h
  · exact .inl ⟨_, hv, a, rfl, ⟨_, .of h⟩, for_list Pv h0 (fun i σ' H' _ p => .of (hS i σ' H' p _ _ h)) hs hd⟩
  · exact .inr ⟨_, hv, a, rfl, ⟨_, .of h⟩, for_tup Pv h0 (fun i σ' H' _ p => .of (hS i σ' H' p _ _ h)) hs hd⟩
/-- a list of lists of ints -/
def LL (H : Hp) (r : Addr) (as : List Addr) (rows : List (List Int)) : Prop := H r = some (.lst (as.map V.ref)) ∧ RowsA .lst H as rows
def Vld (L s : Int) (ps : List Int) (rows : List (List Int)) : Prop := 1 ≤ L ∧ rows ≠ [] ∧ ps.length = rows.length ∧ (0 ≤ s ∧ s < (rows.length : Int)) ∧ (∀ r ∈ rows, (r.length : Int) = L ∧ ∀ x ∈ r, 0 ≤ x ∧ x < (rows.length : Int)) ∧ ∀ p ∈ ps, 0 ≤ p
/-- the fields of a parity automaton, as they are stored -/
def pf (L s : Int) (pt rt : Addr) : List (Str × V) := putF "rows" (.ref rt) (putF "priorities" (.ref pt) (putF "start" (.int s) (putF "letters" (.int L) [])))
theorem putF_len (f : Str) (v : V) : ∀ fs : List (Str × V), (putF f v fs).length ≤ fs.length + 1
  | [] => Nat.le_refl _
  | (g, x) :: r => by
    unfold putF
    by_cases c : g = f
    · rw [if_pos c]
      exact Nat.le_succ _
    · rw [if_neg c]
      exact Nat.succ_le_succ (putF_len f v r)
theorem pf_L (L s : Int) (pt rt : Addr) : (pf L s pt rt).lookup ("letters" : Str) = some (.int L) := by
  unfold pf
  rw [lookup_putF, if_neg (by decide +kernel), lookup_putF, if_neg (by decide +kernel), lookup_putF, if_neg (by decide +kernel), lookup_putF, if_pos rfl]
theorem pf_s (L s : Int) (pt rt : Addr) : (pf L s pt rt).lookup ("start" : Str) = some (.int s) := by
  unfold pf
  rw [lookup_putF, if_neg (by decide +kernel), lookup_putF, if_neg (by decide +kernel), lookup_putF, if_pos rfl]
theorem pf_p (L s : Int) (pt rt : Addr) : (pf L s pt rt).lookup ("priorities" : Str) = some (.ref pt) := by
  unfold pf
  rw [lookup_putF, if_neg (by decide +kernel), lookup_putF, if_pos rfl]
theorem pf_r (L s : Int) (pt rt : Addr) : (pf L s pt rt).lookup ("rows" : Str) = some (.ref rt) := by
  unfold pf
  rw [lookup_putF, if_pos rfl]
/-- a parity automaton at x -/
def ParAt (C : Addr) (H : Hp) (x : Addr) (L s : Int) (ps : List Int) (rows : List (List Int)) : Prop := ∃ (dx pt rt : Addr) (as : List Addr), H x = some (.ins C dx (pf L s pt rt)) ∧ TupI H pt ps ∧ H rt = some (.tup (as.map V.ref)) ∧ RowsA .tup H as rows
theorem ParAt.same {C : Addr} {H H' : Hp} {x : Addr} {L s : Int} {ps : List Int} {rows : List (List Int)} (k : Same H H') (h : ParAt C H x L s ps rows) : ParAt C H' x L s ps rows := by
  obtain ⟨dx, pt, rt, as, e1, e2, e3, e4⟩ := h
  exact ⟨dx, pt, rt, as, k _ _ e1, k _ _ e2, k _ _ e3, e4.same k⟩
/-- what the class has -/
structure ParC (K : PySem.W.Frag) (C : Addr) : Prop where
  cl : Cls K C
  nL : NoAttr K C "letters"
  nS : NoAttr K C "start"
  nP : NoAttr K C "priorities"
  nR : NoAttr K C "rows"
def spCheckS (cI : Addr) : Sp := fun vs H Q E => ∃ (z n : Int), vs = [.int z, .int n] ∧ (¬ (0 ≤ z ∧ z < n) → E (.ref cI) none H) ∧ ((0 ≤ z ∧ z < n) → Q .non H)
def spInitP (C cI : Addr) : Sp := fun vs H Q E => ∃ (x p r dx : Addr) (L s : Int) (ps : List Int) (as : List Addr) (rows : List (List Int)), vs = [.ref x, .int L, .int s, .ref p, .ref r] ∧ H x = some (.ins C dx []) ∧ H p = some (.lst (ps.map V.int)) ∧ SeqV H r (as.map V.ref) ∧ RowsQ H as rows ∧
  rows.length ≤ 1000 ∧ ps.length ≤ 1000 ∧ (∀ q ∈ rows, q.length ≤ 1000) ∧ (¬ Vld L s ps rows → E (.ref cI) none H) ∧ (Vld L s ps rows → ∀ H', Kp x H H' → ParAt C H' x L s ps rows → Q .non H')
end Bx

/-! ### own rules: a list extended by a tuple; a tuple's slice with a step -/
namespace Tx
open PySem PySem.Spec PyProof.Rows L2
section
variable {prog : Program} {w : World} {A : Around} {E : Value → Shared → Prop} {s : Shared}
set_option maxRecDepth 8000 in
theorem ext_tup (l b : Addr) (xs ys : Array Value) (n m : Nat) (dd : Option Addr) (sl : Array (Option Value)) (h0 : ¬(!xs.isEmpty && Builtin.List.listTooLong (xs.size + ys.size)) = true) (h1 : xs.size ≤ sizeLine) (h2 : xs.size + ys.size ≤ sizeLine + 1) :
    Meets (Builtin.«list.extend» ⟨[.ref l, .ref b], []⟩) (fun _ R s => s.heap.get? l = some { cls := .type "list", data := .seq xs n } ∧ s.heap.get? b = some { cls := .type "tuple", dict := dd, data := .seq ys m, slots := sl } ∧
      R (.ok (.ret Value.none)) { s with heap := s.heap.update l (Obj.mapSeq fun x => x ++ ys), toks := s.toks }) := .of_wp fun prog w A R s h => by
  obtain ⟨hp, g, d, tk, os⟩ := s
  obtain ⟨hl, hb, h⟩ := h
  have q1 := AutoSeq1.idx_int
  have q2 := AutoSeq1.sub_tuple_tuple
  have q3 := AutoSeq1.sub_list_list
  have q4 := AutoSeq1.sub_tuple_list
  have q5 := AutoSeq1.sub_list_tuple
  have hz : (xs ++ ys).size ≤ sizeLine + 1 := by
    rw [Array.size_append]
    exact h2
  wp_walk using (wpAny_updateSeq hl rfl (hz := h1) (_hz' := hz)), AutoSeq1.wpAny_loadPart' hl, AutoSeq1.wpAny_loadPart' hb
  exact ⟨_, rfl, h⟩
end
section
variable {X : Cx} {K : PySem.W.Frag}
def rExtT (K : PySem.W.Frag) : V → List V → Hp → VK → Prop := fun x vs H Q => ∃ l b xs zs, x = .ref l ∧ vs = [.ref b] ∧ H l = some (.lst xs) ∧ SqT K H b zs ∧ xs.length + zs.length ≤ sizeLine ∧ Q .non (upd H l (.lst (xs ++ zs)))
theorem mt_extT (hK : X.K = K) : MtM X "list.extend" (rExtT K) := by
  subst hK
  intro pins s σ H x vs v us Q I rx rv ⟨l, b, xs, zs, ex, ev, hH, hB, hz, q⟩
  subst ex
  subst ev
  cases rx
  obtain ⟨u, rfl, ru⟩ := rv.one
  cases ru
  obtain ⟨z, its, n, r, hl, e⟩ := I.lstM hH
  obtain ⟨its2, r2, ⟨⟨oc, od, ob, os⟩, e2, ec, m, eb⟩, z2⟩ := I.tuple hB
  have hl2 := r2.length
  dsimp only at ec eb
  subst ec
  subst eb
  have hs : its.toArray.size + its2.toArray.size ≤ sizeLine := by
    rw [List.size_toArray, List.size_toArray]
    omega
  refine call_meets F.slot_list_extend ⟨_, e, rfl⟩ F.entry_list_extend (F.args_list_extend_2 _ _) (ext_tup l b its.toArray its2.toArray n m od os (fun c => ?_) (by omega) (by omega)) ⟨e, e2, ?_⟩
  · rw [notLongL hs, Bool.and_false] at c
    cases c
  · refine ⟨.non, _, I.lset (its' := its ++ its2) hH e (by simp) (r.append r2) ?_, rfl, q⟩
    rw [List.length_append]
    omega
/-- the items that a slice with a step picks -/
def pk3 {α : Type} (xs : List α) (lo hi : Option Int) (c : Int) : List α :=
  (List.range (Builtin.Slice.slicePlaces (Builtin.Slice.sliceAdjust lo hi c xs.length).1 (Builtin.Slice.sliceAdjust lo hi c xs.length).2 c)).filterMap fun (k : Nat) => xs[((Builtin.Slice.sliceAdjust lo hi c xs.length).1 + (k : Int) * c).toNat]?
theorem pk3_vals {xs : List V} {us : List Value} (r : Vals xs us) (lo hi : Option Int) (c : Int) : Vals (pk3 xs lo hi c) (pk3 us lo hi c) := by
  unfold pk3
  rw [r.length]
  generalize List.range (Builtin.Slice.slicePlaces (Builtin.Slice.sliceAdjust lo hi c us.length).1 (Builtin.Slice.sliceAdjust lo hi c us.length).2 c) = ks
  generalize (Builtin.Slice.sliceAdjust lo hi c us.length).1 = b
  induction ks with
  | nil => exact .nil
  | cons k ks ih =>
    rw [List.filterMap_cons, List.filterMap_cons]
    cases e : xs[(b + (k : Int) * c).toNat]? with
    | none =>
      have : us[(b + (k : Int) * c).toNat]? = none := by
        rw [List.getElem?_eq_none_iff] at e ⊢
        rw [← r.length]
        exact e
      rw [this]
      exact ih
    | some x =>
      obtain ⟨u, e2, ru⟩ := Vals.get r e
      rw [e2]
      exact .cons ru ih
theorem pk3_len {α : Type} (xs : List α) (lo hi : Option Int) (c : Int) : (pk3 xs lo hi c).length ≤ Builtin.Slice.slicePlaces (Builtin.Slice.sliceAdjust lo hi c xs.length).1 (Builtin.Slice.sliceAdjust lo hi c xs.length).2 c := by
  unfold pk3
  refine Nat.le_trans (List.length_filterMap_le _ _) ?_
  rw [List.length_range]
  exact Nat.le_refl _
end
section
variable {prog : Program} {w : World} {A : Around} {E : Value → Shared → Prop} {s : Shared}
theorem applied3 {sl : Addr} {vl vu vs : Value} {lo hi : Option Int} {c : Int} {n : Nat} {Q : Int × Int × Nat → Shared → Prop} (hs : s.heap.IsSliceOf sl vl vu vs) (pl : IsPart vl lo) (pu : IsPart vu hi) (ps : IsPart vs (some c)) (hc : c ≠ 0)
    (h : Q ((Builtin.Slice.sliceAdjust lo hi c n).1, c, Builtin.Slice.slicePlaces (Builtin.Slice.sliceAdjust lo hi c n).1 (Builtin.Slice.sliceAdjust lo hi c n).2 c) s) :
    wpAny (model prog w) A (Builtin.Slice.sliceApplied (.ref sl) (pure (n : Int))) Q E s := by
  obtain ⟨ob, g1, _, g3⟩ := id hs
  unfold Builtin.Slice.sliceApplied Builtin.Slice.sliceFields
  refine wpAny_bind (wpAny_bind (wpAny_field g1 g3 (x := vl) rfl (wpAny_bind (wpAny_field g1 g3 (x := vu) rfl (wpAny_bind (wpAny_field g1 g3 (x := vs) rfl (wpAny_pure ?_)))))))
  refine wpAny_bind (HT.slicePart_ ps ?_)
  show wpAny _ _ (if (c == 0) = true then _ else _) _ _ s
  rw [if_neg (by simpa using hc)]
  refine wpAny_bind (HT.slicePart_ pl (wpAny_bind (HT.slicePart_ pu (wpAny_bind (wpAny_pure ?_)))))
  show wpAny _ _ (match Builtin.Slice.sliceAdjust lo hi c (n : Int) with | (lo, hi) => pure (lo, c, Builtin.Slice.slicePlaces lo hi c)) _ _ s
  exact wpAny_pure h
theorem item3 {t sl : Addr} {items : List Value} {vl vu vs : Value} {lo hi : Option Int} {c : Int} {Q : Value → Shared → Prop} (ht : IsTup s.heap t items.toArray) (hs : s.heap.IsSliceOf sl vl vu vs) (pl : IsPart vl lo) (pu : IsPart vu hi) (ps : IsPart vs (some c)) (hc : c ≠ 0)
    (h1 : c ≠ 1) (h : Q (.ref s.heap.objs.size) { s with heap := s.heap.push { cls := .type "tuple", data := .seq (pk3 items lo hi c).toArray } }) (hz : (pk3 items lo hi c).length ≤ sizeLine) :
    wpAny (model prog w) A (getItem (.ref t) (.ref sl)) Q E s := by
  have fits : sizeOk (.seq (pk3 items lo hi c).toArray) := by
    show (pk3 items lo hi c).toArray.size ≤ sizeLine
    rw [List.size_toArray]
    exact hz
  have isl : s.TypeIs (.ref sl) "slice" := by
    obtain ⟨ob, g1, g2, _⟩ := id hs
    exact ⟨ob, g1, g2⟩
  unfold getItem
  try with_reducible refine wpAny_holding ?_
  first | refine wpAny_bind (wpAny_pure ?_) | skip
  refine wpAny_bind (wpAny_sequenceKey ht.typeIs (by decide) (wpAny_bind (wpAny_callSpecial?_slot (name := Str.ofString "__getitem__") ht.typeIs slot_tuple_getitem (wpAny_call_entry slot_tuple_getitem ht.typeIs entry_tuple_getitem ?_ (args_tuple_getitem _ _)))))
  show wpAny _ _ (Builtin.Tuple.tupleItemsOf (.ref t) >>= _) _ _ s
  refine wpAny_bind (tupleItemsOf_ ht (wpAny_bind (wpAny_typeOf isl ?_)))
  rw [if_pos (by decide)]
  refine wpAny_bind (applied3 hs pl pu ps hc ?_)
  have no : ¬ (((Builtin.Slice.sliceAdjust lo hi c items.toArray.size).1 == 0 && c == 1 && (Builtin.Slice.slicePlaces (Builtin.Slice.sliceAdjust lo hi c items.toArray.size).1 (Builtin.Slice.sliceAdjust lo hi c items.toArray.size).2 c) == items.toArray.size) = true) := fun q => by
    rw [Bool.and_eq_true, Bool.and_eq_true] at q
    exact h1 (eq_of_beq q.1.2)
  have e : ((List.range (Builtin.Slice.slicePlaces (Builtin.Slice.sliceAdjust lo hi c items.toArray.size).1 (Builtin.Slice.sliceAdjust lo hi c items.toArray.size).2 c)).filterMap fun (k : Nat) => items.toArray[((Builtin.Slice.sliceAdjust lo hi c items.toArray.size).1 + (k : Int) * c).toNat]?) = pk3 items lo hi c := by
    unfold pk3
    rw [List.size_toArray]
    simp only [List.getElem?_toArray]
  show wpAny _ _ (if ((Builtin.Slice.sliceAdjust lo hi c items.toArray.size).1 == 0 && c == 1 && (Builtin.Slice.slicePlaces (Builtin.Slice.sliceAdjust lo hi c items.toArray.size).1 (Builtin.Slice.sliceAdjust lo hi c items.toArray.size).2 c) == items.toArray.size) = true then _ else _) _ _ s
  rw [if_neg no, e]
  first
    | exact wpAny_bind (m := Builtin.Tuple.tupleExact _) (wpAny_newObj_type (wpAny_pure ⟨_, rfl, wpAny_pure h⟩) fits)
    | exact wpAny_bind (m := Builtin.Tuple.tupleExact _) (wpAny_newObj_type (wpAny_bind (wpAny_pure (wpAny_pure ⟨_, rfl, wpAny_pure h⟩))) fits)
    | exact wpAny_bind (wpAny_bind (m := Builtin.Tuple.tupleExact _) (wpAny_newObj_type (wpAny_pure (wpAny_pure ⟨_, rfl, wpAny_pure h⟩)) fits))
    | exact wpAny_bind (wpAny_bind (m := Builtin.Tuple.tupleExact _) (wpAny_newObj_type (wpAny_pure ⟨_, rfl, wpAny_pure h⟩) fits))
end
section
variable {X : Cx} {K : PySem.W.Frag} {e s3 : Expr} {lo hi : Option Expr} {te : TE} {tl th t3 : TO} {p3 pos : Pos}
def tSl3 (K : PySem.W.Frag) (te : TE) (tl th t3 : TO) : TE := fun σ H Q => te σ H fun x H1 => tl σ H1 fun l H2 => th σ H2 fun u H3 => t3 σ H3 fun c H4 => ∃ a xs k, x = .ref a ∧ c = some k ∧ SqT K H4 a xs ∧ k ≠ 0 ∧ k ≠ 1 ∧ (pk3 xs l u k).length ≤ sizeLine ∧
  ∀ p, H4 p = none → Q (.ref p) (upd H4 p (.tup (pk3 xs l u k)))
theorem pe_sl3 (hK : X.K = K) (he : PE X e te) (hl : PO X lo tl) (hu : PO X hi th) (h3 : PO X (some s3) t3) (ho : ∀ a b : Addr, ∃ ops, subscripted (Expr.Slice lo hi (some s3) p3) false (.ref a) (.ref b) = operate ops (getItem (.ref a) (.ref b)) := by exact fun _ _ => ⟨_, rfl⟩) : PE X (.Subscript e (.Slice lo hi (some s3) p3) pos) (tSl3 K te tl th t3) := by
  subst hK
  refine ⟨fun pins s σ H Q I h => Subscript_ (thn (he.run pins s σ H _ I h) fun v s1 ⟨x, H1, I1, r1, q1⟩ => wpAny_Slice (thn (hl.run pins s1 σ H1 _ I1 q1) fun vl s2 ⟨l, H2, I2, pl, q2⟩ => thn (hu.run pins s2 σ H2 _ I2 q2) fun vu s4 ⟨u, H3, I3, pu, q3⟩ =>
    thn (h3.run pins s4 σ H3 _ I3 q3) fun vc s5 ⟨c, H4, I4, pc, q4⟩ => ?_))⟩
  obtain ⟨a, xs, k, ex, ec, hx, k0, k1, hz, q⟩ := q4
  subst ex
  subst ec
  cases r1
  have I5 : Inv X pins σ H4 { s5 with heap := s5.heap.push { cls := .type "slice", data := .fields #[vl, vu, vc] } } := I4.kept (t' := s5.toks) fun b ob q => Heap.get?_push_of_some _ q
  obtain ⟨its, r, ht, _⟩ := I5.tuple hx
  have rv := pk3_vals r l u k
  show wpAny (model X.prog X.w) X.A (subscriptTail e (.Slice lo hi (some s3) p3) (.ref a) (.ref s5.heap.objs.size)) (EP X pins σ Q) X.xe { s5 with heap := s5.heap.push { cls := .type "slice", data := .fields #[vl, vu, vc] } }
  obtain ⟨ops, hops⟩ := ho a s5.heap.objs.size
  refine tail_any (ops := ops) ht.typeIs (slot_tuple_getitem.lookup) ?_ hops
  refine item3 ht (Heap.IsSliceOf.new _ vl vu vc) pl pu pc k0 k1 ?_ (by rw [← rv.length]; exact hz)
  refine ⟨.ref _, _, I5.laid (t' := s5.toks) (o := .tup (pk3 xs l u k)) (fun b ob q => Heap.get?_push_of_some _ q) (Nat.le_refl _) ?_, rfl, q _ (I5.hok.fresh (Nat.le_refl _))⟩
  exact ⟨hz, _, rv, IsTup.new _ _⟩
end
end Tx
/-! truth over a word without end: one step x ↦ B or (A and x), forwards and backwards -/
namespace Tr
/-- n steps back from s + n to s -/
def bk (A B : Nat → Bool) : Nat → Nat → Bool → Bool
  | _, 0, x => x
  | s, n + 1, x => B s || (A s && bk A B (s + 1) n x)
theorem bk_add (A B : Nat → Bool) (m : Nat) (x : Bool) : ∀ (n s : Nat), bk A B s (n + m) x = bk A B s n (bk A B (s + n) m x)
  | 0, s => by rw [Nat.zero_add]; rfl
  | n + 1, s => by
    have e : n + 1 + m = (n + m) + 1 := by omega
    rw [e]
    show (B s || (A s && bk A B (s + 1) (n + m) x)) = (B s || (A s && bk A B (s + 1) n (bk A B (s + (n + 1)) m x)))
    rw [bk_add A B m x n (s + 1), show s + 1 + n = s + (n + 1) by omega]
theorem bk_form (A B : Nat → Bool) : ∀ (n s : Nat), ∃ P Q : Bool, ∀ x, bk A B s n x = (P || (Q && x))
  | 0, s => ⟨false, true, fun x => by simp [bk]⟩
  | n + 1, s => by
    obtain ⟨P, Q, h⟩ := bk_form A B n (s + 1)
    refine ⟨B s || (A s && P), A s && Q, fun x => ?_⟩
    show (B s || (A s && bk A B (s + 1) n x)) = _
    rw [h]
    cases B s <;> cases A s <;> cases P <;> cases Q <;> cases x <;> rfl
theorem bk_mono {A B : Nat → Bool} {n s : Nat} (h : bk A B s n false = true) (x : Bool) : bk A B s n x = true := by
  obtain ⟨P, Q, e⟩ := bk_form A B n s
  rw [e] at h ⊢
  cases P <;> cases Q <;> cases x <;> simp_all
theorem bk_twice (A B : Nat → Bool) (n s : Nat) (x : Bool) : bk A B s n (bk A B s n x) = bk A B s n x := by
  obtain ⟨P, Q, e⟩ := bk_form A B n s
  rw [e, e]
  cases P <;> cases Q <;> cases x <;> rfl
theorem bk_congr {A B A' B' : Nat → Bool} (x : Bool) : ∀ (n s s' : Nat), (∀ i, i < n → A (s + i) = A' (s' + i) ∧ B (s + i) = B' (s' + i)) → bk A B s n x = bk A' B' s' n x
  | 0, _, _, _ => rfl
  | n + 1, s, s', h => by
    have h0 := h 0 (Nat.succ_pos n)
    have ih := bk_congr x n (s + 1) (s' + 1) fun i hi => by
      have := h (i + 1) (by omega)
      rwa [show s + (i + 1) = s + 1 + i by omega, show s' + (i + 1) = s' + 1 + i by omega] at this
    show (B s || (A s && bk A B (s + 1) n x)) = (B' s' || (A' s' && bk A' B' (s' + 1) n x))
    rw [ih, show A s = A' s' from h0.1, show B s = B' s' from h0.2]
/-- from m on of period L -/
def Pd (f : Nat → Bool) (m L : Nat) : Prop := ∀ t, m ≤ t → f (t + L) = f t
theorem Pd.up {f : Nat → Bool} {m n L : Nat} (h : Pd f m L) (k : m ≤ n) : Pd f n L := fun t ht => h t (Nat.le_trans k ht)
theorem Pd.mul {f : Nat → Bool} {m L : Nat} (h : Pd f m L) : ∀ k t, m ≤ t → f (t + k * L) = f t
  | 0, t, _ => by rw [Nat.zero_mul]; rfl
  | k + 1, t, ht => by
    rw [Nat.succ_mul, ← Nat.add_assoc, h _ (by omega), h.mul k t ht]
open Classical in
/-- the future's limit: from the start value i -/
noncomputable def lim (i : Bool) (A B : Nat → Bool) (t : Nat) : Bool :=
  if i = true then decide (∀ n, bk A B t n true = true) else decide (∃ n, bk A B t n false = true)
theorem lim_t {A B : Nat → Bool} {t : Nat} : lim true A B t = true ↔ ∀ n, bk A B t n true = true := by
  unfold lim
  simp
theorem lim_f {A B : Nat → Bool} {t : Nat} : lim false A B t = true ↔ ∃ n, bk A B t n false = true := by
  unfold lim
  simp
theorem bool_ext {a b : Bool} (h : a = true ↔ b = true) : a = b := by
  cases a <;> cases b <;> simp_all
theorem lim_step (i : Bool) (A B : Nat → Bool) (t : Nat) : lim i A B t = (B t || (A t && lim i A B (t + 1))) := by
  apply bool_ext
  cases i with
  | true =>
    rw [lim_t]
    constructor
    · intro h
      cases hb : B t with
      | true => rfl
      | false =>
        cases ha : A t with
        | false =>
          have := h 1
          rw [show bk A B t 1 true = (B t || (A t && true)) from rfl, hb, ha] at this
          cases this
        | true =>
          rw [Bool.false_or, Bool.true_and, lim_t]
          intro n
          have := h (n + 1)
          rw [show bk A B t (n + 1) true = (B t || (A t && bk A B (t + 1) n true)) from rfl, hb, ha] at this
          simpa using this
    · intro h n
      cases n with
      | zero => rfl
      | succ n =>
        show (B t || (A t && bk A B (t + 1) n true)) = true
        rw [Bool.or_eq_true, Bool.and_eq_true] at h ⊢
        rcases h with h | ⟨h1, h2⟩
        · exact .inl h
        · exact .inr ⟨h1, lim_t.mp h2 n⟩
  | false =>
    rw [lim_f]
    constructor
    · rintro ⟨n, h⟩
      cases n with
      | zero => cases h
      | succ n =>
        rw [show bk A B t (n + 1) false = (B t || (A t && bk A B (t + 1) n false)) from rfl] at h
        rw [Bool.or_eq_true, Bool.and_eq_true] at h ⊢
        rcases h with h | ⟨h1, h2⟩
        · exact .inl h
        · exact .inr ⟨h1, lim_f.mpr ⟨n, h2⟩⟩
    · intro h
      rw [Bool.or_eq_true, Bool.and_eq_true] at h
      rcases h with h | ⟨h1, h2⟩
      · exact ⟨1, by show (B t || _) = true; rw [h]; rfl⟩
      · obtain ⟨n, hn⟩ := lim_f.mp h2
        exact ⟨n + 1, by show (B t || (A t && bk A B (t + 1) n false)) = true; rw [hn, h1, Bool.and_true, Bool.or_true]⟩
theorem lim_bk (i : Bool) (A B : Nat → Bool) : ∀ n t, lim i A B t = bk A B t n (lim i A B (t + n))
  | 0, t => rfl
  | n + 1, t => by
    rw [lim_step, lim_bk i A B n (t + 1), show t + 1 + n = t + (n + 1) by omega]
    rfl
theorem lim_pd {i : Bool} {A B : Nat → Bool} {m L : Nat} (ha : Pd A m L) (hb : Pd B m L) : Pd (lim i A B) m L := fun t ht => by
  have e : ∀ n x, bk A B (t + L) n x = bk A B t n x := fun n x => bk_congr x n _ _ fun j _ => by
    rw [show t + L + j = t + j + L by omega]
    exact ⟨ha _ (by omega), hb _ (by omega)⟩
  apply bool_ext
  cases i with
  | true => rw [lim_t, lim_t]; simp only [e]
  | false => rw [lim_f, lim_f]; simp only [e]
theorem bk_round {A B : Nat → Bool} {m L : Nat} (ha : Pd A m L) (hb : Pd B m L) : ∀ k y, bk A B m ((k + 1) * L) y = bk A B m L y
  | 0, y => by rw [Nat.zero_add, Nat.one_mul]
  | k + 1, y => by
    rw [Nat.succ_mul (k + 1), bk_add]
    have e : bk A B (m + (k + 1) * L) L y = bk A B m L y := bk_congr y L _ _ fun j _ => by
      rw [show m + (k + 1) * L + j = (m + j) + (k + 1) * L by omega]
      exact ⟨ha.mul _ _ (by omega), hb.mul _ _ (by omega)⟩
    rw [e, bk_round ha hb k, bk_twice]
theorem bk_le_t {A B : Nat → Bool} {n s : Nat} {x : Bool} (h : bk A B s n x = true) : bk A B s n true = true := by
  obtain ⟨P, Q, e⟩ := bk_form A B n s
  rw [e] at h ⊢
  cases P <;> cases Q <;> cases x <;> simp_all
/-- once round the loop from the start value is the limit -/
theorem lim_loop {i : Bool} {A B : Nat → Bool} {m L : Nat} (hL : 0 < L) (ha : Pd A m L) (hb : Pd B m L) : lim i A B m = bk A B m L i := by
  apply bool_ext
  cases i with
  | true =>
    rw [lim_t]
    refine ⟨fun h => h L, fun h n => ?_⟩
    have h2 := bk_round ha hb n true
    rw [h] at h2
    have le : n ≤ (n + 1) * L := Nat.le_trans (Nat.le_succ n) (Nat.le_mul_of_pos_right _ hL)
    obtain ⟨j, hj⟩ := Nat.exists_eq_add_of_le le
    rw [hj, bk_add] at h2
    exact bk_le_t h2
  | false =>
    rw [lim_f]
    refine ⟨fun ⟨n, h⟩ => ?_, fun h => ⟨L, h⟩⟩
    have h2 := bk_round ha hb n false
    have le : n ≤ (n + 1) * L := Nat.le_trans (Nat.le_succ n) (Nat.le_mul_of_pos_right _ hL)
    obtain ⟨j, hj⟩ := Nat.exists_eq_add_of_le le
    rw [hj, bk_add, bk_mono h] at h2
    exact h2.symm
/-! forwards -/
def fw (i : Bool) (A B : Nat → Bool) : Nat → Bool
  | 0 => B 0 || (A 0 && i)
  | t + 1 => B (t + 1) || (A (t + 1) && fw i A B t)
/-- n steps on from a value -/
def st (A B : Nat → Bool) : Nat → Nat → Bool → Bool
  | _, 0, x => x
  | s, n + 1, x => B (s + n) || (A (s + n) && st A B s n x)
theorem st_form (A B : Nat → Bool) : ∀ (n s : Nat), ∃ P Q : Bool, ∀ x, st A B s n x = (P || (Q && x))
  | 0, s => ⟨false, true, fun x => by simp [st]⟩
  | n + 1, s => by
    obtain ⟨P, Q, h⟩ := st_form A B n s
    refine ⟨B (s + n) || (A (s + n) && P), A (s + n) && Q, fun x => ?_⟩
    show (B (s + n) || (A (s + n) && st A B s n x)) = _
    rw [h]
    cases B (s + n) <;> cases A (s + n) <;> cases P <;> cases Q <;> cases x <;> rfl
theorem st_congr {A B A' B' : Nat → Bool} (x : Bool) : ∀ (n s s' : Nat), (∀ i, i < n → A (s + i) = A' (s' + i) ∧ B (s + i) = B' (s' + i)) → st A B s n x = st A' B' s' n x
  | 0, _, _, _ => rfl
  | n + 1, s, s', h => by
    have h0 := h n (Nat.lt_succ_self n)
    have ih := st_congr x n s s' fun i hi => h i (by omega)
    show (B (s + n) || (A (s + n) && st A B s n x)) = (B' (s' + n) || (A' (s' + n) && st A' B' s' n x))
    rw [ih, h0.1, h0.2]
theorem fw_st (i : Bool) (A B : Nat → Bool) (t : Nat) : ∀ n, fw i A B (t + n) = st A B (t + 1) n (fw i A B t)
  | 0 => rfl
  | n + 1 => by
    show (B (t + n + 1) || (A (t + n + 1) && fw i A B (t + n))) = (B (t + 1 + n) || (A (t + 1 + n) && st A B (t + 1) n (fw i A B t)))
    rw [fw_st i A B t n, show t + n + 1 = t + 1 + n by omega]
/-- one round more -/
theorem fw_pd {i : Bool} {A B : Nat → Bool} {m L : Nat} (hL : 0 < L) (ha : Pd A m L) (hb : Pd B m L) : Pd (fw i A B) (m + L) L := fun t ht => by
  obtain ⟨r, rfl⟩ := Nat.exists_eq_add_of_le (show L ≤ t by omega)
  rw [Nat.add_comm L r] at ht ⊢
  have e : ∀ x, st A B (r + L + 1) L x = st A B (r + 1) L x := fun x => st_congr x L _ _ fun j _ => by
    rw [show r + L + 1 + j = r + 1 + j + L by omega]
    exact ⟨ha _ (by omega), hb _ (by omega)⟩
  rw [fw_st i A B (r + L) L, e, fw_st i A B r L]
  obtain ⟨P, Q, h⟩ := st_form A B L (r + 1)
  rw [h, h]
  cases P <;> cases Q <;> cases fw i A B r <;> rfl
end Tr

namespace Tr
open PySem
/-! formulas, what each sign does, their truth along a word -/
inductive Fm where
  | c0 (k : Str)
  | sg (s : Str)
  | un (k : Str) (f : Fm)
  | bin (k : Str) (f g : Fm)
abbrev sSig : Str := "signal"
def steps : List Str := ["next", "previous", "weak_previous"]
def past : List Str := ["previous", "weak_previous", "once", "historically", "since", "trigger"]
def future : List Str := ["next", "eventually", "always", "until", "weak_until", "release"]
def beyond : List Str := ["weak_previous", "historically", "trigger", "always", "release", "weak_until"]
def plB (k : Str) (a b : Bool) : Bool :=
  if k = "not" then !a else if k = "and" then a && b else if k = "or" then a || b else if k = "implies" then !a || b else if k = "iff" then a == b else decide (k = "true")
def tofB (k : Str) (a b c : Bool) : Bool :=
  if k ∈ steps then c else if k ∈ (["eventually", "once"] : List Str) then a || c else if k ∈ (["always", "historically"] : List Str) then a && c
  else if k ∈ (["release", "trigger"] : List Str) then b && (a || c) else if k ∈ (["until", "weak_until", "since"] : List Str) then b || (a && c) else plB k a b
theorem tofB_form (k : Str) (a b c : Bool) : tofB k a b c = (tofB k a b false || (tofB k a b true && c)) := by
  unfold tofB
  split
  · cases c <;> rfl
  · split
    · cases a <;> cases c <;> rfl
    · split
      · cases a <;> cases c <;> rfl
      · split
        · cases a <;> cases b <;> cases c <;> rfl
        · split
          · cases a <;> cases b <;> cases c <;> rfl
          · cases plB k a b <;> cases c <;> rfl
theorem tofB_step {k : Str} (h : k ∈ steps) (a b c : Bool) : tofB k a b c = c := by
  unfold tofB
  rw [if_pos h]
def ini (k : Str) : Bool := decide (k ∈ beyond)
section
variable (k : Str) (a b : Nat → Bool)
def stA : Nat → Bool := fun t => tofB k (a t) (b t) true
def stB : Nat → Bool := fun t => tofB k (a t) (b t) false
/-- what the turn ahead hands back -/
noncomputable def carF (t : Nat) : Bool := if k ∈ steps then a t else lim (ini k) (stA k a b) (stB k a b) t
/-- what the turn behind hands on -/
def carP : Nat → Bool
  | 0 => ini k
  | t + 1 => if k ∈ steps then a t else fw (ini k) (stA k a b) (stB k a b) t
noncomputable def sq (t : Nat) : Bool := tofB k (a t) (b t) (if k ∈ past then carP k a b t else if k ∈ future then carF k a b (t + 1) else false)
end
theorem tof_st (k : Str) (a b : Nat → Bool) (t : Nat) (c : Bool) : tofB k (a t) (b t) c = (stB k a b t || (stA k a b t && c)) := tofB_form k (a t) (b t) c
theorem sq_past {k : Str} (h : k ∈ past) (a b : Nat → Bool) (t : Nat) : sq k a b t = tofB k (a t) (b t) (carP k a b t) := by
  unfold sq
  rw [if_pos h]
theorem sq_fut {k : Str} (h0 : ¬ k ∈ past) (h : k ∈ future) (a b : Nat → Bool) (t : Nat) : sq k a b t = tofB k (a t) (b t) (carF k a b (t + 1)) := by
  unfold sq
  rw [if_neg h0, if_pos h]
theorem sq_pl {k : Str} (h0 : ¬ k ∈ past) (h : ¬ k ∈ future) (a b : Nat → Bool) (t : Nat) : sq k a b t = tofB k (a t) (b t) false := by
  unfold sq
  rw [if_neg h0, if_neg h]
theorem carP_next {k : Str} (h : k ∈ past) (a b : Nat → Bool) (t : Nat) : carP k a b (t + 1) = if k ∈ steps then a t else sq k a b t := by
  show (if k ∈ steps then a t else fw (ini k) (stA k a b) (stB k a b) t) = _
  split
  · rfl
  · rename_i hs
    rw [sq_past h, tof_st]
    cases t with
    | zero => rfl
    | succ t =>
      show _ = (stB k a b (t + 1) || (stA k a b (t + 1) && (if k ∈ steps then a t else fw (ini k) (stA k a b) (stB k a b) t)))
      rw [if_neg hs]
      rfl
theorem carF_sq {k : Str} (h0 : ¬ k ∈ past) (h : k ∈ future) (a b : Nat → Bool) (t : Nat) : carF k a b t = if k ∈ steps then a t else sq k a b t := by
  unfold carF
  split
  · rfl
  · rename_i hs
    rw [sq_fut h0 h, tof_st, carF, if_neg hs]
    exact lim_step _ _ _ _
def tb (k : Str) : Nat := if k ∈ past then 1 else 0
theorem st_pd {k : Str} {a b : Nat → Bool} {m L : Nat} (ha : Pd a m L) (hb : Pd b m L) : Pd (stA k a b) m L ∧ Pd (stB k a b) m L :=
  ⟨fun t ht => by unfold stA; rw [ha t ht, hb t ht], fun t ht => by unfold stB; rw [ha t ht, hb t ht]⟩
theorem carF_pd {k : Str} {a b : Nat → Bool} {m L : Nat} (ha : Pd a m L) (hb : Pd b m L) : Pd (carF k a b) m L := by
  intro t ht
  unfold carF
  split
  · exact ha t ht
  · exact lim_pd (st_pd ha hb).1 (st_pd ha hb).2 t ht
theorem sq_fw {k : Str} (h : k ∈ past) (hs : ¬ k ∈ steps) (a b : Nat → Bool) (t : Nat) : sq k a b t = fw (ini k) (stA k a b) (stB k a b) t := by
  have q := carP_next h a b t
  rw [if_neg hs] at q
  rw [← q]
  show (if k ∈ steps then a t else fw (ini k) (stA k a b) (stB k a b) t) = _
  rw [if_neg hs]
theorem sq_pd {k : Str} {a b : Nat → Bool} {m L : Nat} (hL : 0 < L) (ha : Pd a m L) (hb : Pd b m L) : Pd (sq k a b) (m + tb k * L) L := by
  intro t ht
  unfold tb at ht
  by_cases hp : k ∈ past
  · rw [if_pos hp, Nat.one_mul] at ht
    by_cases hs : k ∈ steps
    · rw [sq_past hp, sq_past hp, tofB_step hs, tofB_step hs]
      obtain ⟨u, rfl⟩ : ∃ u, t = u + 1 := ⟨t - 1, by omega⟩
      rw [show u + 1 + L = u + L + 1 by omega, carP_next hp, carP_next hp, if_pos hs, if_pos hs]
      exact ha u (by omega)
    · rw [sq_fw hp hs, sq_fw hp hs]
      exact fw_pd hL (st_pd ha hb).1 (st_pd ha hb).2 t ht
  · rw [if_neg hp, Nat.zero_mul] at ht
    by_cases hf : k ∈ future
    · rw [sq_fut hp hf, sq_fut hp hf, ha t ht, hb t ht, show t + L + 1 = t + 1 + L by omega, carF_pd ha hb (t + 1) (by omega)]
    · rw [sq_pl hp hf, sq_pl hp hf, ha t ht, hb t ht]
/-- the future's value handed back at the word's end is the one at the loop's start after one round -/
def rndF (k : Str) (a b : Nat → Bool) (N : Nat) : Nat → Bool
  | 0 => ini k
  | j + 1 => if k ∈ steps then a (N - (j + 1)) else tofB k (a (N - (j + 1))) (b (N - (j + 1))) (rndF k a b N j)
theorem rndF_bk {k : Str} {a b : Nat → Bool} {N : Nat} (hs : ¬ k ∈ steps) : ∀ j, j ≤ N → rndF k a b N j = bk (stA k a b) (stB k a b) (N - j) j (ini k)
  | 0, _ => rfl
  | j + 1, h => by
    show (if k ∈ steps then a (N - (j + 1)) else tofB k (a (N - (j + 1))) (b (N - (j + 1))) (rndF k a b N j)) = _
    rw [if_neg hs, rndF_bk hs j (by omega), tof_st]
    show _ = (stB k a b (N - (j + 1)) || (stA k a b (N - (j + 1)) && bk (stA k a b) (stB k a b) (N - (j + 1) + 1) j (ini k)))
    rw [show N - (j + 1) + 1 = N - j by omega]
theorem rndF_end {k : Str} {a b : Nat → Bool} {m L : Nat} (hL : 0 < L) (ha : Pd a m L) (hb : Pd b m L) : rndF k a b (m + L) L = carF k a b (m + L) := by
  rw [carF_pd ha hb m (Nat.le_refl _)]
  unfold carF
  by_cases hs : k ∈ steps
  · obtain ⟨j, rfl⟩ : ∃ j, L = j + 1 := ⟨L - 1, by omega⟩
    show (if k ∈ steps then a (m + (j + 1) - (j + 1)) else _) = _
    rw [if_pos hs, if_pos hs, Nat.add_sub_cancel]
  · rw [if_neg hs, rndF_bk hs L (by omega), Nat.add_sub_cancel, lim_loop hL (st_pd ha hb).1 (st_pd ha hb).2]
/-! a formula's truth -/
def bitI (z : Int) (i : Nat) : Bool := decide (z / 2 ^ i % 2 = 1)
noncomputable def sem (nm : List Str) (x : Nat → Int) : Fm → Nat → Bool
  | .c0 k => sq k (fun _ => false) (fun _ => false)
  | .sg s => fun t => bitI (x t) (nm.idxOf s)
  | .un k f => sq k (sem nm x f) (fun _ => false)
  | .bin k f g => sq k (sem nm x f) (sem nm x g)
def pd : Fm → Nat
  | .c0 k => tb k
  | .sg _ => 0
  | .un k f => pd f + tb k
  | .bin k f g => max (pd f) (pd g) + tb k
theorem pd_c (m L : Nat) (c : Bool) : Pd (fun _ => c) m L := fun _ _ => rfl
theorem sem_pd {nm : List Str} {x : Nat → Int} {h L : Nat} (hL : 0 < L) (hx : ∀ t, h ≤ t → x (t + L) = x t) : ∀ f : Fm, Pd (sem nm x f) (h + pd f * L) L
  | .c0 k => sq_pd hL (pd_c h L false) (pd_c h L false)
  | .sg s => fun t ht => by
    show bitI (x (t + L)) _ = bitI (x t) _
    rw [hx t (by have : h ≤ h + pd (.sg s) * L := Nat.le_add_right _ _; omega)]
  | .un k f => by
    have q := sq_pd (k := k) hL (sem_pd (nm := nm) hL hx f) (pd_c _ L false)
    rw [Nat.add_assoc, ← Nat.add_mul] at q
    exact q
  | .bin k f g => by
    have e1 : h + pd f * L ≤ h + max (pd f) (pd g) * L := Nat.add_le_add_left (Nat.mul_le_mul_right L (Nat.le_max_left _ _)) h
    have e2 : h + pd g * L ≤ h + max (pd f) (pd g) * L := Nat.add_le_add_left (Nat.mul_le_mul_right L (Nat.le_max_right _ _)) h
    have q := sq_pd (k := k) hL ((sem_pd (nm := nm) hL hx f).up e1) ((sem_pd (nm := nm) hL hx g).up e2)
    rw [Nat.add_assoc, ← Nat.add_mul] at q
    exact q
/-! the parts -/
abbrev Pt := Str × Int × Int
def kids : Fm → List Fm
  | .c0 _ => []
  | .sg _ => []
  | .un _ f => [f]
  | .bin _ f g => [f, g]
def kd : Fm → Str
  | .c0 k => k
  | .sg _ => sSig
  | .un k _ => k
  | .bin k _ _ => k
def sz : Fm → Nat
  | .c0 _ => 1
  | .sg _ => 1
  | .un _ f => sz f + 1
  | .bin _ f g => sz f + sz g + 1
def pre : Fm → List Fm
  | .c0 k => [.c0 k]
  | .sg s => [.sg s]
  | .un k f => .un k f :: pre f
  | .bin k f g => .bin k f g :: (pre f ++ pre g)
theorem pre_kids (f : Fm) : pre f = f :: ((kids f).map pre).flatten := by
  cases f <;> simp [pre, kids]
theorem pre_len : ∀ f : Fm, (pre f).length = sz f
  | .c0 _ => rfl
  | .sg _ => rfl
  | .un k f => by
    show (pre f).length + 1 = sz f + 1
    rw [pre_len f]
  | .bin k f g => by
    show (pre f ++ pre g).length + 1 = sz f + sz g + 1
    rw [List.length_append, pre_len f, pre_len g]
theorem sz_pos (f : Fm) : 0 < sz f := by cases f <;> exact Nat.succ_pos _
/-- what stands in the formula is no sign of another kind, and its signals are named -/
def Wf (nm : List Str) : Fm → Prop
  | .c0 k => k ≠ sSig
  | .sg s => s ∈ nm
  | .un k f => k ≠ sSig ∧ Wf nm f
  | .bin k f g => k ≠ sSig ∧ Wf nm f ∧ Wf nm g
/-- the stack S, fed with the rest of the row, ends as the root alone -/
def Vl (root : Fm) : List Fm → List Fm → Prop
  | S, [] => S = [root]
  | S, g :: R => ∃ S', S = kids g ++ S' ∧ Vl root (g :: S') R
theorem vl_pre (root : Fm) : ∀ (f : Fm) (S R : List Fm), Vl root (f :: S) R → Vl root S ((pre f).reverse ++ R)
  | .c0 k, S, R, h => ⟨S, rfl, h⟩
  | .sg s, S, R, h => ⟨S, rfl, h⟩
  | .un k f, S, R, h => by
    show Vl root S ((Fm.un k f :: pre f).reverse ++ R)
    rw [List.reverse_cons, List.append_assoc]
    exact vl_pre root f S _ ⟨S, rfl, h⟩
  | .bin k f g, S, R, h => by
    show Vl root S ((Fm.bin k f g :: (pre f ++ pre g)).reverse ++ R)
    rw [List.reverse_cons, List.reverse_append, List.append_assoc, List.append_assoc]
    exact vl_pre root g S _ (vl_pre root f (g :: S) _ ⟨S, rfl, h⟩)
theorem vl_root (f : Fm) : Vl f [] (pre f).reverse := by
  have q := vl_pre f f [] [] rfl
  rwa [List.append_nil] at q
def Node (nm : List Str) (Fs : List Fm) (k : Nat) : Fm → Pt → Prop
  | .c0 c, p => c ≠ sSig ∧ p = (c, -1, -1)
  | .sg s, p => s ∈ nm ∧ p = (sSig, ((nm.idxOf s : Nat) : Int), -1)
  | .un c f, p => c ≠ sSig ∧ ∃ i : Nat, i < k ∧ Fs[i]? = some f ∧ p = (c, (i : Int), -1)
  | .bin c f g, p => c ≠ sSig ∧ ∃ i j : Nat, i < k ∧ j < k ∧ Fs[i]? = some f ∧ Fs[j]? = some g ∧ p = (c, (i : Int), (j : Int))
structure Good (nm : List Str) (P : List Pt) (Fs : List Fm) : Prop where
  len : P.length = Fs.length
  nd : ∀ k f p, Fs[k]? = some f → P[k]? = some p → Node nm Fs k f p
theorem Node.up {nm : List Str} {Fs : List Fm} {k k' : Nat} {f g : Fm} {p : Pt} (h : Node nm Fs k f p) (hk : k ≤ k') (hl : k ≤ Fs.length) : Node nm (Fs ++ [g]) k' f p := by
  cases f with
  | c0 c => exact h
  | sg s => exact h
  | un c f =>
    obtain ⟨h1, i, h2, h3, h4⟩ := h
    exact ⟨h1, i, by omega, by rw [List.getElem?_append_left (by omega)]; exact h3, h4⟩
  | bin c f f2 =>
    obtain ⟨h1, i, j, h2, h3, h4, h5, h6⟩ := h
    exact ⟨h1, i, j, by omega, by omega, by rw [List.getElem?_append_left (by omega)]; exact h4, by rw [List.getElem?_append_left (by omega)]; exact h5, h6⟩
theorem Good.snoc {nm : List Str} {P : List Pt} {Fs : List Fm} {f : Fm} {p : Pt} (h : Good nm P Fs) (n : Node nm Fs P.length f p) : Good nm (P ++ [p]) (Fs ++ [f]) := by
  refine ⟨by rw [List.length_append, List.length_append, h.len]; rfl, fun k g q hg hq => ?_⟩
  have e := h.len
  rcases Nat.lt_or_ge k P.length with c | c
  · rw [List.getElem?_append_left (by omega)] at hg
    rw [List.getElem?_append_left c] at hq
    exact (h.nd k g q hg hq).up (Nat.le_refl _) (by omega)
  · rw [List.getElem?_append_right (by omega)] at hg
    rw [List.getElem?_append_right c] at hq
    have hk : k = P.length := by
      rcases Nat.eq_or_lt_of_le c with z | z
      · exact z.symm
      · rw [List.getElem?_eq_none (by simp; omega)] at hq
        cases hq
    rw [hk, Nat.sub_self] at hq
    rw [hk, e, Nat.sub_self] at hg
    cases hg
    cases hq
    rw [hk]
    exact n.up (Nat.le_refl _) (by omega)
theorem node_uniq {nm : List Str} {Fs : List Fm} {k k' : Nat} {f g : Fm} {p : Pt} (h : Node nm Fs k f p) (h' : Node nm Fs k' g p) : f = g := by
  cases f with
  | c0 c =>
    obtain ⟨h1, rfl⟩ := h
    cases g with
    | c0 c' => obtain ⟨_, e⟩ := h'; cases e; rfl
    | sg s => obtain ⟨_, e⟩ := h'; injection e with e _; exact absurd e h1
    | un c' f => obtain ⟨_, i, _, _, e⟩ := h'; injection e with _ e; injection e with e _; omega
    | bin c' f f2 => obtain ⟨_, i, j, _, _, _, _, e⟩ := h'; injection e with _ e; injection e with e _; omega
  | sg s =>
    obtain ⟨h1, rfl⟩ := h
    cases g with
    | c0 c' => obtain ⟨h2, e⟩ := h'; injection e with e _; exact absurd e.symm h2
    | sg s' =>
      obtain ⟨h2, e⟩ := h'
      injection e with _ e
      injection e with e _
      have e : nm.idxOf s = nm.idxOf s' := by omega
      have a1 := List.getElem_idxOf (List.idxOf_lt_length_of_mem h1)
      have a2 := List.getElem_idxOf (List.idxOf_lt_length_of_mem h2)
      rw [← a1, ← a2]
      simp only [e]
    | un c' f => obtain ⟨h2, i, _, _, e⟩ := h'; injection e with e _; exact absurd e.symm h2
    | bin c' f f2 => obtain ⟨h2, i, j, _, _, _, _, e⟩ := h'; injection e with e _; first | exact absurd e.symm h2 | exact absurd e h2
  | un c f =>
    obtain ⟨h1, i, _, h3, rfl⟩ := h
    cases g with
    | c0 c' => obtain ⟨_, e⟩ := h'; injection e with _ e; injection e with e _; omega
    | sg s => obtain ⟨_, e⟩ := h'; injection e with e _; exact absurd e h1
    | un c' f' =>
      obtain ⟨_, i', _, h4, e⟩ := h'
      injection e with e1 e
      injection e with e2 _
      have e2 : i = i' := by omega
      rw [e2, h4] at h3
      cases h3
      rw [e1]
    | bin c' f' f2 => obtain ⟨_, i', j, _, _, _, _, e⟩ := h'; injection e with _ e; injection e with _ e; omega
  | bin c f f2 =>
    obtain ⟨h1, i, j, _, _, h3, h4, rfl⟩ := h
    cases g with
    | c0 c' => obtain ⟨_, e⟩ := h'; injection e with _ e; injection e with e _; omega
    | sg s => obtain ⟨_, e⟩ := h'; injection e with e _; exact absurd e h1
    | un c' f' => obtain ⟨_, i', _, _, e⟩ := h'; injection e with _ e; injection e with _ e; omega
    | bin c' f' f2' =>
      obtain ⟨_, i', j', _, _, h5, h6, e⟩ := h'
      injection e with e1 e
      injection e with e2 e3
      have e2 : i = i' := by omega
      have e3 : j = j' := by omega
      rw [e2, h5] at h3
      rw [e3, h6] at h4
      cases h3
      cases h4
      rw [e1]
def pc (P : List Pt) : Nat := (P.filter fun p => decide (p.1 ∈ past)).length
theorem pc_take {P : List Pt} {k : Nat} {p : Pt} (h : P[k]? = some p) : pc (P.take (k + 1)) = pc (P.take k) + tb p.1 := by
  unfold pc tb
  rw [List.take_succ, h, List.filter_append, List.length_append]
  rw [Option.toList_some, List.filter_cons, List.filter_nil]
  by_cases c : p.1 ∈ past
  · rw [if_pos c, if_pos (decide_eq_true c)]
    rfl
  · rw [if_neg c, if_neg (by rw [decide_eq_true_eq]; exact c)]
    rfl
theorem pc_mono {P : List Pt} {i j : Nat} (h : i ≤ j) : pc (P.take i) ≤ pc (P.take j) := by
  unfold pc
  rw [← List.countP_eq_length_filter, ← List.countP_eq_length_filter]
  exact (List.take_sublist_take_left h).countP_le
theorem pd_pc {nm : List Str} {P : List Pt} {Fs : List Fm} (G : Good nm P Fs) : ∀ k f, Fs[k]? = some f → pd f ≤ pc (P.take (k + 1)) := by
  intro k
  induction k using Nat.strongRecOn with
  | _ k ih =>
    intro f hf
    have hk : k < P.length := by
      rw [G.len]
      exact (List.getElem?_eq_some_iff.mp hf).1
    have hp : P[k]? = some P[k] := List.getElem?_eq_getElem hk
    have n := G.nd k f _ hf hp
    rw [pc_take hp]
    generalize P[k] = p at n
    cases f with
    | c0 c => obtain ⟨_, rfl⟩ := n; exact Nat.le_add_left _ _
    | sg s => exact Nat.zero_le _
    | un c f =>
      obtain ⟨_, i, hi, h3, rfl⟩ := n
      have := ih i hi f h3
      have := pc_mono (P := P) (show i + 1 ≤ k by omega)
      show pd f + tb c ≤ _ + tb c
      omega
    | bin c f g =>
      obtain ⟨_, i, j, hi, hj, h3, h4, rfl⟩ := n
      have := ih i hi f h3
      have := ih j hj g h4
      have := pc_mono (P := P) (show i + 1 ≤ k by omega)
      have := pc_mono (P := P) (show j + 1 ≤ k by omega)
      show max (pd f) (pd g) + tb c ≤ _ + tb c
      omega
end Tr
namespace Bx
open PySem PySem.Spec PyProof.Rows L2 Tr Tx
section
variable {X : Cx} {K : PySem.W.Frag}
theorem op_inK (h : X.K = K) : OpR X (compareOp .In) (rIn K false) := by
  subst h
  exact op_in_seq
theorem op_notInK (h : X.K = K) : OpR X (compareOp .NotIn) (rIn K true) := by
  subst h
  exact op_notIn_seq
theorem mt_indexK (h : X.K = K) : MtR X "list.index" (rIndex K) := by
  subst h
  exact mt_index
theorem pe_revLK {e : Expr} {te : TE} {k : Nat} {p1 p2 p3 pos : Pos} (h : X.K = K) (he : PE X e te) : PE X (.Subscript e (.Slice none none (some (.UnaryOp .USub (.Constant (.int 1) k p1) p2)) p3) pos) (tRevL K te) := by
  subst h
  exact pe_revL he
end
theorem in_strs (k : Str) : ∀ ss : List Str, inV (.str k) (ss.map V.str) = decide (k ∈ ss)
  | [] => by simp [inV]
  | s :: ss => by
    have ih := in_strs k ss
    unfold inV at ih ⊢
    rw [List.map_cons, List.any_cons, ih]
    show ((s == k) || _) = _
    by_cases c : s = k
    · subst c
      simp
    · have c2 : k ≠ s := fun z => c z.symm
      simp [c, c2]
theorem flat_strs : ∀ ss : List Str, (ss.map V.str).all flatV = true
  | [] => rfl
  | _ :: ss => by
    rw [List.map_cons, List.all_cons, flat_strs ss]
    rfl
theorem inq {K : PySem.W.Frag} {H : Hp} {p : Addr} {ss : List Str} {k : Str} {Q : VK} (h : SqT K H p (ss.map V.str)) (q : Q (.bl (decide (k ∈ ss))) H) : rIn K false (.str k) (.ref p) H Q :=
  ⟨p, _, rfl, .inr h, rfl, flat_strs ss, by rw [in_strs]; exact q⟩
theorem rev0 : pk3 ([] : List V) none none (-1) = [] := by simp [pk3, Builtin.Slice.slicePlaces, Builtin.Slice.sliceAdjust]
theorem rev1 (x : V) : pk3 [x] none none (-1) = [x] := by
  have e : Builtin.Slice.slicePlaces (Builtin.Slice.sliceAdjust none none (-1) ((1 : Nat) : Int)).1 (Builtin.Slice.sliceAdjust none none (-1) ((1 : Nat) : Int)).2 (-1) = 1 := by decide
  unfold pk3
  rw [show [x].length = 1 from rfl, e]
  rfl
theorem rev2 (x y : V) : pk3 [x, y] none none (-1) = [y, x] := by
  have e : Builtin.Slice.slicePlaces (Builtin.Slice.sliceAdjust none none (-1) ((2 : Nat) : Int)).1 (Builtin.Slice.sliceAdjust none none (-1) ((2 : Nat) : Int)).2 (-1) = 2 := by decide
  unfold pk3
  rw [show [x, y].length = 2 from rfl, e]
  rfl
/-! ### formulas in the heap -/
theorem sqt_same {K : PySem.W.Frag} {H H' : Hp} {a : Addr} {xs : List V} (e : Same H H') (h : SqT K H a xs) : SqT K H' a xs := by
  rcases h with (h | ⟨o, h⟩) | h
  · exact .inl (.inl (e _ _ h))
  · exact .inl (.inr ⟨o, e _ _ h⟩)
  · exact .inr h
theorem sqt_kp {K : PySem.W.Frag} {H H' : Hp} {d a : Addr} {xs : List V} {ys : List V} (hd : H d = some (.lst ys)) (e : Kp d H H') (h : SqT K H a xs) : SqT K H' a xs := by
  rcases h with (h | ⟨o, h⟩) | h
  · exact .inl (.inl (e _ _ (ne_of h hd (by intro z; cases z)) h))
  · exact .inl (.inr ⟨o, e _ _ (ne_of h hd (by intro z; cases z)) h⟩)
  · exact .inr h
def FmAt (K : PySem.W.Frag) (H : Hp) : V → Fm → Prop
  | v, .c0 k => ∃ a, v = .ref a ∧ SqT K H a [.str k]
  | v, .sg s => ∃ a, v = .ref a ∧ SqT K H a [.str sSig, .str s]
  | v, .un k f => ∃ a x, v = .ref a ∧ SqT K H a [.str k, x] ∧ FmAt K H x f
  | v, .bin k f g => ∃ a x y, v = .ref a ∧ SqT K H a [.str k, x, y] ∧ FmAt K H x f ∧ FmAt K H y g
theorem FmAt.same {K : PySem.W.Frag} {H H' : Hp} (e : Same H H') : ∀ {f : Fm} {v : V}, FmAt K H v f → FmAt K H' v f
  | .c0 _, _, ⟨a, h1, h2⟩ => ⟨a, h1, sqt_same e h2⟩
  | .sg _, _, ⟨a, h1, h2⟩ => ⟨a, h1, sqt_same e h2⟩
  | .un _ _, _, ⟨a, x, h1, h2, h3⟩ => ⟨a, x, h1, sqt_same e h2, h3.same e⟩
  | .bin _ _ _, _, ⟨a, x, y, h1, h2, h3, h4⟩ => ⟨a, x, y, h1, sqt_same e h2, h3.same e, h4.same e⟩
theorem FmAt.kp {K : PySem.W.Frag} {H H' : Hp} {d : Addr} {ys : List V} (hd : H d = some (.lst ys)) (e : Kp d H H') : ∀ {f : Fm} {v : V}, FmAt K H v f → FmAt K H' v f
  | .c0 _, _, ⟨a, h1, h2⟩ => ⟨a, h1, sqt_kp hd e h2⟩
  | .sg _, _, ⟨a, h1, h2⟩ => ⟨a, h1, sqt_kp hd e h2⟩
  | .un _ _, _, ⟨a, x, h1, h2, h3⟩ => ⟨a, x, h1, sqt_kp hd e h2, h3.kp hd e⟩
  | .bin _ _ _, _, ⟨a, x, y, h1, h2, h3, h4⟩ => ⟨a, x, y, h1, sqt_kp hd e h2, h3.kp hd e, h4.kp hd e⟩
/-- its sign -/
theorem FmAt.tup {K : PySem.W.Frag} {H : Hp} : ∀ {f : Fm} {v : V}, FmAt K H v f → ∃ a xs, v = .ref a ∧ SqT K H a (.str (kd f) :: xs)
  | .c0 _, _, ⟨a, h1, h2⟩ => ⟨a, _, h1, h2⟩
  | .sg _, _, ⟨a, h1, h2⟩ => ⟨a, _, h1, h2⟩
  | .un _ _, _, ⟨a, x, h1, h2, h3⟩ => ⟨a, _, h1, h2⟩
  | .bin _ _ _, _, ⟨a, x, y, h1, h2, h3, h4⟩ => ⟨a, _, h1, h2⟩
def FmsAt (K : PySem.W.Frag) (H : Hp) : List V → List Fm → Prop
  | [], [] => True
  | v :: vs, f :: fs => FmAt K H v f ∧ FmsAt K H vs fs
  | _, _ => False
theorem FmsAt.same {K : PySem.W.Frag} {H H' : Hp} (e : Same H H') : ∀ {vs : List V} {fs : List Fm}, FmsAt K H vs fs → FmsAt K H' vs fs
  | [], [], _ => trivial
  | _ :: _, _ :: _, h => ⟨h.1.same e, h.2.same e⟩
theorem FmsAt.kp {K : PySem.W.Frag} {H H' : Hp} {d : Addr} {ys : List V} (hd : H d = some (.lst ys)) (e : Kp d H H') : ∀ {vs : List V} {fs : List Fm}, FmsAt K H vs fs → FmsAt K H' vs fs
  | [], [], _ => trivial
  | _ :: _, _ :: _, h => ⟨h.1.kp hd e, h.2.kp hd e⟩
theorem FmsAt.len {K : PySem.W.Frag} {H : Hp} : ∀ {vs : List V} {fs : List Fm}, FmsAt K H vs fs → vs.length = fs.length
  | [], [], _ => rfl
  | _ :: _, _ :: _, h => congrArg (· + 1) h.2.len
theorem FmsAt.app {K : PySem.W.Frag} {H : Hp} : ∀ {vs us : List V} {fs gs : List Fm}, FmsAt K H vs fs → FmsAt K H us gs → FmsAt K H (vs ++ us) (fs ++ gs)
  | [], _, [], _, _, h => h
  | _ :: _, _, _ :: _, _, h, h' => ⟨h.1, h.2.app h'⟩
theorem FmsAt.rev {K : PySem.W.Frag} {H : Hp} : ∀ {vs : List V} {fs : List Fm}, FmsAt K H vs fs → FmsAt K H vs.reverse fs.reverse
  | [], [], _ => trivial
  | v :: vs, f :: fs, h => by
    rw [List.reverse_cons, List.reverse_cons]
    exact h.2.rev.app ⟨h.1, trivial⟩
theorem FmsAt.get {K : PySem.W.Frag} {H : Hp} : ∀ {vs : List V} {fs : List Fm} {i : Nat} {v : V}, FmsAt K H vs fs → vs[i]? = some v → ∃ f, fs[i]? = some f ∧ FmAt K H v f
  | [], [], _, _, _, e => by simp at e
  | v :: vs, f :: fs, 0, _, h, e => ⟨f, rfl, by cases e; exact h.1⟩
  | _ :: vs, _ :: fs, i + 1, _, h, e => by
    rw [List.getElem?_cons_succ] at e ⊢
    exact h.2.get e
/-! ### promises -/
def bi (b : Bool) : Int := if b = true then 1 else 0
/-- a module's tuple of texts -/
structure GloT (K : PySem.W.Frag) (mg : Str → Option Value) (x : Str) (ss : List Str) (a : Addr) : Prop where
  g : mg x = some (.ref a)
  q : ∀ H, SqT K H a (ss.map V.str)
def spOpers (K : PySem.W.Frag) : Sp := fun vs H Q _ => ∃ (v : V) (f : Fm) (nm : List Str), vs = [v] ∧ FmAt K H v f ∧ Wf nm f ∧
  ∀ (H' : Hp) (p : Addr) (xs : List V), Same H H' → H' p = some (.tup xs) → FmsAt K H' xs (kids f) → Q (.ref p) H'
def spSubs (K : PySem.W.Frag) : Sp := fun vs H Q _ => ∃ (v : V) (f : Fm) (nm : List Str), vs = [v] ∧ FmAt K H v f ∧ Wf nm f ∧ sz f ≤ 1000 ∧
  ∀ (H' : Hp) (p : Addr) (xs : List V), Same H H' → H' p = some (.lst xs) → FmsAt K H' xs (pre f) → Q (.ref p) H'
def PtsAt (H : Hp) : List Addr → List Pt → Prop
  | [], [] => True
  | a :: as, p :: ps => H a = some (.tup [.str p.1, .int p.2.1, .int p.2.2]) ∧ PtsAt H as ps
  | _, _ => False
def spParts (K : PySem.W.Frag) : Sp := fun vs H Q _ => ∃ (v : V) (n : Addr) (f : Fm) (nm : List Str), vs = [v, .ref n] ∧ FmAt K H v f ∧ SqL K H n (nm.map V.str) ∧ Wf nm f ∧ sz f ≤ 1000 ∧
  ∀ (H' : Hp) (p : Addr) (as : List Addr) (P : List Pt) (Fs : List Fm), Same H H' → H' p = some (.lst (as.map V.ref)) → PtsAt H' as P → Good nm P Fs → Fs.getLast? = some f → P.length ≤ 1000 → Q (.ref p) H'
def spTof : Sp := fun vs H Q _ => ∃ (k : Str) (a b c : Bool), vs = [.str k, .int (bi a), .int (bi b), .int (bi c), .int 1] ∧ ∀ H', Same H H' → Q (.int (bi (tofB k a b c))) H'
def spPl : Sp := fun vs H Q _ => ∃ (k : Str) (a b : Bool), vs = [.str k, .int (bi a), .int (bi b), .int 1] ∧ ∀ H', Same H H' → Q (.int (bi (plB k a b))) H'
def Arr (H : Hp) (a : Addr) (N : Nat) (s : Nat → Bool) : Prop := H a = some (.lst ((List.range N).map fun t => V.int (bi (s t))))
def spPast : Sp := fun vs H Q _ => ∃ (k : Str) (l r : Addr) (N : Nat) (a b : Nat → Bool), vs = [.str k, .ref l, .ref r] ∧ k ∈ past ∧ Arr H l N a ∧ Arr H r N b ∧ N ≤ 1000000 ∧
  ∀ (H' : Hp) (p : Addr), Same H H' → Arr H' p N (sq k a b) → Q (.ref p) H'
def spFut : Sp := fun vs H Q _ => ∃ (k : Str) (l r : Addr) (m L : Nat) (a b : Nat → Bool), vs = [.str k, .ref l, .ref r, .int m] ∧ ¬ k ∈ past ∧ k ∈ future ∧ 0 < L ∧ Pd a m L ∧ Pd b m L ∧ Arr H l (m + L) a ∧ Arr H r (m + L) b ∧ m + L ≤ 1000000 ∧
  ∀ (H' : Hp) (p : Addr), Same H H' → Arr H' p (m + L) (sq k a b) → Q (.ref p) H'
def ArrsAt (H : Hp) (N : Nat) : List Addr → List (Nat → Bool) → Prop
  | [], [] => True
  | a :: as, s :: ss => Arr H a N s ∧ ArrsAt H N as ss
  | _, _ => False
def spPv (K : PySem.W.Frag) : Sp := fun vs H Q _ => ∃ (p q : Addr) (h m L : Nat) (as : List Addr) (P : List Pt) (Fs : List Fm) (nm : List Str) (x : Nat → Int), vs = [.ref p, .ref q, .int m] ∧ H p = some (.lst (as.map V.ref)) ∧ PtsAt H as P ∧ P.length ≤ 1000 ∧
  TupI H q ((List.range (m + L)).map x) ∧ 0 < L ∧ m + L ≤ 1000000 ∧ h + pc P * L ≤ m ∧ (∀ t, h ≤ t → x (t + L) = x t) ∧ (∀ t, 0 ≤ x t) ∧ Good nm P Fs ∧
  ∀ (H' : Hp) (f : Addr) (fs : List Addr), Same H H' → H' f = some (.lst (fs.map V.ref)) → ArrsAt H' (m + L) fs (Fs.map (sem nm x)) → Q (.ref f) H'
def spTw (K : PySem.W.Frag) : Sp := fun vs H Q _ => ∃ (v : V) (n p : Addr) (f : Fm) (nm : List Str) (h l : List Int), vs = [v, .ref n, .ref p] ∧ FmAt K H v f ∧ SqL K H n (nm.map V.str) ∧ nm.length ≤ 30 ∧ Wf nm f ∧ sz f ≤ 500 ∧ Las H p h l ∧ l ≠ [] ∧ h.length ≤ 300 ∧ l.length ≤ 300 ∧
  (∀ z, z ∈ h ∨ z ∈ l → 0 ≤ z ∧ z < 2 ^ nm.length) ∧
  ∀ (H' : Hp) (q : Addr) (h' l' : List Int), Same H H' → Las H' q h' l' → Nrm h' l' → (∀ t, wat h' l' t = bi (sem nm (wat h l) f t)) → Q (.ref q) H'
end Bx
/-! ### own rules: set(xs), xs a list of texts; sorted of it -/
namespace Sxt
open PySem PySem.Spec PyProof.Rows L2 PySem.Froz
abbrev nul (w : World) : Obj := { cls := .type "set", dict := none, data := .set #[] 0 (.fresh 0 0 (!w.params.followText "set-order")) }
theorem strs_len : ∀ {us : List Value} {xs : List Str}, StrsAre us xs → us.length = xs.length
  | _, _, .nil => rfl
  | _, _, .cons _ _ t => by rw [List.length_cons, List.length_cons, strs_len t]
theorem addTx_keeps {h : Int} {v : Value} {D : SD} (r : Ris D.2.2.place.toList) : Ris (addTx h v D).2.2.place.toList ∧ (addTx h v D).2.2.led = D.2.2.led := by
  obtain ⟨es, ep, t⟩ := D
  have a := layNew_ris t es h v r
  have b := layNew_led t es h v
  unfold addTx tailTx
  dsimp only
  generalize layNew t es h v = Z at a b ⊢
  obtain ⟨es1, t1, wd, gv⟩ := Z
  dsimp only at a b ⊢
  have c : Ris (if t1.plain = true then { t1 with plain := false } else t1).place.toList ∧ (if t1.plain = true then { t1 with plain := false } else t1).led = t.led := by
    split
    · exact ⟨a, b⟩
    · exact ⟨a, b⟩
  generalize (if t1.plain = true then { t1 with plain := false } else t1) = t2 at c ⊢
  split
  · exact ⟨relayAll_ris _ _ _, by rw [relayAll_led]; exact c.2⟩
  · exact c
/-- the set at a holds the texts us -/
def SetTx (P : Program) (w : World) (h : Heap) (a : Addr) (us : List Str) : Prop :=
  ∃ D : SD, h.get? a = some (sObj "set" D) ∧ TxOk P w D us ∧ us.Nodup ∧ Ris D.2.2.place.toList ∧ (w.params.followText "set-order" = true ∨ D.2.2.led = true)
theorem SetTx.at {P : Program} {w : World} {h h' : Heap} {a : Addr} {us : List Str} (R : SetTx P w h a us) (k : ∀ o, h.get? a = some o → h'.get? a = some o) : SetTx P w h' a us := by
  obtain ⟨D, ho, r⟩ := R
  exact ⟨D, k _ ho, r⟩
theorem SetTx.new {P : Program} {w : World} {h : Heap} {a : Addr} (ho : h.get? a = some (nul w)) : SetTx P w h a [] :=
  ⟨(#[], 0, .fresh 0 0 (!w.params.followText "set-order")), ho, TxOk.nil (by rfl), List.nodup_nil, List.Pairwise.nil, by
    show _ ∨ (!w.params.followText "set-order") = true
    cases w.params.followText "set-order"
    · exact .inr rfl
    · exact .inl rfl⟩
section
variable {P : Program} {w : World} {A : Around} {E : Value → Shared → Prop} {s : Shared}
theorem old_x {a : Addr} {T : String} {D : SD} {l : List Str} {k : Str} {u : Tok} {Q : Bool → Shared → Prop} (ho : s.heap.get? a = some (sObj T D)) (F : TxOk P w D l) (hk : k ∈ l) (hb : l.length < scanBound)
    (h : Q false s) : wpAny (model P w) A (setAddHashed a (.str k u) (hashStr w k)) Q E s := by
  obtain ⟨es, ep, t⟩ := D
  have hel : ElemsOf (strKind P w) es.toList := F.el
  have hsz : es.size = l.length := F.sz
  have hkey : (strKind P w).is k (.str k u) = true := is_str k u
  obtain ⟨e, he, q⟩ := (F.mem k).mp hk
  cases hr : List.findIdx? (fun e => (strKind P w).is k e.2) es.toList with
  | none =>
    have c := List.findIdx?_eq_none_iff.mp hr e he
    rw [q] at c
    cases c
  | some j =>
    unfold setAddHashed setAddHashedIn
    refine wpAny_holding (wpAny_bind (wpAny_setState_of ho rfl F.fit ?_))
    dsimp only
    rw [byScan_of rfl (show es.size < scanBound by omega) hel]
    simp only [↓reduceIte]
    unfold setAddByScan
    refine wpAny_bind ?_
    refine wpAny_bind (wpAny_rule ?_)
    refine wpAny_bind (wpAny_setScan_of (knd := strKind P w) (k := k) hkey ho rfl F.fit hel ?_)
    rw [hr]
    dsimp only
    exact wpAny_pure (wpAny_pure h)
/-- one more text -/
theorem more_x {a : Addr} {us : List Str} {k : Str} {u : Tok} {Q : Bool → Shared → Prop} (R : SetTx P w s.heap a us) (hb : us.length + 1 < scanBound)
    (h : ∀ b h' us', (∀ c, c ≠ a → h'.get? c = s.heap.get? c) → SetTx P w h' a us' → (∀ z, z ∈ us' ↔ z = k ∨ z ∈ us) → us'.length ≤ us.length + 1 → Q b { s with heap := h' }) : wpAny (model P w) A (setAddHashed a (.str k u) (hashStr w k)) Q E s := by
  obtain ⟨D, ho, F, nd, r, hl⟩ := R
  by_cases c : k ∈ us
  · refine old_x ho F c (by omega) ?_
    exact h false s.heap us (fun _ _ => rfl) ⟨D, ho, F, nd, r, hl⟩ (fun z => ⟨.inr, fun q => q.elim (fun e => e ▸ c) id⟩) (Nat.le_succ _)
  · refine add_x ho F c hb ?_
    obtain ⟨k1, k2⟩ := addTx_keeps (h := hashStr w k) (v := .str k u) r
    refine h true _ (k :: us) (fun b hb' => Heap.get?_update_other _ _ (Ne.symm hb')) ⟨_, get_upd _ ho rfl, add_ok u F, List.nodup_cons.mpr ⟨c, nd⟩, k1, ?_⟩ (fun z => List.mem_cons) (Nat.le_refl _)
    rw [k2]; exact hl
/-- us holds what ns holds, once each -/
def Hol (ns us : List Str) (i : Nat) : Prop := us.length ≤ i ∧ ∀ z, z ∈ us ↔ z ∈ ns.take i
theorem update_x {I : Addr} {fp wr : List Addr} {G : Array GenState → Array GenState → Prop} {n : Nat} {Pv : Nat → Value → Prop} {St : Nat → Shared → Prop} {R : Result → Shared → Prop}
    (W : WalksS P w A.in1 I fp wr G n Pv St) (S : Addr) (hSf : S ∉ fp) (ns : List Str) (hn : n = ns.length) (hb : ns.length + 1 < scanBound) (hval : ∀ i v, Pv i v → ∃ k t, ns[i]? = some k ∧ v = .str k t) :
    ∀ (k i : Nat) (s : Shared), n - i = k → i ≤ n → St i s → (∃ us, Hol ns us i ∧ SetTx P w s.heap S us) →
      (∀ s' us, Moved (S :: wr) G s s' → Hol ns us n → SetTx P w s'.heap S us → R (.ok (.ret .none)) s') →
      codeAny (model P w) A (.builtin "set.update.loop" ⟨[.ref S, .ref I], []⟩) R s := by
  have hSw : S ∉ wr := fun h => hSf (W.sub _ h)
  have hsub : ∀ b ∈ wr, b ∈ S :: wr := fun b hb => List.mem_cons_of_mem _ hb
  intro k
  induction k with
  | zero =>
    intro i s hk' hi hst ⟨us, hc, hS⟩ hR
    have hin : i = n := by omega
    subst hin
    refine codeAny_builtin F.entry_set_update_loop ?_
    rw [Around.under_plainId F.plain_set_update_loop _]
    show wpAny _ A.in1 (pyNext (.ref I) >>= _) _ _ s
    refine wpAny_bind (W.done s _ _ hst fun s' hm => ?_)
    show wpAny _ A.in1 (ret Value.none) _ _ s'
    exact wpAny_pure (hR s' us (hm.mono hsub) hc (hS.at fun o e => hm.heap S o hSw e))
  | succ k ih =>
    intro i s hk' hi hst ⟨us, hc, hS⟩ hR
    have hlt : i < n := by omega
    refine codeAny_builtin F.entry_set_update_loop ?_
    rw [Around.under_plainId F.plain_set_update_loop _]
    show wpAny _ A.in1 (pyNext (.ref I) >>= _) _ _ s
    refine wpAny_bind (W.item i s _ _ hlt hst fun v s' hP hst' hm => ?_)
    obtain ⟨z, t, hz, rfl⟩ := hval i v hP
    have hS' : SetTx P w s'.heap S us := hS.at fun o e => hm.heap S o hSw e
    show wpAny _ A.in1 (holding [Value.str z t] (setAdd S (.str z t)) >>= _) _ _ s'
    refine wpAny_bind (wpAny_holding ?_)
    unfold setAdd
    refine wpAny_holding ?_
    refine wpAny_bind ((strKind P w).pyHash (k := z) (is_str z t) ?_)
    refine more_x (s := { s' with toks := s'.toks + 1 }) hS' (by have := hc.1; omega) fun b h' us' hoth hS2 hm2 hl2 => ?_
    have hc3 : Hol ns us' (i + 1) := by
      refine ⟨by have := hc.1; omega, fun y => ?_⟩
      rw [hm2, List.take_add_one, hz, List.mem_append, hc.2]
      show _ ↔ _ ∨ y ∈ [z]
      rw [List.mem_singleton]
      exact Or.comm
    refine wpAny_pure ⟨plainId_quiet F.plain_set_update_loop _, ih (i + 1) _ (by omega) hlt (W.frame _ s' _ _ hst' (Nat.le_succ _) fun b hb o e => ?_) ⟨_, hc3, hS2⟩ fun s'' c2 hm'' hc'' hS'' => ?_⟩
    · rw [hoth b (fun h : b = S => hSf (by rw [← h]; exact hb))]; exact e
    · refine hR s'' c2 (Moved.trans W.gtrans ((hm.mono hsub).then_heap (Nat.le_succ _) fun b o hb e => ?_) hm'') hc'' hS''
      rw [hoth b (fun h : b = S => hb (by rw [h]; exact List.mem_cons_self))]; exact e
/-- what the filling leaves behind -/
def Filled (P : Program) (w : World) (s : Shared) (ns : List Str) (s2 : Shared) : Prop := ∃ h' tk us, s2 = { s with heap := h', toks := tk } ∧ SetTx P w h' s.heap.objs.size us ∧ Hol ns us ns.length ∧ ∀ b o, s.heap.get? b = some o → h'.get? b = some o
theorem set_of_tx {l : Addr} {items : Array Value} (ns : List Str) {Q : Value → Shared → Prop} (hh : A.handled = none) (hl : s.heap.IsList l items) (hit : StrsAre items.toList ns) (hb : ns.length + 1 < scanBound)
    (h : ∀ s2, Filled P w s ns s2 → Q (.ref s.heap.objs.size) s2) : wpAny (model P w) A (call (.type "set") [.ref l]) Q E s := by
  have hisz : items.size = ns.length := by
    have q := strs_len hit
    rwa [Array.length_toList] at q
  have hS : (s.heap.push (nul w)).get? s.heap.objs.size = some (nul w) := Heap.get?_push_size _ rfl
  have hlt : l < s.heap.objs.size := by
    obtain ⟨o, ho, _⟩ := hl
    exact Heap.lt_size ho
  obtain ⟨c, tl, hmro⟩ := F.called_set.mro
  have m1 := F.called_set.made
  have m2 := F.called_set.sub
  refine wpAny_call (codeAny_of_tree ?_)
  show wpAny _ _ (callAny (.type "set") _) _ _ _
  refine wpAny_pure ⟨Code.quiet_builtin _ (by decide +kernel), codeAny_builtin F.entry_type_call ?_⟩
  rw [Around.under_plain (weight_type_call_type "set" [.ref l] []) rfl]
  have m3 := F.called_set.notType
  have m4 := F.called_set.canCreate
  have m5 := F.typeCall_set_1 (.ref l)
  repeat (any_goals (first | assumption | wp_step))
  refine codeAny_mono (code_set_led1 (.ref l) (E := E) (Q₁ := fun obj s1 => obj = .ref s.heap.objs.size ∧ s1 = { s with heap := s.heap.push (nul w) }) ⟨rfl, rfl⟩) fun r s1 hr => ?_
  cases r with
  | error e => exact hr
  | ok fl =>
    cases fl with
    | next => exact hr.elim
    | brk => exact hr.elim
    | cont => exact hr.elim
    | ret obj =>
      obtain ⟨rfl, rfl⟩ := hr
      have hT : Shared.TypeIs { s with heap := s.heap.push (nul w) } (.ref s.heap.objs.size) "set" := ⟨_, hS, rfl⟩
      have m6 := F.called_set.init.lookup
      have m7 := F.called_set.init.bind (.ref s.heap.objs.size)
      repeat (any_goals (first | assumption | wp_step))
      refine codeAny_mono (codeAny_call_builtin (R := wants (fun r s2 => r = .none ∧ Filled P w s ns s2) E) F.called_set.init.plain F.entry_set_init (check_set_init_1 hT ?_)) fun r2 s2 hr2 => ?_
      · obtain ⟨ol, hol, hcl, nl, hdl⟩ := hl
        obtain ⟨ocls, odict, odata, oslots⟩ := ol
        simp only at hcl hdl
        subst hcl
        subst hdl
        have hol' := Heap.get?_push_of_some (nul w) hol
        have q1 := F.sub_list_set
        have q2 := F.sub_list_frozenset
        have q3 : (Value.type "list" == Value.type "dict") = false := by decide
        have hl1 : (s.heap.push (nul w)).IsList l items := ⟨_, hol', rfl, nl, rfl⟩
        unfold Builtin.«set.__init__» noKeywords Builtin.Frozenset.updateFrom
        generalize hPI : pyIter = PI
        wp_walk
        subst hPI
        refine wpAny_pyIter_list hl1 ?_
        refine wpAny_bind (wpAny_runValue ?_)
        have hh3 : A.in1.in1.in1.handled = none := by simp [hh]
        have n1 : l ≠ (s.heap.push (nul w)).objs.size := by
          rw [Heap.size_push]
          exact Nat.ne_of_lt (Nat.lt_succ_of_lt hlt)
        have n2 : s.heap.objs.size ∉ [(s.heap.push (nul w)).objs.size, l] := by
          rw [Heap.size_push]
          simp only [List.mem_cons, List.not_mem_nil, or_false, not_or]
          exact ⟨Nat.ne_of_lt (Nat.lt_succ_self _), Nat.ne_of_gt hlt⟩
        have vals : ∀ (i : Nat) (v : Value), items[i]? = some v → ∃ k t, ns[i]? = some k ∧ v = .str k t := fun i v hv => by
          have hi : i < ns.length := by rw [← hisz]; exact (Array.getElem?_eq_some_iff.mp hv).1
          obtain ⟨t, e⟩ := SS.strs_at hit i v (by rw [Array.getElem?_toList]; exact hv)
          exact ⟨ns[i], t, List.getElem?_eq_getElem hi, by rw [e, List.getD_eq_getElem?_getD, List.getElem?_eq_getElem hi]; rfl⟩
        refine update_x ((Walks.list hh3 _ l n1 items).toS) s.heap.objs.size n2 ns hisz hb vals (items.size - 0) 0 _ (by omega) (Nat.zero_le _)
          ⟨⟨_, Heap.get?_push_size _ rfl, rfl, rfl⟩, (hl1.push _)⟩ ⟨[], ⟨Nat.le_refl 0, fun z => by simp⟩, SetTx.new (Heap.get?_push_of_some _ hS)⟩ fun s' c' hm hc' hS' => ?_
        obtain ⟨h', g2, d', tk', os'⟩ := s'
        obtain rfl : g2 = s.gens := hm.gens
        obtain rfl : d' = s.drawn := hm.drawn
        obtain rfl : os' = s.os := hm.os
        show wpAny _ _ _ _ _ _
        refine wpAny_pure ?_
        show wpAny _ _ (ret Value.none) _ _ _
        rw [hisz] at hc'
        refine wpAny_pure ⟨rfl, h', tk', c', rfl, hS', hc', fun b o e => ?_⟩
        have b0 : b < s.heap.objs.size := Heap.lt_size e
        refine hm.heap b o ?_ (Heap.get?_push_of_some _ (Heap.get?_push_of_some _ e))
        rw [Heap.size_push]
        simp only [List.mem_cons, List.not_mem_nil, or_false, not_or]
        exact ⟨Nat.ne_of_lt b0, Nat.ne_of_lt (Nat.lt_succ_of_lt b0)⟩
      · cases r2 with
        | error e => exact hr2
        | ok fl2 =>
          cases fl2 with
          | next => exact hr2.elim
          | brk => exact hr2.elim
          | cont => exact hr2.elim
          | ret r =>
            obtain ⟨rfl, hf⟩ := hr2
            have hf2 := hf
            obtain ⟨h', tk, c, rfl, _⟩ := hf2
            repeat (any_goals (first | assumption | wp_step))
            exact h _ hf
theorem perm_of_sub : ∀ (l ss : List Str), l.Nodup → (∀ z ∈ l, z ∈ ss) → ss.length ≤ l.length → ss.Perm l
  | [], ss, _, _, h => by rw [List.length_eq_zero_iff.mp (Nat.le_zero.mp h)]
  | x :: l, ss, nd, h, hl => by
    obtain ⟨n1, n2⟩ := List.nodup_cons.mp nd
    have hx := h x List.mem_cons_self
    have p := List.perm_cons_erase hx
    refine p.trans (List.Perm.cons x (perm_of_sub l (ss.erase x) n2 (fun z hz => ?_) ?_))
    · exact (List.mem_erase_of_ne (fun e : z = x => n1 (by rw [← e]; exact hz))).mpr (h z (List.mem_cons_of_mem _ hz))
    · rw [List.length_erase_of_mem hx]
      simp only [List.length_cons] at hl
      omega
theorem strs_of_all : ∀ (vs : List Value), (∀ v ∈ vs, ∃ k t, v = Value.str k t) → StrsAre vs (vs.map strOf)
  | [], _ => .nil
  | v :: vs, h => by
    obtain ⟨k, t, rfl⟩ := h v List.mem_cons_self
    exact .cons k t (strs_of_all vs fun u hu => h u (List.mem_cons_of_mem _ hu))
theorem sorted_tx {a : Addr} {us : List Str} {Q : Value → Shared → Prop} (R : SetTx P w s.heap a us) (hh : A.handled = none) (h64 : us.length < 64)
    (hQ : ∀ s' p (out : Array Value) (c : Nat) (ys : List Str), (∀ b o, s.heap.get? b = some o → s'.heap.get? b = some o) → s'.gens = s.gens → s'.os = s.os → s.heap.objs.size ≤ p →
      s'.heap.get? p = some (seqObj "list" out c) → StrsAre out.toList ys → ys.Perm us → sortedS ys = true → Q (.ref p) s') :
    wpAny (model P w) A (call (.builtin "sorted") [.ref a]) Q E s := by
  obtain ⟨⟨es, ep, t⟩, ho, F, nd, r, hl⟩ := R
  have hsz : es.size = us.length := F.sz
  have hbd : es.size < scanBound := by
    have : scanBound = 4096 := rfl
    omega
  refine Calls.call_function_entry kind_sorted plain_sorted entry_sorted (args_sorted1 _) ?_
  unfold Builtin.«sorted»
  refine wpAny_bind (m := checkCount "sorted" 1 1 _) (wpAny_pure ?_)
  refine wpAny_bind (collect_set (A := A.in1) hh ⟨_, ho, rfl, rfl⟩ F.fit hbd r hl fun s1 vs k1 hz g1 o1 pm => ?_)
  have hvl : vs.length = us.length := by rw [pm.length_eq, List.length_map, Array.length_toList]; exact hsz
  have hI : StrsAre vs (vs.map strOf) := strs_of_all vs fun v hv => by
    obtain ⟨e, he, q⟩ := List.mem_map.mp (pm.mem_iff.mp hv)
    obtain ⟨⟨k, hk, _⟩, _⟩ := F.el e he
    obtain ⟨u, hu⟩ := Value.isStrOf_shape (show Value.isStrOf k e.2 = true from hk)
    exact ⟨k, u, by rw [← q]; exact hu⟩
  have pk : (vs.map strOf).Perm us := by
    refine perm_of_sub us _ nd (fun z hz => ?_) (by rw [List.length_map, hvl]; exact Nat.le_refl _)
    obtain ⟨e, he, q⟩ := (F.mem z).mp hz
    obtain ⟨u, hu⟩ := Value.isStrOf_shape (show Value.isStrOf z e.2 = true from q)
    exact List.mem_map.mpr ⟨e.2, pm.mem_iff.mpr (List.mem_map.mpr ⟨e, he, rfl⟩), by rw [hu]; rfl⟩
  refine wpAny_bind (wpAny_newList ?_ (by rw [hvl, sizeLine_eq]; omega))
  have hoL : (s1.heap.push (seqObj "list" vs.toArray 0)).get? s1.heap.objs.size = some (seqObj "list" vs.toArray 0) := Heap.get?_push_size _ rfl
  refine wpAny_bind (wpAny_holding (wpAny_call_entry slot_list_sort ⟨_, hoL, rfl⟩ entry_list_sort (list_sort_treeK strKind_oneLt hoL hI.keysOf (fun v₁ v₂ rest e => keyKind_strs (by rw [← e]; exact hI)) (by rw [hvl]; exact h64) fun st' hp hs => ⟨_, rfl, ?_⟩) (args_list_sort _)))
  obtain ⟨ys, a1, a2, a3⟩ := sorted_out_str hI hp hs
  obtain ⟨c, hc⟩ := sortedHeap_at (vs := vs) (out := (arrOf st').map (·.2)) hoL
  refine wpAny_pure ⟨_, rfl, hQ _ s1.heap.objs.size _ c ys (fun b u e => ?_) g1 o1 hz hc a1 (a2.trans pk) a3⟩
  have q := k1 b u e
  have hlt := Heap.lt_size q
  show (sortedHeap (s1.heap.push (seqObj "list" vs.toArray 0)) s1.heap.objs.size vs _).get? b = some u
  rw [sortedHeap_old (Nat.ne_of_lt hlt) (by rw [size_push']; exact Nat.lt_succ_of_lt hlt)]
  exact Heap.get?_push_of_some _ q
end
section
variable {X : Cx} {K : PySem.W.Frag} {w : World} {P : Program}
/-- the set of texts at a -/
def SetTxO (P : Program) (w : World) (a : Addr) (us : List Str) : HO := .ext fun h => SetTx P w h a us
theorem setTxO_new {H : Hp} {h : Heap} {a : Addr} {us : List Str} (R : SetTx P w h a us) : ObjOk P w H h a (SetTxO P w a us) := by
  have ⟨_, ho, _⟩ := R
  exact ⟨R, ⟨_, ho⟩, fun h1 h2 p k => SetTx.at p k⟩
/-- set(xs), xs a list of texts -/
def rSetTx (K : PySem.W.Frag) (P : Program) (w : World) : List V → Hp → VK → Prop := fun xs H Q => ∃ (l : Addr) (ns : List Str), xs = [V.ref l] ∧ SqL K H l (ns.map V.str) ∧ ns.length + 1 < scanBound ∧
  ∀ p us, H p = none → us.length ≤ ns.length → (∀ z, z ∈ us ↔ z ∈ ns) → us.Nodup → Q (.ref p) (upd H p (SetTxO P w p us))
theorem cr_setTx (hp : X.prog = P) (h : X.K = K) (hw : X.w = w) (hc : X.calm = true) : CallR X (.type "set") (rSetTx K P w) := by
  subst h
  subst hw
  subst hp
  intro pins s σ H xs us Q I r h
  obtain ⟨l, ns, rfl, hl, hb, q⟩ := h
  rw [Vals.ref1 r]
  obtain ⟨its, rv, pl, hz⟩ := I.list hl
  refine set_of_tx (P := X.prog) (w := X.w) ns (I.ok.hd hc) pl.isList (by simpa using strsAre_of rv) hb fun s2 hf => ?_
  obtain ⟨h', tk, us, rfl, R, hcl, hk⟩ := hf
  have nd := R
  obtain ⟨_, _, _, nd, _⟩ := nd
  have hm := hcl.2
  rw [List.take_length] at hm
  exact ⟨.ref _, upd H s.heap.objs.size (SetTxO X.prog X.w s.heap.objs.size us), I.laid (t' := tk) hk (Nat.le_refl _) (setTxO_new R), rfl, q _ us (I.hok.fresh (Nat.le_refl _)) hcl.1 hm nd⟩
/-- sorted(set of texts), fewer than 64 members -/
def rSortTx (P : Program) (w : World) : List V → Hp → VK → Prop := fun vs H Q => ∃ (a : Addr) (us : List Str), vs = [V.ref a] ∧ H a = some (SetTxO P w a us) ∧ us.length < 64 ∧
  ∀ (ys : List Str) (p : Addr), ys.Perm us → sortedS ys = true → H p = none → Q (.ref p) (upd H p (.lst (ys.map V.str)))
theorem cr_sortTx (hp : X.prog = P) (hw : X.w = w) (hc : X.calm = true) : CallR X (.builtin "sorted") (rSortTx P w) := by
  subst hw
  subst hp
  intro pins s σ H vs us Q I r h
  obtain ⟨a, us, rfl, ha, h64, q⟩ := h
  have R : SetTx X.prog X.w s.heap a us := (I.hok a _ ha).1
  rw [Vals.ref1 r]
  refine sorted_tx R (I.ok.hd hc) h64 fun s' p out c ys k g o hp hg hi pm hs => ?_
  have hlen : (ys.map V.str).length ≤ sizeLine := by rw [List.length_map, pm.length_eq, sizeLine_eq]; omega
  have hn : H p = none := I.hok.fresh hp
  have J : Inv X pins σ (upd H p (.lst (ys.map V.str))) { s with heap := s'.heap, gens := s'.gens, drawn := s'.drawn, toks := s'.toks } :=
    I.call (ch := []) (Un.laid k hp hn) (I.hok.laid k hp ⟨hlen, out.toList, c, vals_of_strs hi, hg⟩) (by rw [g]; exact I.bare) (fun _ z => nomatch z)
  have e : s' = { s with heap := s'.heap, gens := s'.gens, drawn := s'.drawn, toks := s'.toks } := by
    cases s'
    cases s
    cases o
    rfl
  rw [e]
  exact ⟨.ref p, _, J, rfl, q ys p pm hs hn⟩
theorem cr_sortedSK (h : X.K = K) : CallR X (.builtin "sorted") (rSortedS K) := by
  subst h
  exact cr_sortedS
end
end Sxt

local macro_rules | `(tactic| walk_at "bx") => `(tactic| repeat (first
  | refine ⟨_, rfl, ?_⟩
  | refine ⟨_, _, rfl, rfl, ?_⟩
  | refine ⟨rfl, ?_⟩
  | refine Or.inl ⟨_, rfl, ?_⟩
  | refine ⟨Or.inr ⟨by decide, by decide⟩, ?_⟩
  | refine ⟨Or.inl ⟨by decide, by decide⟩, ?_⟩
  | refine ⟨(show (0 : Int) < _ by decide), ?_⟩
  | refine ⟨⟨by decide, by decide⟩, ?_⟩
  | refine ⟨_, _, rfl, Or.inl (L2.SqL.of (by assumption)), ?_⟩
  | refine ⟨_, _, rfl, Or.inr (L2.SqT.of (by assumption)), ?_⟩
  | refine ⟨Or.inl ⟨rfl, _, L2.SqL.of (by assumption)⟩, ?_⟩
  | refine ⟨_, _, _, rfl, rfl, (by assumption), ?_⟩
  | refine ⟨_, _, rfl, rfl, (by assumption), ?_⟩
  | refine ⟨_, _, _, _, rfl, rfl, L2.SqT.of (by assumption), (by assumption), ?_⟩
  | refine ⟨_, _, _, _, rfl, rfl, L2.SqL.of (by assumption), (by assumption), ?_⟩
  | refine ⟨_, _, rfl, Bx.SeqI.sq (by assumption), ?_⟩
  | refine And.intro (by assumption) ?_))
local macro_rules | `(tactic| walk_at "nl") => `(tactic| ((try unfold L2.tNil); (try unfold L2.tNoPart)))

namespace My
open PySem PySem.Spec PyProof.Rows L2 Bx Tx Tr
def topS (i : Nat) : Stmt := PySem.Challenge.pw_reactivesynth_k06_normal_form.main.body.getD i (.Pass ⟨0, 0, 0, 0⟩)
abbrev s_operands : Stmt := topS 7
abbrev N_operands : List Str := ["formula"]
theorem sc_operands : FnScope N_operands ["formula"] (defScope s_operands) := ⟨rfl, rfl, rfl, by decide +kernel, rfl, by decide +kernel, by decide +kernel⟩
abbrev s_subformulas : Stmt := topS 8
abbrev N_subformulas : List Str := ["formula", "found", "waiting", "part"]
theorem sc_subformulas : FnScope N_subformulas ["formula"] (defScope s_subformulas) := ⟨rfl, rfl, rfl, by decide +kernel, rfl, by decide +kernel, by decide +kernel⟩
abbrev s_count_operators : Stmt := topS 9
abbrev N_count_operators : List Str := ["formula", "kinds", "part"]
theorem sc_count_operators : FnScope N_count_operators ["formula", "kinds"] (defScope s_count_operators) := ⟨rfl, rfl, rfl, by decide +kernel, rfl, by decide +kernel, by decide +kernel⟩
abbrev s_temporal_count : Stmt := topS 10
abbrev N_temporal_count : List Str := ["formula"]
theorem sc_temporal_count : FnScope N_temporal_count ["formula"] (defScope s_temporal_count) := ⟨rfl, rfl, rfl, by decide +kernel, rfl, by decide +kernel, by decide +kernel⟩
abbrev s_signal_names : Stmt := topS 11
abbrev N_signal_names : List Str := ["formula", "part"]
theorem sc_signal_names : FnScope N_signal_names ["formula"] (defScope s_signal_names) := ⟨rfl, rfl, rfl, by decide +kernel, rfl, by decide +kernel, by decide +kernel⟩
abbrev s_normal_form : Stmt := topS 12
abbrev N_normal_form : List Str := ["formula", "normal", "_"]
theorem sc_normal_form : FnScope N_normal_form ["formula"] (defScope s_normal_form) := ⟨rfl, rfl, rfl, by decide +kernel, rfl, by decide +kernel, by decide +kernel⟩
abbrev s_normal_pair : Stmt := topS 13
abbrev N_normal_pair : List Str := ["formula", "kind", "yes", "no", "other_yes", "other_no"]
theorem sc_normal_pair : FnScope N_normal_pair ["formula"] (defScope s_normal_pair) := ⟨rfl, rfl, rfl, by decide +kernel, rfl, by decide +kernel, by decide +kernel⟩
abbrev s_unary_pair : Stmt := topS 14
abbrev N_unary_pair : List Str := ["kind", "yes", "no", "operator", "constant", "dual", "other_constant"]
theorem sc_unary_pair : FnScope N_unary_pair ["kind", "yes", "no"] (defScope s_unary_pair) := ⟨rfl, rfl, rfl, by decide +kernel, rfl, by decide +kernel, by decide +kernel⟩
abbrev s_binary_pair : Stmt := topS 15
abbrev N_binary_pair : List Str := ["kind", "first", "second", "yes", "no", "other_yes", "other_no", "same"]
theorem sc_binary_pair : FnScope N_binary_pair ["kind", "first", "second"] (defScope s_binary_pair) := ⟨rfl, rfl, rfl, by decide +kernel, rfl, by decide +kernel, by decide +kernel⟩
abbrev s_law_draws : Stmt := topS 17
abbrev N_law_draws : List Str := ["script", "count", "cells", "found", "mixed", "k", "j", "cell", "again"]
theorem sc_law_draws : FnScope N_law_draws ["script", "count"] (defScope s_law_draws) := ⟨rfl, rfl, rfl, by decide +kernel, rfl, by decide +kernel, by decide +kernel⟩
abbrev s_law_take : Stmt := topS 18
abbrev N_law_take : List Str := ["draws", "limit"]
theorem sc_law_take : FnScope N_law_take ["draws", "limit"] (defScope s_law_take) := ⟨rfl, rfl, rfl, by decide +kernel, rfl, by decide +kernel, by decide +kernel⟩
abbrev s_law_is_integer : Stmt := topS 19
abbrev N_law_is_integer : List Str := ["actual"]
theorem sc_law_is_integer : FnScope N_law_is_integer ["actual"] (defScope s_law_is_integer) := ⟨rfl, rfl, rfl, by decide +kernel, rfl, by decide +kernel, by decide +kernel⟩
abbrev s_law_name : Stmt := topS 20
abbrev N_law_name : List Str := ["draws", "k", "chars", "name", "j"]
theorem sc_law_name : FnScope N_law_name ["draws", "k"] (defScope s_law_name) := ⟨rfl, rfl, rfl, by decide +kernel, rfl, by decide +kernel, by decide +kernel⟩
abbrev s_law_names : Stmt := topS 21
abbrev N_law_names : List Str := ["draws", "count", "k"]
theorem sc_law_names : FnScope N_law_names ["draws", "count"] (defScope s_law_names) := ⟨rfl, rfl, rfl, by decide +kernel, rfl, by decide +kernel, by decide +kernel⟩
abbrev s_law_leaf : Stmt := topS 22
abbrev N_law_leaf : List Str := ["draws", "names", "choice"]
theorem sc_law_leaf : FnScope N_law_leaf ["draws", "names"] (defScope s_law_leaf) := ⟨rfl, rfl, rfl, by decide +kernel, rfl, by decide +kernel, by decide +kernel⟩
abbrev s_law_formula : Stmt := topS 23
abbrev N_law_formula : List Str := ["draws", "names", "budget", "deep", "choice", "unary", "operator", "part", "left"]
theorem sc_law_formula : FnScope N_law_formula ["draws", "names", "budget", "deep"] (defScope s_law_formula) := ⟨rfl, rfl, rfl, by decide +kernel, rfl, by decide +kernel, by decide +kernel⟩
abbrev s_law_temporal : Stmt := topS 24
abbrev N_law_temporal : List Str := ["formula", "total", "part"]
theorem sc_law_temporal : FnScope N_law_temporal ["formula"] (defScope s_law_temporal) := ⟨rfl, rfl, rfl, by decide +kernel, rfl, by decide +kernel, by decide +kernel⟩
abbrev s_law_twins : Stmt := topS 25
abbrev N_law_twins : List Str := ["operator", "first", "second", "one", "two"]
theorem sc_law_twins : FnScope N_law_twins ["operator", "first", "second", "one", "two"] (defScope s_law_twins) := ⟨rfl, rfl, rfl, by decide +kernel, rfl, by decide +kernel, by decide +kernel⟩
abbrev s_law_form_two : Stmt := topS 26
abbrev N_law_form_two : List Str := ["operator", "first", "second", "positive", "left", "swap"]
theorem sc_law_form_two : FnScope N_law_form_two ["operator", "first", "second", "positive"] (defScope s_law_form_two) := ⟨rfl, rfl, rfl, by decide +kernel, rfl, by decide +kernel, by decide +kernel⟩
abbrev s_law_form_one : Stmt := topS 27
abbrev N_law_form_one : List Str := ["operator", "part", "positive", "inner", "some", "names"]
theorem sc_law_form_one : FnScope N_law_form_one ["operator", "part", "positive"] (defScope s_law_form_one) := ⟨rfl, rfl, rfl, by decide +kernel, rfl, by decide +kernel, by decide +kernel⟩
abbrev s_law_form : Stmt := topS 28
abbrev N_law_form : List Str := ["formula", "positive", "operator"]
theorem sc_law_form : FnScope N_law_form ["formula", "positive"] (defScope s_law_form) := ⟨rfl, rfl, rfl, by decide +kernel, rfl, by decide +kernel, by decide +kernel⟩
abbrev s_law_used : Stmt := topS 29
abbrev N_law_used : List Str := ["formula", "names", "found", "part", "name"]
theorem sc_law_used : FnScope N_law_used ["formula", "names"] (defScope s_law_used) := ⟨rfl, rfl, rfl, by decide +kernel, rfl, by decide +kernel, by decide +kernel⟩
abbrev s_law : Stmt := topS 30
abbrev N_law : List Str := ["script", "draws", "names", "formula", "wrap", "k", "count", "found", "form"]
theorem sc_law : FnScope N_law ["script"] (defScope s_law) := ⟨rfl, rfl, rfl, by decide +kernel, rfl, by decide +kernel, by decide +kernel⟩
structure Has (K : PySem.W.Frag) (mg : Str → Option Value) (x : Str) (st : Stmt) (ps : List Str) : Prop where
  ex : ∃ (f : Addr) (fd : FuncData), L2.Fun K x x st f fd ∧ mg x = some (.ref f) ∧ Binds K fd ps []
structure Txt (K : PySem.W.Frag) (mg : Str → Option Value) (w : World) : Prop where
  h_operands : Has K mg "operands" s_operands ["formula"]
  h_subformulas : Has K mg "subformulas" s_subformulas ["formula"]
  h_count_operators : Has K mg "count_operators" s_count_operators ["formula", "kinds"]
  h_temporal_count : Has K mg "temporal_count" s_temporal_count ["formula"]
  h_signal_names : Has K mg "signal_names" s_signal_names ["formula"]
  h_normal_form : Has K mg "normal_form" s_normal_form ["formula"]
  h_normal_pair : Has K mg "normal_pair" s_normal_pair ["formula"]
  h_unary_pair : Has K mg "unary_pair" s_unary_pair ["kind", "yes", "no"]
  h_binary_pair : Has K mg "binary_pair" s_binary_pair ["kind", "first", "second"]
  h_law_draws : Has K mg "_law_draws" s_law_draws ["script", "count"]
  h_law_take : Has K mg "_law_take" s_law_take ["draws", "limit"]
  h_law_is_integer : Has K mg "_law_is_integer" s_law_is_integer ["actual"]
  h_law_name : Has K mg "_law_name" s_law_name ["draws", "k"]
  h_law_names : Has K mg "_law_names" s_law_names ["draws", "count"]
  h_law_leaf : Has K mg "_law_leaf" s_law_leaf ["draws", "names"]
  h_law_formula : Has K mg "_law_formula" s_law_formula ["draws", "names", "budget", "deep"]
  h_law_temporal : Has K mg "_law_temporal" s_law_temporal ["formula"]
  h_law_twins : Has K mg "_law_twins" s_law_twins ["operator", "first", "second", "one", "two"]
  h_law_form_two : Has K mg "_law_form_two" s_law_form_two ["operator", "first", "second", "positive"]
  h_law_form_one : Has K mg "_law_form_one" s_law_form_one ["operator", "part", "positive"]
  h_law_form : Has K mg "_law_form" s_law_form ["formula", "positive"]
  h_law_used : Has K mg "_law_used" s_law_used ["formula", "names"]
  z_bool : mg "bool" = none
  z_int : mg "int" = none
  z_isinstance : mg "isinstance" = none
  z_len : mg "len" = none
  z_list : mg "list" = none
  z_range : mg "range" = none
  z_set : mg "set" = none
  z_sorted : mg "sorted" = none
  z_tuple : mg "tuple" = none
  er : ∃ (aF aP aT aO aD aW : Addr), mg "DUALS" = some (.ref aD) ∧ mg "WRITTEN_OUT" = some (.ref aW) ∧ (∀ p ∈ ([("and", "or"), ("or", "and"), ("next", "next"), ("until", "release"), ("release", "until"), ("previous", "weak_previous"), ("weak_previous", "previous"), ("since", "trigger"), ("trigger", "since")] : List (Str × Str)), KDct K w aD p.1 (.str p.2)) ∧ (∃ es n, KDict K w aW es n) ∧ (∀ p ∈ ([("eventually", ["until", "true", "release", "false"]), ("always", ["release", "false", "until", "true"]), ("once", ["since", "true", "trigger", "false"]), ("historically", ["trigger", "false", "since", "true"])] : List (Str × List Str)), ∃ b, KDct K w aW p.1 (.ref b) ∧ ∀ H, SqT K H b (p.2.map V.str)) ∧ (∀ z ∈ (["next", "previous", "weak_previous"] : List Str), PySem.W.nsIn K aW z = some none) ∧ GloT K mg "FUTURE" Tr.future aF ∧ GloT K mg "PAST" Tr.past aP ∧ GloT K mg "TRUE" ["true"] aT ∧ GloT K mg "FALSE" ["false"] aO

-- BODY
def spLaw (K : PySem.W.Frag) : Sp := fun vs H Q _ => ∃ (a : Addr) (ns : List Int), vs = [.ref a] ∧ SqL K H a (ns.map V.int) ∧ ns.length ≤ 63 ∧ ∀ H', Q (.bl true) H'
section
variable {P : Program} {w : World} {K : PySem.W.Frag} {mg : Str → Option Value} {base : Heap}
theorem glo (T : Txt K mg w) : ∃ aF aP : Addr, GloT K mg "FUTURE" Tr.future aF ∧ GloT K mg "PAST" Tr.past aP := by
  obtain ⟨aF, aP, aT, aO, aD, aW, _, _, _, _, _, _, g1, g2, _⟩ := T.er
  exact ⟨aF, aP, g1, g2⟩
theorem cal_take (T : Txt K mg w) : C8.Cal P w K mg base 1 "_law_take" spTake [] := by
  obtain ⟨f, fd, F, hm, hb⟩ := T.h_law_take
  refine ⟨f, fd, _, [], F.ok sc_law_take (fun vs H Q E h => ?_) (fun cdv A outer s H vs Q E hr h => ?_), hm, F.kp, hb, .nil⟩
  · obtain ⟨d, n, rfl, _⟩ := h
    rfl
  · obtain ⟨d, n, rfl, ⟨ds, hd⟩, hn, q⟩ := h
    refine ⟨_, (pss_cons
      (ps_if (pt_cmpR op_eq (pe_callB (call_lenK (K := K) rfl) (by rfl) T.z_len PySem.boot_len (pa_cons (pv 0) pa_nil)) pe_int (nomark _)) (pss_one
      (ps_ret pe_int)) pss_nil)
      (pss_one
      (ps_ret (pe_op op_mod (pe_callTy call_int1 (by rfl) T.z_int (by decide +kernel) (pa_cons (pe_bm0 PySem.F.plainAttrs_list PySem.F.slot_list_pop PySem.F.type_list_pop mt_pop (pv 0)) pa_nil)) (pv 1))))), ?_⟩
    walk_at "bx"
    refine ite2 (fun e => ?_) (fun e => ?_)
    · have q0 := q 0 ds (Int.le_refl 0) hn
      rw [upd_self hd] at q0
      exact q0
    · have hne : ds ≠ [] := fun z => e (by rw [z]; rfl)
      refine ⟨_, rfl, .inl ⟨rfl, _, SqL.of hd⟩, d, _, .int (ds.getLast hne), rfl, rfl, hd, ?_, ?_⟩
      · rw [List.length_map, List.getElem?_map, ← List.getLast?_eq_getElem?, List.getLast?_eq_getLast hne]
        rfl
      · walk_at "bx"
        rw [← List.map_dropLast]
        exact q _ _ (Int.emod_nonneg _ (by omega)) (Int.emod_lt_of_pos _ hn)
theorem cal_draws (T : Txt K mg w) : C8.Cal P w K mg base 1 "_law_draws" (spDraws K) [] := by
  obtain ⟨f, fd, F, hm, hb⟩ := T.h_law_draws
  refine ⟨f, fd, _, [], F.ok sc_law_draws (fun vs H Q E h => ?_) (fun cdv A outer s H vs Q E hr h => ?_), hm, F.kp, hb, .nil⟩
  · obtain ⟨a, ns, c, rfl, _⟩ := h
    rfl
  · obtain ⟨a, ns, n, rfl, hS, hn, q⟩ := h
    refine ⟨_, (pss_cons
      (ps_set (i := 2) sc_law_draws.nd rfl (Or.inl rfl) (pe_callTy (call_list_ofK (K := K) rfl) (by rfl) T.z_list (by decide +kernel) (pa_cons (pv 0) pa_nil)))
      (C8.pss_cut
      (ps_if (pt_cmpR op_eq (pe_callB (call_lenK (K := K) rfl) (by rfl) T.z_len PySem.boot_len (pa_cons (pv 2) pa_nil)) pe_int (nomark _)) (pss_one
      (ps_set (i := 2) sc_law_draws.nd rfl (Or.inl rfl) (pe_lst (pa_cons pe_int pa_nil)))) pss_nil)
      (pss_cons
      (ps_set (i := 3) sc_law_draws.nd rfl (Or.inl rfl) (pe_lst pa_nil))
      (pss_cons
      (ps_set (i := 4) sc_law_draws.nd rfl (Or.inl rfl) pe_int)
      (pss_cons
      (ps_for PassesOwn.never rfl (pi_range1 (by rfl) T.z_range (pa_cons (pv 1) pa_nil)) (pg_name (i := 5) sc_law_draws.nd rfl (.inl rfl)) (pss_cons
      (ps_set (i := 6) sc_law_draws.nd rfl (Or.inl rfl) (pe_op op_mod (pv 5) (pe_callB (call_lenK (K := K) rfl) (by rfl) T.z_len PySem.boot_len (pa_cons (pv 2) pa_nil))))
      (pss_cons
      (ps_set (i := 7) sc_law_draws.nd rfl (Or.inl rfl) (pe_ix (ix_listK (K := K) rfl) (pv 2) (pv 6) (fun _ _ => rfl)))
      (pss_cons
      (ps_set (i := 4) sc_law_draws.nd rfl (Or.inl rfl) (pe_op op_mod (pe_callTy call_int1 (by rfl) T.z_int (by decide +kernel) (pa_cons (pe_op op_add (pe_op op_add (pe_op op_add (pe_op op_mul (pv 4) pe_int) (pe_op op_mul (pe_op op_mod (pe_callTy call_int1 (by rfl) T.z_int (by decide +kernel) (pa_cons (pv 7) pa_nil)) pe_int) pe_int)) (pe_op op_mul (pv 5) pe_int)) pe_int) pa_nil)) pe_int))
      (pss_cons
      (ps_set (i := 8) sc_law_draws.nd rfl (Or.inl rfl) (pe_op op_mod (pe_callTy call_int1 (by rfl) T.z_int (by decide +kernel) (pa_cons (pe_op op_add (pe_op op_add (pe_op op_mul (pv 4) (pv 4)) (pe_op op_mul pe_int (pv 4))) (pv 5)) pa_nil)) pe_int))
      (pss_one
      (ps_if (pt_cmpR op_ge (pv 7) (pe_op op_pow pe_int pe_int) (nomark _)) (pss_cons
      (ps_expr (pe_bm PySem.F.plainAttrs_list PySem.F.slot_list_append PySem.F.type_list_append mt_append (pv 3) (pa_cons (pe_op op_mod (pe_callTy call_int1 (by rfl) T.z_int (by decide +kernel) (pa_cons (pv 7) pa_nil)) pe_int) pa_nil)))
      (pss_one
      (ps_asg (pe_op op_fdiv (pv 7) pe_int) (pg_sub (pv 2) (pv 6) set_list)))) (pss_one
      (ps_expr (pe_bm PySem.F.plainAttrs_list PySem.F.slot_list_append PySem.F.type_list_append mt_append (pv 3) (pa_cons (pe_op op_mod (pe_callTy call_int1 (by rfl) T.z_int (by decide +kernel) (pa_cons (pv 8) pa_nil)) pe_int) pa_nil)))))))))))
      (pss_cons
      (ps_expr (pe_bm0 PySem.F.plainAttrs_list PySem.F.slot_list_reverse PySem.F.type_list_reverse mt_reverse (pv 3)))
      (pss_one
      (ps_ret (pv 3))))))))), ?_⟩
    -- cells = list(script)
    refine ⟨_, rfl, a, _, rfl, .inl hS, fun l hl => ?_⟩
    -- if len(cells) == 0: cells = [7]
    refine ⟨fun σ H2 => ∃ (c : Addr) (cs : List Int), σ = [some (.ref a), some (.int n), some (.ref c), none, none, none, none, none, none] ∧ H c = none ∧ Same H H2 ∧ H2 c = some (.lst (cs.map V.int)) ∧ cs ≠ [], ?_, ?_⟩
    · have h0 : (upd H l (.lst (ns.map V.int))) l = some (.lst (ns.map V.int)) := upd_same
      walk_at "bx"
      refine ite2 (fun e => ?_) (fun e => ?_)
      · refine ⟨by show 1 ≤ sizeLine; decide, fun l2 h2 => ?_⟩
        have s1 : Same H (upd H l (.lst (ns.map V.int))) := same_new hl
        exact ⟨l2, [7], rfl, s1.free h2, s1.trans (same_new h2), upd_same, by decide⟩
      · exact ⟨l, ns, rfl, hl, same_new hl, upd_same, fun z => e (by rw [z]; rfl)⟩
    · rintro σ H2 ⟨c, cs, rfl, hc0, s2, hc, hcs⟩
      -- found = [], mixed = 12345
      refine ⟨Nat.zero_le _, fun o ho => ?_⟩
      have hco : c ≠ o := ne_of_none hc ho
      have ho0 : H o = none := s2.free ho
      -- for k in range(count)
      refine ⟨_, rfl, _, rfl, by omega, by omega, for_range (lo := 0) (n := ((n : Int)).toNat) (fun i σ H3 => ∃ (m : Int) (cs fs : List Int) (v5 v6 v7 v8 : Option V), σ = [some (.ref a), some (.int n), some (.ref c), some (.ref o), some (.int m), v5, v6, v7, v8] ∧ 0 ≤ m ∧ m < 2147483647 ∧ Same H H3 ∧ H3 c = some (.lst (cs.map V.int)) ∧ cs ≠ [] ∧ H3 o = some (.lst (fs.map V.int)) ∧ fs.length ≤ i)
        ⟨12345, cs, [], none, none, none, none, rfl, by decide, by decide, s2.trans (same_new ho), by rw [upd_ne hco]; exact hc, hcs, upd_same, Nat.le_refl _⟩ ?_ ?_⟩
      · rintro i σ H3 hi ⟨m, cs, fs, v5, v6, v7, v8, rfl, m0, m1, s3, hc, hcs, hf, hfl⟩
        have hl : 0 < cs.length := List.length_pos_iff.mpr hcs
        obtain ⟨z, hz⟩ : ∃ z, cs[i % cs.length]? = some z := ⟨_, List.getElem?_eq_getElem (Nat.mod_lt _ hl)⟩
        have ej : ((0 : Int) + (i : Int)) % (((cs.map V.int).length : Nat) : Int) = ((i % cs.length : Nat) : Int) := by
          rw [Int.zero_add, List.length_map]
          rfl
        -- j = k % len(cells)
        walk_at "bx"
        refine ⟨(show (0 : Int) < _ by rw [List.length_map]; omega), ?_⟩
        -- cell = cells[j]
        refine ⟨_, rfl, _, rfl, c, _, _, .int z, rfl, rfl, SqL.of hc, ?_, ?_⟩
        · rw [ej]
          exact atI_nat (by rw [List.getElem?_map, hz]; rfl)
        -- mixed, again
        walk_at "bx"
        have b1 : (0 : Int) ≤ z % 1000003 := Int.emod_nonneg _ (by decide)
        refine ⟨.inl ⟨?_, ?_⟩, ?_⟩
        · have := Int.emod_nonneg (m * 48271 + z % 1000003 * 69621 + (0 + (i : Int)) * 7919 + 11) (show (2147483647 : Int) ≠ 0 by decide)
          show -(2 ^ 64) < (m * 48271 + z % 1000003 * 69621 + (0 + (i : Int)) * 7919 + 11) % 2147483647
          omega
        · have := Int.emod_lt_of_pos (m * 48271 + z % 1000003 * 69621 + (0 + (i : Int)) * 7919 + 11) (show (0 : Int) < 2147483647 by decide)
          show (m * 48271 + z % 1000003 * 69621 + (0 + (i : Int)) * 7919 + 11) % 2147483647 < 2 ^ 64
          omega
        have c0 : 0 ≤ (m * 48271 + z % 1000003 * 69621 + (0 + (i : Int)) * 7919 + 11) % 2147483647 := Int.emod_nonneg _ (by decide)
        have c1 : (m * 48271 + z % 1000003 * 69621 + (0 + (i : Int)) * 7919 + 11) % 2147483647 < 2147483647 := Int.emod_lt_of_pos _ (by decide)
        walk_at "bx"
        refine ite2 (fun e => ?_) (fun e => ?_)
        · walk_at "bx"
          refine ⟨lenI (by omega), ?_⟩
          walk_at "bx"
          refine ⟨c, cs.map V.int, _, i % cs.length, rfl, rfl, by rw [upd_ne hco]; exact hc, by rw [ej]; exact ixN_at (by rw [List.length_map]; exact Nat.mod_lt _ hl), ?_⟩
          refine ⟨_, cs.set (i % cs.length) (z / 1000), fs ++ [z % 1000], _, _, _, _, rfl, c0, c1, fun b o' hb => ?_, by rw [upd_same, set_mapI], by simpa using hcs, by rw [upd_ne hco.symm, upd_same]; simp, by simp; omega⟩
          rw [upd_ne (fun z => by rw [z, hc0] at hb; cases hb), upd_ne (fun z => by rw [z, ho0] at hb; cases hb)]
          exact s3 _ _ hb
        · walk_at "bx"
          refine ⟨lenI (by omega), ?_⟩
          refine ⟨_, cs, fs ++ [_], _, _, _, _, rfl, c0, c1, fun b o' hb => ?_, by rw [upd_ne hco]; exact hc, hcs, by rw [upd_same, List.map_append]; rfl, by simp; omega⟩
          rw [upd_ne (fun z => by rw [z, ho0] at hb; cases hb)]
          exact s3 _ _ hb
      · rintro σ H3 ⟨m, cs, fs, v5, v6, v7, v8, rfl, m0, m1, s3, hc, hcs, hf, hfl⟩
        -- found.reverse()
        walk_at "bx"
        refine q _ o (fun b o' hb => ?_) ho0 ⟨fs.reverse, ?_⟩
        · rw [upd_ne (fun z => by rw [z, ho0] at hb; cases hb)]
          exact s3 _ _ hb
        · rw [upd_same, List.map_reverse]
theorem cal_opers (T : Txt K mg w) : C8.Cal P w K mg base 1 "operands" (spOpers K) [] := by
  obtain ⟨f, fd, F, hm, hb⟩ := T.h_operands
  refine ⟨f, fd, _, [], F.ok sc_operands (fun vs H Q E h => ?_) (fun cdv A outer s H vs Q E hr h => ?_), hm, F.kp, hb, .nil⟩
  · obtain ⟨v, f, nm, rfl, _⟩ := h
    rfl
  · obtain ⟨v, f, nm, rfl, hf, hw, q⟩ := h
    refine ⟨_, (pss_cons
      (ps_if (pt_cmpR op_eq (pe_ix (ix_tupK (K := K) rfl) (pv 0) pe_int (fun _ _ => rfl)) pe_str (nomark _)) (pss_one
      (ps_ret (pe_tup pa_nil))) pss_nil)
      (pss_one
      (ps_ret (pe_slice (sl_tupK (K := K) rfl) (pv 0) (po_some pe_int) po_none)))), ?_⟩
    have nz : ∀ {k : Str}, k ≠ sSig → (decide (V.str k = V.str "signal")) = false := fun hk => decide_eq_false fun z => hk (V.str.inj z)
    cases f with
    | sg s =>
      obtain ⟨a, rfl, ha⟩ := hf
      refine ⟨_, rfl, a, _, _, _, rfl, rfl, ha, rfl, rfl, _, rfl, iteT ?_⟩
      exact ⟨by show 0 ≤ sizeLine; decide, fun p hp => q _ p [] (same_new hp) upd_same trivial⟩
    | c0 k =>
      obtain ⟨a, rfl, ha⟩ := hf
      refine ⟨_, rfl, a, _, _, _, rfl, rfl, ha, rfl, rfl, _, rfl, ?_⟩
      rw [nz hw]
      refine iteF ?_
      refine ⟨_, rfl, _, rfl, a, _, rfl, ha, (fun z => absurd z.1 (by show ¬ HT.sIx 1 0 (some 1) = 0; decide)), fun _ p hp => q _ p [] (same_new hp) upd_same trivial⟩
    | un k f =>
      obtain ⟨a, x, rfl, ha, hx⟩ := hf
      refine ⟨_, rfl, a, _, _, _, rfl, rfl, ha, rfl, rfl, _, rfl, ?_⟩
      rw [nz hw.1]
      refine iteF ?_
      refine ⟨_, rfl, _, rfl, a, _, rfl, ha, (fun z => absurd z.1 (by show ¬ HT.sIx 2 0 (some 1) = 0; decide)), fun _ p hp => q _ p [x] (same_new hp) upd_same ⟨hx.same (same_new hp), trivial⟩⟩
    | bin k f g =>
      obtain ⟨a, x, y, rfl, ha, hx, hy⟩ := hf
      refine ⟨_, rfl, a, _, _, _, rfl, rfl, ha, rfl, rfl, _, rfl, ?_⟩
      rw [nz hw.1]
      refine iteF ?_
      refine ⟨_, rfl, _, rfl, a, _, rfl, ha, (fun z => absurd z.1 (by show ¬ HT.sIx 3 0 (some 1) = 0; decide)), fun _ p hp => q _ p [x, y] (same_new hp) upd_same ⟨hx.same (same_new hp), hy.same (same_new hp), trivial⟩⟩
theorem flat_ge (gs : List Fm) : gs.length ≤ (gs.reverse.map pre).flatten.length := by
  induction gs with
  | nil => exact Nat.zero_le _
  | cons a l ih =>
    have : 0 < (pre a).length := by rw [pre_len]; exact sz_pos a
    rw [List.reverse_cons, List.map_append, List.flatten_append, List.length_append]
    simp
    simp at ih
    omega
theorem unsnoc {K : PySem.W.Frag} {H : Hp} {ws : List V} {x : V} {gs : List Fm} {g : Fm} (h : FmsAt K H (ws ++ [x]) (gs ++ [g])) : FmsAt K H ws gs ∧ FmAt K H x g := by
  have r := h.rev
  rw [List.reverse_append, List.reverse_append] at r
  have r2 : FmsAt K H ws.reverse gs.reverse := r.2
  have r3 := r2.rev
  rw [List.reverse_reverse, List.reverse_reverse] at r3
  exact ⟨r3, r.1⟩
theorem wf_kids {nm : List Str} {g z : Fm} (h : Wf nm g) (m : z ∈ kids g) : Wf nm z := by
  cases g with
  | c0 k => cases m
  | sg s => cases m
  | un k f => rw [List.mem_singleton.mp m]; exact h.2
  | bin k f g =>
    rcases List.mem_cons.mp m with e | e
    · rw [e]; exact h.2.1
    · rw [List.mem_singleton.mp e]; exact h.2.2
theorem revs {K : PySem.W.Frag} {H : Hp} {xs : List V} {g : Fm} (h : FmsAt K H xs (kids g)) : pk3 xs none none (-1) = xs.reverse ∧ xs.length ≤ 2 := by
  have e := h.len
  match xs, e with
  | [], _ => exact ⟨rev0, by decide⟩
  | [x], _ => exact ⟨rev1 x, Nat.le_succ 1⟩
  | [x, y], _ => exact ⟨rev2 x y, Nat.le_refl 2⟩
  | _ :: _ :: _ :: _, e => cases g <;> simp [kids] at e
theorem cal_subs (T : Txt K mg w) : C8.Cal P w K mg base 2 "subformulas" (spSubs K) [] := by
  have C_operands : C8.Cal P w K mg base 1 "operands" (spOpers K) [] := cal_opers T
  obtain ⟨f, fd, F, hm, hb⟩ := T.h_subformulas
  refine ⟨f, fd, _, [], F.ok sc_subformulas (fun vs H Q E h => ?_) (fun cdv A outer s H vs Q E hr h => ?_), hm, F.kp, hb, .nil⟩
  · obtain ⟨v, f, nm, rfl, _⟩ := h
    rfl
  · obtain ⟨v, f, nm, rfl, hf, hw, hz, q⟩ := h
    refine ⟨_, (pss_cons
      (ps_set (i := 1) sc_subformulas.nd rfl (Or.inl rfl) (pe_lst pa_nil))
      (pss_cons
      (ps_set (i := 2) sc_subformulas.nd rfl (Or.inl rfl) (pe_lst (pa_cons (pv 0) pa_nil)))
      (C8.pss_cut
      (ps_while PassesOwn.never (pt_cmpR op_gt (pe_callB (call_lenK (K := K) rfl) (by rfl) T.z_len PySem.boot_len (pa_cons (pv 2) pa_nil)) pe_int (nomark _)) (pss_cons
      (ps_set (i := 3) sc_subformulas.nd rfl (Or.inl rfl) (pe_bm0 PySem.F.plainAttrs_list PySem.F.slot_list_pop PySem.F.type_list_pop mt_pop (pv 2)))
      (pss_cons
      (ps_expr (pe_bm PySem.F.plainAttrs_list PySem.F.slot_list_append PySem.F.type_list_append mt_append (pv 1) (pa_cons (pv 3) pa_nil)))
      (pss_one
      (ps_expr (pe_bm PySem.F.plainAttrs_list PySem.F.slot_list_extend PySem.F.type_list_extend (mt_extT (K := K) rfl) (pv 2) (pa_cons (pe_sl3 (K := K) rfl (C8.pe_c C_operands hr (by decide) (by rfl) (pa_cons (pv 3) pa_nil)) po_none po_none (po_some (pe_un un_neg pe_int))) pa_nil)))))))
      (pss_one
      (ps_ret (pv 1)))))), ?_⟩
    refine ⟨by show 0 ≤ sizeLine; decide, fun o ho => ?_⟩
    refine ⟨_, rfl, by show 1 ≤ sizeLine; decide, fun wt hwt => ?_⟩
    have hwo : wt ≠ o := fun z => by rw [z, upd_same] at hwt; cases hwt
    have hwt0 : H wt = none := by rwa [upd_ne hwo] at hwt
    have s0 : Same H (upd (upd H o (.lst [])) wt (.lst [v])) := (same_new ho).trans (same_new hwt)
    refine ⟨fun σ H2 => ∃ (fs : List V) (v3 : Option V), σ = [some v, some (.ref o), some (.ref wt), v3] ∧ Same H H2 ∧ H2 o = some (.lst fs) ∧ FmsAt K H2 fs (pre f), ?_, ?_⟩
    · refine ⟨fun m σ H2 => ∃ (fs ws : List V) (ds gs : List Fm) (v3 : Option V), m = sz f - ds.length ∧ σ = [some v, some (.ref o), some (.ref wt), v3] ∧ Same H H2 ∧ H2 o = some (.lst fs) ∧ H2 wt = some (.lst ws) ∧ FmsAt K H2 fs ds ∧ FmsAt K H2 ws gs ∧
          ds ++ (gs.reverse.map pre).flatten = pre f ∧ ∀ g ∈ gs, Wf nm g,
        ⟨_, [], [v], [], [f], none, rfl, rfl, s0, by rw [upd_ne hwo.symm, upd_same], upd_same, trivial, ⟨hf.same s0, trivial⟩, by simp, fun g hg => by rw [List.mem_singleton.mp hg]; exact hw⟩, ?_⟩
      rintro m σ H2 ⟨fs, ws, ds, gs, v3, rfl, rfl, s2, h2o, h2w, hfs, hws, heq, hwf⟩
      have hlen := congrArg List.length heq
      rw [List.length_append, pre_len] at hlen
      refine ⟨_, rfl, wt, _, rfl, .inl (.of h2w), _, _, rfl, rfl, _, rfl, ?_⟩
      refine ite_lt (fun c => ?_) (fun c => ?_)
      · have hne : ws ≠ [] := fun z => by rw [z] at c; exact absurd c (by decide)
        obtain ⟨ws0, x, rfl⟩ : ∃ ws0 x, ws = ws0 ++ [x] := ⟨ws.dropLast, ws.getLast hne, (List.dropLast_concat_getLast hne).symm⟩
        have hgl := hws.len
        have hgne : gs ≠ [] := fun z => by rw [z] at hgl; simp at hgl
        obtain ⟨gs0, g, rfl⟩ : ∃ gs0 g, gs = gs0 ++ [g] := ⟨gs.dropLast, gs.getLast hgne, (List.dropLast_concat_getLast hgne).symm⟩
        obtain ⟨hws0, hx⟩ := unsnoc hws
        have hwg : Wf nm g := hwf g (by simp)
        have hsz : ds.length < sz f := by
          have : 0 < (pre g).length := by rw [pre_len]; exact sz_pos g
          rw [List.reverse_append, List.reverse_singleton, List.map_append, List.flatten_append, List.length_append] at hlen
          simp at hlen
          omega
        refine ⟨_, fun _ _ h => h, ?_⟩
        refine ⟨_, rfl, .inl ⟨rfl, _, .of h2w⟩, wt, _, x, rfl, rfl, h2w, by simp, ?_⟩
        have e3 : (upd H2 wt (.lst (ws0 ++ [x]).dropLast)) o = some (.lst fs) := by rw [upd_ne hwo.symm]; exact h2o
        have fl := hfs.len
        refine ⟨_, rfl, .inl ⟨rfl, _, .of e3⟩, _, rfl, o, fs, x, rfl, rfl, e3, Nat.lt_of_le_of_lt (show fs.length ≤ 1000 by omega) (by decide), ?_⟩
        have k4 : Kp wt H2 (upd H2 wt (.lst (ws0 ++ [x]).dropLast)) := Kp.own
        have k5 : Kp o (upd H2 wt (.lst (ws0 ++ [x]).dropLast)) (upd (upd H2 wt (.lst (ws0 ++ [x]).dropLast)) o (.lst (fs ++ [x]))) := Kp.own
        have e4 : (upd (upd H2 wt (.lst (ws0 ++ [x]).dropLast)) o (.lst (fs ++ [x]))) wt = some (.lst (ws0 ++ [x]).dropLast) := by rw [upd_ne hwo, upd_same]
        have e5 : (upd (upd H2 wt (.lst (ws0 ++ [x]).dropLast)) o (.lst (fs ++ [x]))) o = some (.lst (fs ++ [x])) := upd_same
        have x4 := (hx.kp h2w k4).kp e3 k5
        have f4 := (hfs.kp h2w k4).kp e3 k5
        have w4 := (hws0.kp h2w k4).kp e3 k5
        have s4 : Same H (upd (upd H2 wt (.lst (ws0 ++ [x]).dropLast)) o (.lst (fs ++ [x]))) := fun b u hb => by
          rw [upd_ne (ne_of_none hb ho), upd_ne (ne_of_none hb hwt0)]
          exact s2 b u hb
        generalize upd (upd H2 wt (.lst (ws0 ++ [x]).dropLast)) o (.lst (fs ++ [x])) = H4 at e4 e5 x4 f4 w4 s4 ⊢
        rw [List.dropLast_concat] at e4
        refine ⟨_, rfl, .inl ⟨rfl, _, .of e4⟩, _, rfl, x, g, nm, rfl, x4, hwg, fun H5 p xs s5 hp hk => ?_⟩
        obtain ⟨r1, r2⟩ := revs hk
        refine ⟨_, rfl, _, rfl, p, xs, -1, rfl, rfl, .of hp, by decide, by decide, by rw [r1, List.length_reverse]; exact Nat.le_trans r2 (by decide), fun p2 hp2 => ?_⟩
        rw [r1]
        have s6 : Same H4 (upd H5 p2 (.tup xs.reverse)) := s5.trans (same_new hp2)
        have e6 := s6 _ _ e4
        have wl := hws0.len
        refine ⟨wt, p2, ws0, xs.reverse, rfl, rfl, e6, .of upd_same, Nat.le_trans (show ws0.length + xs.reverse.length ≤ 1002 from ?_) (by decide), ?_⟩
        · rw [List.length_reverse, wl]
          have hg0 := flat_ge gs0
          rw [List.reverse_append, List.reverse_singleton, List.map_append, List.flatten_append, List.length_append] at hlen
          simp at hlen hg0
          omega
        · have k7 : Kp wt (upd H5 p2 (.tup xs.reverse)) (upd (upd H5 p2 (.tup xs.reverse)) wt (.lst (ws0 ++ xs.reverse))) := Kp.own
          refine ⟨sz f - (ds ++ [g]).length, ?_, fs ++ [x], ws0 ++ xs.reverse, ds ++ [g], gs0 ++ (kids g).reverse, _, rfl, rfl, fun b u hb => ?_, ?_, upd_same, ?_, ?_, ?_, ?_⟩
          · rw [List.length_append]
            simp
            omega
          · rw [upd_ne (ne_of_none hb hwt0)]
            exact s6 b u (s4 b u hb)
          · rw [upd_ne hwo.symm]
            exact s6 _ _ e5
          · exact ((f4.app (us := [x]) (gs := [g]) ⟨x4, trivial⟩).same s6).kp e6 k7
          · exact (((w4.same s6).app ((hk.same (same_new hp2)).rev))).kp e6 k7
          · rw [← heq, List.reverse_append, List.reverse_append, List.reverse_reverse, List.reverse_singleton, List.map_append, List.map_append, List.flatten_append, List.flatten_append, List.append_assoc]
            congr 1
            show g :: _ = (List.flatten [pre g]) ++ _
            rw [List.flatten_singleton, pre_kids g]
            simp
          · intro z hz
            rcases List.mem_append.mp hz with h | h
            · exact hwf z (by simp [h])
            · exact wf_kids hwg (List.mem_reverse.mp h)
      · have hws0 : ws = [] := List.length_eq_zero_iff.mp (by omega)
        subst hws0
        have hgs0 : gs = [] := List.length_eq_zero_iff.mp hws.len.symm
        subst hgs0
        rw [List.reverse_nil, List.map_nil, List.flatten_nil, List.append_nil] at heq
        rw [← heq]
        exact ⟨fs, v3, rfl, s2, h2o, hfs⟩
    · rintro σ H2 ⟨fs, v3, rfl, s2, h2o, hfs⟩
      exact ⟨_, rfl, q H2 o fs s2 h2o hfs⟩
def cntK (ks : List Str) (fs : List Fm) : Nat := (fs.filter fun g => decide (kd g ∈ ks)).length
def spCnt (K : PySem.W.Frag) : Sp := fun vs H Q _ => ∃ (v : V) (a : Addr) (f : Fm) (nm ks : List Str), vs = [v, .ref a] ∧ FmAt K H v f ∧ Wf nm f ∧ sz f ≤ 1000 ∧ SqT K H a (ks.map V.str) ∧ ∀ H', Same H H' → Q (.int (cntK ks (pre f) : Nat)) H'
theorem cal_cnt (T : Txt K mg w) : C8.Cal P w K mg base 3 "count_operators" (spCnt K) [] := by
  have C_subformulas : C8.Cal P w K mg base 2 "subformulas" (spSubs K) [] := cal_subs T
  obtain ⟨f, fd, F, hm, hb⟩ := T.h_count_operators
  refine ⟨f, fd, _, [], F.ok sc_count_operators (fun vs H Q E h => ?_) (fun cdv A outer s H vs Q E hr h => ?_), hm, F.kp, hb, .nil⟩
  · obtain ⟨v, a, f, nm, ks, rfl, _⟩ := h
    rfl
  · obtain ⟨v, a, f, nm, ks, rfl, hf, hw, hz, hk, q⟩ := h
    refine ⟨_, (pss_one
      (ps_ret (pe_callB (call_lenK (K := K) rfl) (by rfl) T.z_len PySem.boot_len (pa_cons (pe_lc (own := [("part", 2)]) (g := gName 2) rfl sc_count_operators.nd (pi_list (C8.pe_c C_subformulas hr (by decide) (by rfl) (pa_cons (pv 0) pa_nil))) (blkOk_by (N := N_count_operators) (sc := defScope s_count_operators) (by decide +kernel)) (fun _ _ _ _ _ => (pg_name (i := 2) sc_count_operators.nd rfl (Or.inl rfl))) (fun _ _ _ _ _ => (pts_one (pt_cmpR (op_inK (K := K) rfl) (pe_ix (ix_tupK (K := K) rfl) (pv 2) pe_int (fun _ _ => rfl)) (pv 1) (by rfl)))) (fun _ _ _ _ _ => (pv 2))) pa_nil)))), ?_⟩
    refine ⟨_, rfl, v, f, nm, rfl, hf, hw, hz, fun H1 o fs s1 ho hfs => ⟨o, rfl, ⟨_, .of ho⟩, fun D hD => lc_list (K := K) (a := o) (xs := fs) (fun i H2 => ∃ us : List V, Same H1 H2 ∧ H2 D = some (.lst us) ∧ us.length = cntK ks ((pre f).take i))
      ⟨[], same_new hD, upd_same, rfl⟩ (fun i H2 _ ⟨_, s2, _⟩ => .of (s2 _ _ ho)) ?_ ?_⟩⟩
    · rintro i x H2 hi ⟨us, s2, e2, hl2⟩
      obtain ⟨g, hg, hx⟩ := hfs.get hi
      obtain ⟨b, xs, rfl, hb2⟩ := (hx.same s2).tup
      refine ⟨rfl, _, rfl, b, _, _, .str (kd g), rfl, rfl, hb2, (show atI (V.str (kd g) :: xs) 0 = some (V.str (kd g)) from atI_nat (j := 0) rfl), _, rfl, inq (ss := ks) (sqt_same (s1.trans s2) hk) ⟨_, rfl, ?_⟩⟩
      have et : (pre f).take (i + 1) = (pre f).take i ++ [g] := by rw [List.take_add_one, hg]; rfl
      have hll : (pre f).length = sz f := pre_len f
      have hlt : i < (pre f).length := (List.getElem?_eq_some_iff.mp hg).1
      have hlu : us.length ≤ 1000 := by
        have h1 : us.length ≤ ((pre f).take i).length := by rw [hl2]; exact List.length_filter_le _ _
        rw [List.length_take] at h1
        omega
      refine ite2 (fun c => ?_) (fun c => ?_)
      · refine ⟨_, rfl, us, e2, Nat.lt_of_le_of_lt hlu (by decide), us ++ [.ref b], fun c2 u hc => ?_, upd_same, ?_⟩
        · rw [upd_ne (ne_of_none hc hD)]
          exact s2 _ _ hc
        · rw [et, List.length_append, hl2]
          unfold cntK
          have e1 : (List.filter (fun g => decide (kd g ∈ ks)) [g]) = [g] := by simp only [List.filter, c]
          rw [List.filter_append, List.length_append, e1]
          rfl
      · refine ⟨us, s2, e2, ?_⟩
        rw [et, hl2]
        unfold cntK
        have e1 : (List.filter (fun g => decide (kd g ∈ ks)) [g]) = [] := by simp only [List.filter, eq_false_of_ne_true c]
        rw [List.filter_append, List.length_append, e1]
        rfl
    · rintro H2 ⟨us, s2, e2, hl2⟩
      have e : (pre f).take fs.length = pre f := List.take_of_length_le (by rw [hfs.len]; exact Nat.le_refl _)
      refine ⟨D, us, rfl, .inl (.of e2), ?_⟩
      rw [hl2, e]
      exact q H2 (s1.trans s2)
def tpK : List Str := Tr.future ++ Tr.past
def spTmp (K : PySem.W.Frag) : Sp := fun vs H Q _ => ∃ (v : V) (f : Fm) (nm : List Str), vs = [v] ∧ FmAt K H v f ∧ Wf nm f ∧ sz f ≤ 1000 ∧ ∀ H', Same H H' → Q (.int (cntK tpK (pre f) : Nat)) H'
theorem cal_tmp (T : Txt K mg w) : C8.Cal P w K mg base 4 "temporal_count" (spTmp K) [] := by
  have C_count_operators : C8.Cal P w K mg base 3 "count_operators" (spCnt K) [] := cal_cnt T
  obtain ⟨aF, aP, gF, gP⟩ := glo T
  obtain ⟨f, fd, F, hm, hb⟩ := T.h_temporal_count
  refine ⟨f, fd, _, [], F.ok sc_temporal_count (fun vs H Q E h => ?_) (fun cdv A outer s H vs Q E hr h => ?_), hm, F.kp, hb, .nil⟩
  · obtain ⟨v, f, nm, rfl, _⟩ := h
    rfl
  · obtain ⟨v, f, nm, rfl, hf, hw, hz, q⟩ := h
    refine ⟨_, (pss_one
      (ps_ret (C8.pe_c C_count_operators hr (by decide) (by rfl) (pa_cons (pv 0) (pa_cons (pe_op (op_catK (K := K) rfl) (pe_glob (v := .ref aF) (by rfl) gF.g rfl) (pe_glob (v := .ref aP) (by rfl) gP.g rfl)) pa_nil))))), ?_⟩
    refine ⟨_, rfl, _, _, _, _, rfl, rfl, gF.q H, gP.q H, (by decide), fun z => absurd z (by decide), fun _ z => absurd z (by decide), fun _ _ p hp => ?_⟩
    have s1 := same_new (o := .tup (Tr.future.map V.str ++ Tr.past.map V.str)) hp
    refine ⟨v, p, f, nm, tpK, rfl, hf.same s1, hw, hz, .of (by rw [upd_same]; unfold tpK; rw [List.map_append]), fun H2 s2 => q H2 (s1.trans s2)⟩
/-- the names of the signals -/
def sgs : List Fm → List Str
  | [] => []
  | .sg s :: r => s :: sgs r
  | _ :: r => sgs r
theorem sgs_app : ∀ a b : List Fm, sgs (a ++ b) = sgs a ++ sgs b
  | [], b => rfl
  | .sg s :: r, b => by
    show s :: sgs (r ++ b) = s :: (sgs r ++ sgs b)
    rw [sgs_app r b]
  | .c0 _ :: r, b => sgs_app r b
  | .un _ _ :: r, b => sgs_app r b
  | .bin _ _ _ :: r, b => sgs_app r b
theorem sgs_len : ∀ a : List Fm, (sgs a).length ≤ a.length
  | [] => Nat.le_refl _
  | .sg s :: r => Nat.succ_le_succ (sgs_len r)
  | .c0 _ :: r => Nat.le_succ_of_le (sgs_len r)
  | .un _ _ :: r => Nat.le_succ_of_le (sgs_len r)
  | .bin _ _ _ :: r => Nat.le_succ_of_le (sgs_len r)
theorem wf_pre {nm : List Str} : ∀ {f : Fm}, Wf nm f → ∀ g ∈ pre f, Wf nm g
  | .c0 k, h, g, m => by rw [List.mem_singleton.mp m]; exact h
  | .sg s, h, g, m => by rw [List.mem_singleton.mp m]; exact h
  | .un k f, h, g, m => by
    rcases List.mem_cons.mp m with e | e
    · rw [e]; exact h
    · exact wf_pre h.2 g e
  | .bin k f f2, h, g, m => by
    rcases List.mem_cons.mp m with e | e
    · rw [e]; exact h
    · rcases List.mem_append.mp e with e | e
      · exact wf_pre h.2.1 g e
      · exact wf_pre h.2.2 g e
def spSig (K : PySem.W.Frag) : Sp := fun vs H Q _ => ∃ (v : V) (f : Fm) (nm : List Str), vs = [v] ∧ FmAt K H v f ∧ Wf nm f ∧ sz f ≤ 60 ∧
  ∀ (H' : Hp) (p : Addr) (ys : List Str), Same H H' → H' p = some (.lst (ys.map V.str)) → ys.Nodup → (∀ z, z ∈ ys ↔ z ∈ sgs (pre f)) → sortedS ys = true → ys.length ≤ 60 → Q (.ref p) H'
theorem cal_sig (T : Txt K mg w) : C8.Cal P w K mg base 3 "signal_names" (spSig K) [] := by
  have C_subformulas : C8.Cal P w K mg base 2 "subformulas" (spSubs K) [] := cal_subs T
  obtain ⟨f, fd, F, hm, hb⟩ := T.h_signal_names
  refine ⟨f, fd, _, [], F.ok sc_signal_names (fun vs H Q E h => ?_) (fun cdv A outer s H vs Q E hr h => ?_), hm, F.kp, hb, .nil⟩
  · obtain ⟨v, f, nm, rfl, _⟩ := h
    rfl
  · obtain ⟨v, f, nm, rfl, hf, hw, hz, q⟩ := h
    refine ⟨_, (pss_one
      (ps_ret (pe_callB (Sxt.cr_sortTx (P := P) (w := w) rfl rfl rfl) (by rfl) T.z_sorted (by decide +kernel) (pa_cons (pe_callTy (Sxt.cr_setTx (K := K) (P := P) (w := w) rfl rfl rfl rfl) (by rfl) T.z_set (by decide +kernel) (pa_cons (pe_lc (own := [("part", 1)]) (g := gName 1) rfl sc_signal_names.nd (pi_list (C8.pe_c C_subformulas hr (by decide) (by rfl) (pa_cons (pv 0) pa_nil))) (blkOk_by (N := N_signal_names) (sc := defScope s_signal_names) (by decide +kernel)) (fun _ _ _ _ _ => (pg_name (i := 1) sc_signal_names.nd rfl (Or.inl rfl))) (fun _ _ _ _ _ => (pts_one (pt_cmpR op_eq (pe_ix (ix_tupK (K := K) rfl) (pv 1) pe_int (fun _ _ => rfl)) pe_str (nomark _)))) (fun _ _ _ _ _ => (pe_ix (ix_tupK (K := K) rfl) (pv 1) pe_int (fun _ _ => rfl)))) pa_nil)) pa_nil)))), ?_⟩
    have nz : ∀ {k : Str}, k ≠ sSig → (decide (V.str k = V.str "signal")) = false := fun hk => decide_eq_false fun z => hk (V.str.inj z)
    have hll : (pre f).length = sz f := pre_len f
    refine ⟨_, rfl, v, f, nm, rfl, hf, hw, Nat.le_trans hz (by decide), fun H1 o fs s1 ho hfs => ⟨o, rfl, ⟨_, .of ho⟩, fun D hD => lc_list (K := K) (a := o) (xs := fs) (fun i H2 => Same H1 H2 ∧ H2 D = some (.lst ((sgs ((pre f).take i)).map V.str)))
      ⟨same_new hD, upd_same⟩ (fun i H2 _ ⟨s2, _⟩ => .of (s2 _ _ ho)) ?_ ?_⟩⟩
    · rintro i x H2 hi ⟨s2, e2⟩
      obtain ⟨g, hg, hx⟩ := hfs.get hi
      have et : (pre f).take (i + 1) = (pre f).take i ++ [g] := by rw [List.take_add_one, hg]; rfl
      have hwg : Wf nm g := wf_pre hw g (List.mem_of_getElem? hg)
      have hlt : i < (pre f).length := (List.getElem?_eq_some_iff.mp hg).1
      have hlu : (sgs ((pre f).take i)).length ≤ 1000 := by
        have h1 := sgs_len ((pre f).take i)
        rw [List.length_take] at h1
        omega
      have hx2 := hx.same s2
      have no : sgs [g] = [] → sgs ((pre f).take (i + 1)) = sgs ((pre f).take i) := fun e => by rw [et, sgs_app, e, List.append_nil]
      cases g with
      | sg s =>
        obtain ⟨b, rfl, hb2⟩ := hx2
        refine ⟨rfl, _, rfl, b, _, _, _, rfl, rfl, hb2, rfl, rfl, _, rfl, iteT ?_⟩
        refine ⟨_, rfl, b, _, _, _, rfl, rfl, hb2, rfl, _, e2, by rw [List.length_map]; exact Nat.lt_of_le_of_lt hlu (by decide), fun c2 u hc => ?_, ?_⟩
        · rw [upd_ne (ne_of_none hc hD)]
          exact s2 _ _ hc
        · rw [upd_same, et, sgs_app, List.map_append]
          rfl
      | c0 k =>
        obtain ⟨b, rfl, hb2⟩ := hx2
        refine ⟨rfl, _, rfl, b, _, _, _, rfl, rfl, hb2, rfl, rfl, _, rfl, ?_⟩
        rw [nz hwg]
        refine iteF ⟨s2, ?_⟩
        rw [no rfl]; exact e2
      | un k f2 =>
        obtain ⟨b, x2, rfl, hb2, _⟩ := hx2
        refine ⟨rfl, _, rfl, b, _, _, _, rfl, rfl, hb2, rfl, rfl, _, rfl, ?_⟩
        rw [nz hwg.1]
        refine iteF ⟨s2, ?_⟩
        rw [no rfl]; exact e2
      | bin k f2 f3 =>
        obtain ⟨b, x2, x3, rfl, hb2, _⟩ := hx2
        refine ⟨rfl, _, rfl, b, _, _, _, rfl, rfl, hb2, rfl, rfl, _, rfl, ?_⟩
        rw [nz hwg.1]
        refine iteF ⟨s2, ?_⟩
        rw [no rfl]; exact e2
    · rintro H2 ⟨s2, e2⟩
      have e : (pre f).take fs.length = pre f := List.take_of_length_le (by rw [hfs.len]; exact Nat.le_refl _)
      rw [e] at e2
      have hsl : (sgs (pre f)).length ≤ 60 := by
        have := sgs_len (pre f)
        omega
      refine ⟨D, _, rfl, .of e2, Nat.lt_of_le_of_lt (show (sgs (pre f)).length + 1 ≤ 61 by omega) (by decide), fun p us hp h1 h2 h3 => ?_⟩
      have s3 : Same H2 (upd H2 p (Sxt.SetTxO P w p us)) := same_new hp
      refine ⟨p, us, rfl, upd_same, by omega, fun ys p2 hpm hs hp2 => ?_⟩
      exact q _ p2 ys ((s1.trans s2).trans (s3.trans (same_new hp2))) upd_same (hpm.nodup_iff.mpr h3) (fun z => by rw [hpm.mem_iff, h2]) hs (by rw [hpm.length_eq]; omega)
def unOps : List Str := ["not", "next", "eventually", "always", "previous", "weak_previous", "once", "historically"]
def binOps : List Str := ["and", "or", "implies", "iff", "until", "release", "since", "trigger", "weak_until"]
def Wo (nm : List Str) : Fm → Prop
  | .c0 k => k = "true" ∨ k = "false"
  | .sg s => s ∈ nm
  | .un k f => k ∈ unOps ∧ Wo nm f
  | .bin k f g => k ∈ binOps ∧ Wo nm f ∧ Wo nm g
theorem un_ne {k : Str} (h : k ∈ unOps) : k ≠ sSig := fun z => by
  subst z
  exact absurd h (by decide)
theorem bin_ne {k : Str} (h : k ∈ binOps) : k ≠ sSig := fun z => by
  subst z
  exact absurd h (by decide)
theorem Wo.wf {nm : List Str} : ∀ {f : Fm}, Wo nm f → Wf nm f
  | .c0 k, h => fun z => by
    subst z
    exact absurd (show sSig = "true" ∨ sSig = "false" from h) (by decide)
  | .sg s, h => h
  | .un k f, h => ⟨un_ne h.1, h.2.wf⟩
  | .bin k f g, h => ⟨bin_ne h.1, h.2.1.wf, h.2.2.wf⟩
abbrev sEnds : Str := "xqzjkvbw"
def EndsIn (s : Str) (k : Int) : Prop := ∃ c, atI sEnds.cps.toList k = some c ∧ s.cps.toList.getLast? = some c
theorem ends_app (x : Str) (c : Nat) : (x ++ (⟨#[c]⟩ : Str)).cps.toList.getLast? = some c := by
  show (x.cps ++ #[c]).toList.getLast? = some c
  simp
def spName : Sp := fun vs H Q _ => ∃ (d : Addr) (k : Int), vs = [.ref d, .int k] ∧ Drw H d ∧ 0 ≤ k ∧ k < 8 ∧ ∀ (H' : Hp) (s : Str), Kp d H H' → Drw H' d → PyData.strOk s = true → EndsIn s k → Q (.str s) H'
def spNames : Sp := fun vs H Q _ => ∃ (d : Addr) (c : Int), vs = [.ref d, .int c] ∧ Drw H d ∧ 0 ≤ c ∧ c ≤ 8 ∧
  ∀ (H' : Hp) (p : Addr) (ss : List Str), Kp d H H' → Drw H' d → p ≠ d → H' p = some (.lst (ss.map V.str)) → ss.length = c.toNat → (∀ s ∈ ss, PyData.strOk s = true) → ss.Nodup → Q (.ref p) H'
def spLeaf (K : PySem.W.Frag) : Sp := fun vs H Q _ => ∃ (d n : Addr) (nm : List Str), vs = [.ref d, .ref n] ∧ Drw H d ∧ n ≠ d ∧ H n = some (.lst (nm.map V.str)) ∧ nm.length ≤ 30 ∧
  ∀ (H' : Hp) (v : V) (f : Fm), Kp d H H' → Drw H' d → FmAt K H' v f → Wo nm f → sz f ≤ 1 → Q v H'
def dpt : Fm → Nat
  | .c0 _ => 0
  | .sg _ => 0
  | .un _ f => dpt f + 1
  | .bin _ f g => max (dpt f) (dpt g) + 1
def Szd (f : Fm) (n : Nat) : Prop := sz f + 1 ≤ 2 ^ (n + 1) ∧ dpt f ≤ n
theorem szd_leaf {f : Fm} (h : sz f ≤ 1) (n : Nat) : Szd f n := by
  have h1 : 2 ≤ 2 ^ (n + 1) := by
    rw [Nat.pow_succ]
    have : 1 ≤ 2 ^ n := Nat.one_le_two_pow
    omega
  cases f with
  | c0 _ => exact ⟨h1, Nat.zero_le _⟩
  | sg _ => exact ⟨h1, Nat.zero_le _⟩
  | un _ f =>
    have := sz_pos f
    have h : sz f + 1 ≤ 1 := h
    omega
  | bin _ f g =>
    have := sz_pos f
    have h : sz f + sz g + 1 ≤ 1 := h
    omega
theorem szd_un {f : Fm} {n : Nat} (k : Str) (h : Szd f n) : Szd (.un k f) (n + 1) := by
  refine ⟨?_, Nat.succ_le_succ h.2⟩
  show sz f + 1 + 1 ≤ _
  have := h.1
  rw [Nat.pow_succ 2 (n + 1)]
  have : 1 ≤ 2 ^ (n + 1) := Nat.one_le_two_pow
  omega
theorem szd_bin {f g : Fm} {n : Nat} (k : Str) (h : Szd f n) (h' : Szd g n) : Szd (.bin k f g) (n + 1) := by
  refine ⟨?_, Nat.succ_le_succ (Nat.max_le.mpr ⟨h.2, h'.2⟩)⟩
  show sz f + sz g + 1 + 1 ≤ _
  have := h.1
  have := h'.1
  rw [Nat.pow_succ 2 (n + 1)]
  omega
def spForm (K : PySem.W.Frag) : Nat → Sp
  | 0 => fun _ _ _ _ => False
  | dp + 1 => fun vs H Q _ => ∃ (d n : Addr) (nm : List Str) (b : Int), vs = [.ref d, .ref n, .int b, .int (dp : Int)] ∧ Drw H d ∧ n ≠ d ∧ H n = some (.lst (nm.map V.str)) ∧ nm.length ≤ 30 ∧ 0 ≤ b ∧ b ≤ 1000 ∧
    ∀ (H' : Hp) (v : V) (f : Fm), Kp d H H' → Drw H' d → FmAt K H' v f → Wo nm f → Szd f dp → Q v H'
theorem str_at {z : Str} {i : Int} (h0 : 0 ≤ i) (h1 : i < (z.length : Nat)) : ∃ c, atI z.cps.toList i = some c := by
  have h2 : i.toNat < z.cps.toList.length := by
    rw [Array.length_toList]
    show i.toNat < z.length
    omega
  refine ⟨z.cps.toList[i.toNat], ?_⟩
  have e : ((i.toNat : Nat) : Int) = i := by omega
  have r := atI_nat (List.getElem?_eq_getElem h2)
  rwa [e] at r
theorem pick_at {ss : List Str} {i : Int} (h0 : 0 ≤ i) (h1 : i < (ss.length : Nat)) : ∃ s, s ∈ ss ∧ atI (ss.map V.str) i = some (.str s) := by
  have h2 : i.toNat < ss.length := by omega
  refine ⟨ss[i.toNat], List.getElem_mem h2, ?_⟩
  have e : ((i.toNat : Nat) : Int) = i := by omega
  have r := atI_nat (xs := ss.map V.str) (v := .str ss[i.toNat]) (by rw [List.getElem?_map, List.getElem?_eq_getElem h2]; rfl)
  rwa [e] at r
theorem one_len {c : Nat} : (⟨#[c]⟩ : Str).length = 1 := rfl
theorem app_len (a b : Str) : (a ++ b).length = a.length + b.length := by
  show (a.cps ++ b.cps).size = _
  rw [Array.size_append]
  rfl
abbrev sChars : Str := "abcdefghijklmnopqrstuvwxyz0123456789"
theorem len_chars : sChars.length = 36 := by decide +kernel
theorem len_ends : sEnds.length = 8 := by decide +kernel
theorem ok_app {a b : Str} (ha : PyData.strOk a = true) (hb : PyData.strOk b = true) : PyData.strOk (a ++ b) = true := by
  show (a.cps ++ b.cps).all _ = true
  rw [Array.all_append]
  unfold PyData.strOk at ha hb
  rw [ha, hb]
  rfl
theorem ok_join {sep : Str} (hs : PyData.strOk sep = true) : ∀ xs : List Str, (∀ x ∈ xs, PyData.strOk x = true) → PyData.strOk (Str.join sep xs) = true
  | [], _ => by
    rw [Str.join]
    decide +kernel
  | [x], h => by
    rw [Str.join]
    exact h x List.mem_cons_self
  | x :: y :: rest, h => ok_app (ok_app (h x List.mem_cons_self) hs) (ok_join hs (y :: rest) fun z hz => h z (List.mem_cons_of_mem _ hz))
theorem ok_one {z : Str} {i : Int} {c : Nat} (hz : PyData.strOk z = true) (h : atI z.cps.toList i = some c) : PyData.strOk ⟨#[c]⟩ = true := by
  obtain ⟨j, _, _, _, hj, _⟩ := atI_get h
  have hm : c ∈ z.cps.toList := by
    first
    | exact List.mem_of_getElem? (by assumption)
    | exact List.mem_of_getElem? hj
  unfold PyData.strOk at hz ⊢
  rw [Array.all_eq_true_iff_forall_mem] at hz
  have := hz c (by simpa using hm)
  simpa using this
theorem ok_chars : PyData.strOk sChars = true := by decide +kernel
theorem ok_ends : PyData.strOk sEnds = true := by decide +kernel
theorem cal_name (T : Txt K mg w) : C8.Cal P w K mg base 2 "_law_name" spName [] := by
  have C_law_take : C8.Cal P w K mg base 1 "_law_take" spTake [] := cal_take T
  obtain ⟨f, fd, F, hm, hb⟩ := T.h_law_name
  refine ⟨f, fd, _, [], F.ok sc_law_name (fun vs H Q E h => ?_) (fun cdv A outer s H vs Q E hr h => ?_), hm, F.kp, hb, .nil⟩
  · obtain ⟨d, k, rfl, _⟩ := h
    rfl
  · obtain ⟨d, k, rfl, hd, k0, k1, q⟩ := h
    refine ⟨_, (pss_cons
      (ps_set (i := 2) sc_law_name.nd rfl (Or.inr rfl) pe_str)
      (pss_cons
      (ps_set (i := 3) sc_law_name.nd rfl (Or.inl rfl) (pe_join pe_str (pe_lc (own := [("j", 4)]) (g := gName 4) (tt := tYes) rfl sc_law_name.nd (pi_range1 (by rfl) T.z_range (pa_cons (C8.pe_c C_law_take hr (by decide) (by rfl) (pa_cons (pv 0) (pa_cons pe_int pa_nil))) pa_nil)) (blkOk_by (N := N_law_name) (sc := defScope s_law_name) (by decide +kernel)) (fun _ _ _ _ _ => (pg_name (i := 4) sc_law_name.nd rfl (Or.inl rfl))) (fun _ _ _ _ _ => pts_nil) (fun _ _ _ _ _ => (pe_ix ix_str (pv 2) (C8.pe_c C_law_take hr (by decide) (by rfl) (pa_cons (pv 0) (pa_cons pe_int pa_nil))) (fun _ _ => rfl))))))
      (pss_one
      (ps_ret (pe_op op_add_str (pe_op op_add_str (pe_ix ix_str (pv 2) (C8.pe_c C_law_take hr (by decide) (by rfl) (pa_cons (pv 0) (pa_cons pe_int pa_nil))) (fun _ _ => rfl)) (pv 3)) (pe_ix ix_str pe_str (pv 1) (fun _ _ => rfl))))))), ?_⟩
    refine ⟨⟨_, rfl⟩, ?_⟩
    refine ⟨_, rfl, d, _, rfl, hd, by decide, fun r ds r0 r1 => ?_⟩
    refine ⟨_, rfl, by omega, by omega, fun D hD => ?_⟩
    have nDd : D ≠ d := fun z => by rw [z, upd_same] at hD; cases hD
    refine lc_range (lo := 0) (n := r.toNat) (fun i H' => ∃ xs : List Str, Kp d H H' ∧ Drw H' d ∧ H' D = some (.lst (xs.map V.str)) ∧ xs.length = i ∧ ∀ x ∈ xs, x.length = 1 ∧ PyData.strOk x = true)
      ⟨[], Kp.own.trans (Kp.new hD), Drw.own.new hD, upd_same, rfl, by simp⟩ ?_ ?_
    · rintro i H1 hi ⟨xs, k1', d1, e1, el, hx⟩
      refine ⟨rfl, _, rfl, _, rfl, d, _, rfl, d1, by decide, fun u us u0 u1 => ?_⟩
      obtain ⟨c, hc⟩ := str_at (z := sChars) u0 (by rw [len_chars]; exact u1)
      refine ⟨sChars, u, c, rfl, rfl, by rw [len_chars]; decide, hc, ?_⟩
      refine ⟨xs.map V.str, by rw [upd_ne nDd]; exact e1, by rw [List.length_map]; exact Nat.lt_of_le_of_lt (show xs.length ≤ 1000 by omega) (by decide), xs ++ [⟨#[c]⟩], ?_, ?_, ?_, ?_, ?_⟩
      · intro b o nb hb
        have nbD : b ≠ D := fun z => by
          have h0 : (upd H d (.lst (ds.map V.int))) D = none := hD
          rw [upd_ne nDd] at h0
          rw [z, h0] at hb
          cases hb
        rw [upd_ne nbD, upd_ne nb]
        exact k1' _ _ nb hb
      · exact ⟨us, by rw [upd_ne nDd.symm, upd_same]⟩
      · rw [upd_same, List.map_append]
        rfl
      · simp [el]
      · intro x hx2
        rcases List.mem_append.mp hx2 with z | z
        · exact hx x z
        · rw [List.mem_singleton.mp z]
          exact ⟨one_len, ok_one ok_chars hc⟩
    · rintro H1 ⟨xs, k2, d1, e1, el, hx⟩
      have hsum : (xs.map (·.length)).sum ≤ 2 := by
        have e : xs.map (·.length) = List.replicate xs.length 1 := List.eq_replicate_iff.mpr ⟨by rw [List.length_map], fun b hb => by
          obtain ⟨x, hx2, rfl⟩ := List.mem_map.mp hb
          exact (hx x hx2).1⟩
        rw [e, List.sum_replicate_nat]
        omega
      have hz : Str.length (Str.ofString "") = 0 := by decide +kernel
      have hjl := StrLaws.join_length_le (Str.ofString "") xs
      rw [← (show Txt.join (Str.ofString "") xs = Str.join (Str.ofString "") xs from TL.join_eq _ _), hz] at hjl
      have hj2 : (Txt.join (Str.ofString "") xs).length ≤ 2 := by omega
      refine ⟨_, D, xs, rfl, rfl, .inl (.of e1), ?_, ?_⟩
      · show (xs.map (·.length)).sum + xs.length * Str.length (Str.ofString "") ≤ 16777216
        rw [hz]
        omega
      · refine ⟨_, rfl, _, rfl, d, _, rfl, d1, by decide, fun u us u0 u1 => ?_⟩
        obtain ⟨c, hc⟩ := str_at (z := sChars) u0 (by rw [len_chars]; omega)
        refine ⟨sChars, u, c, rfl, rfl, by rw [len_chars]; decide, hc, ?_⟩
        refine ⟨_, rfl, _, _, rfl, rfl, ?_, ?_⟩
        · rw [one_len]
          exact Nat.le_trans (show 1 + (Txt.join (Str.ofString "") xs).length ≤ 3 by omega) (by decide)
        obtain ⟨c2, hc2⟩ := str_at (z := sEnds) k0 (by rw [len_ends]; exact k1)
        refine ⟨_, rfl, sEnds, k, c2, rfl, rfl, by rw [len_ends]; decide, hc2, _, _, rfl, rfl, ?_, ?_⟩
        · rw [app_len, one_len, one_len]
          exact Nat.le_trans (show 1 + (Txt.join (Str.ofString "") xs).length + 1 ≤ 4 by omega) (by decide)
        · refine q _ _ (k2.trans Kp.own) Drw.own (ok_app (ok_app (ok_one ok_chars hc) ?_) (ok_one ok_ends hc2)) ⟨c2, hc2, ends_app _ _⟩
          rw [show Txt.join (Str.ofString "") xs = Str.join (Str.ofString "") xs from TL.join_eq _ _]
          exact ok_join (by decide +kernel) xs fun x hx2 => (hx x hx2).2
theorem ends_inj : ∀ i j : Fin 8, sEnds.cps.toList[i.val]? = sEnds.cps.toList[j.val]? → i = j := by decide +kernel
theorem ends_nodup {xs : List Str} (hl : xs.length ≤ 8) (h : ∀ (j : Nat) (s : Str), xs[j]? = some s → EndsIn s (j : Int)) : xs.Nodup := by
  unfold List.Nodup
  rw [List.pairwise_iff_getElem]
  intro i j hi hj hij e
  obtain ⟨c, h1, h2⟩ := h i _ (List.getElem?_eq_getElem hi)
  obtain ⟨c', h1', h2'⟩ := h j _ (List.getElem?_eq_getElem hj)
  rw [e, h2'] at h2
  cases h2
  have gi : ∀ (k : Nat) c, k < 8 → atI sEnds.cps.toList (k : Int) = some c → sEnds.cps.toList[k]? = some c := fun k c hk hc => by
    have hl : k < sEnds.cps.toList.length := Nat.lt_of_lt_of_eq hk (by decide +kernel)
    have := atI_nat (List.getElem?_eq_getElem hl)
    rw [hc] at this
    rw [List.getElem?_eq_getElem hl, ← this]
  have := ends_inj ⟨i, by omega⟩ ⟨j, by omega⟩ ((gi i _ (by omega) h1).trans (gi j _ (by omega) h1').symm)
  have := congrArg Fin.val this
  simp only at this
  omega
theorem cal_names (T : Txt K mg w) : C8.Cal P w K mg base 3 "_law_names" spNames [] := by
  have C_law_name : C8.Cal P w K mg base 2 "_law_name" spName [] := cal_name T
  obtain ⟨f, fd, F, hm, hb⟩ := T.h_law_names
  refine ⟨f, fd, _, [], F.ok sc_law_names (fun vs H Q E h => ?_) (fun cdv A outer s H vs Q E hr h => ?_), hm, F.kp, hb, .nil⟩
  · obtain ⟨d, c, rfl, _⟩ := h
    rfl
  · obtain ⟨d, c, rfl, hd, c0, c1, q⟩ := h
    refine ⟨_, (pss_one
      (ps_ret (pe_lc (own := [("k", 2)]) (g := gName 2) (tt := tYes) rfl sc_law_names.nd (pi_range1 (by rfl) T.z_range (pa_cons (pv 1) pa_nil)) (blkOk_by (N := N_law_names) (sc := defScope s_law_names) (by decide +kernel)) (fun _ _ _ _ _ => (pg_name (i := 2) sc_law_names.nd rfl (Or.inl rfl))) (fun _ _ _ _ _ => pts_nil) (fun _ _ _ _ _ => (C8.pe_c C_law_name hr (by decide) (by rfl) (pa_cons (pv 0) (pa_cons (pv 2) pa_nil))))))), ?_⟩
    refine ⟨_, rfl, _, rfl, by omega, by omega, fun D hD => ?_⟩
    have nDd : D ≠ d := fun z => by
      obtain ⟨ds, e⟩ := hd
      rw [z, e] at hD
      cases hD
    refine lc_range (lo := 0) (n := c.toNat) (fun i H' => ∃ xs : List Str, Kp d H H' ∧ Drw H' d ∧ H' D = some (.lst (xs.map V.str)) ∧ xs.length = i ∧ (∀ x ∈ xs, PyData.strOk x = true) ∧ ∀ (j : Nat) (s : Str), xs[j]? = some s → EndsIn s (j : Int))
      ⟨[], Kp.new hD, hd.new hD, upd_same, rfl, by simp, fun j s z => by simp at z⟩ ?_ ?_
    · rintro i H1 hi ⟨xs, k1, d1, e1, el, eok, een⟩
      refine ⟨rfl, _, rfl, _, rfl, d, _, rfl, d1, by omega, by omega, fun H2 s k2 d2 sok sen => ?_⟩
      refine ⟨xs.map V.str, k2 _ _ nDd e1, by rw [List.length_map]; exact Nat.lt_of_le_of_lt (show xs.length ≤ 1000 by omega) (by decide), xs ++ [s], fun b o nb hb => ?_, ?_, ?_, ?_, fun x hx2 => ?_, fun j s2 hj => ?_⟩
      · rw [upd_ne (fun z => by rw [z, hD] at hb; cases hb)]
        exact k2 _ _ nb (k1 _ _ nb hb)
      · obtain ⟨ds, e⟩ := d2
        exact ⟨ds, by rw [upd_ne nDd.symm]; exact e⟩
      · rw [upd_same, List.map_append]
        rfl
      · simp [el]
      · rcases List.mem_append.mp hx2 with z | z
        · exact eok x z
        · rw [List.mem_singleton.mp z]
          exact sok
      · rcases Nat.lt_or_ge j xs.length with z | z
        · rw [List.getElem?_append_left z] at hj
          exact een j s2 hj
        · rw [List.getElem?_append_right z] at hj
          have hj0 : j - xs.length = 0 := by
            have := (List.getElem?_eq_some_iff.mp hj).1
            simp at this
            omega
          rw [hj0] at hj
          cases hj
          have e : (j : Int) = 0 + (i : Int) := by omega
          rw [e]
          exact sen
    · rintro H1 ⟨xs, k1, d1, e1, el, eok, een⟩
      exact q H1 D xs k1 d1 nDd e1 el eok (ends_nodup (by omega) een)
theorem cal_leaf (T : Txt K mg w) : C8.Cal P w K mg base 2 "_law_leaf" (spLeaf K) [] := by
  have C_law_take : C8.Cal P w K mg base 1 "_law_take" spTake [] := cal_take T
  obtain ⟨f, fd, F, hm, hb⟩ := T.h_law_leaf
  refine ⟨f, fd, _, [], F.ok sc_law_leaf (fun vs H Q E h => ?_) (fun cdv A outer s H vs Q E hr h => ?_), hm, F.kp, hb, .nil⟩
  · obtain ⟨d, n, nm, rfl, _⟩ := h
    rfl
  · obtain ⟨d, n, nm, rfl, hd, hnd, hn, hl, q⟩ := h
    refine ⟨_, (pss_cons
      (ps_set (i := 2) sc_law_leaf.nd rfl (Or.inl rfl) (C8.pe_c C_law_take hr (by decide) (by rfl) (pa_cons (pv 0) (pa_cons pe_int pa_nil))))
      (pss_cons
      (ps_if (PW.pt (pw_or (pt_cmpR op_eq (pe_callB (call_lenK (K := K) rfl) (by rfl) T.z_len PySem.boot_len (pa_cons (pv 1) pa_nil)) pe_int (nomark _)) (pw_or1 (pt_cmpR op_eq (pv 2) pe_int (nomark _))))) (pss_one
      (ps_ret (pe_tup (pa_cons (pe_ix (ix_listK (K := K) rfl) (pe_lst (pa_cons pe_str (pa_cons pe_str pa_nil))) (pe_op op_mod (pv 2) pe_int) (fun _ _ => rfl)) pa_nil)))) pss_nil)
      (pss_one
      (ps_ret (pe_tup (pa_cons pe_str (pa_cons (pe_ix (ix_listK (K := K) rfl) (pv 1) (C8.pe_c C_law_take hr (by decide) (by rfl) (pa_cons (pv 0) (pa_cons (pe_callB (call_lenK (K := K) rfl) (by rfl) T.z_len PySem.boot_len (pa_cons (pv 1) pa_nil)) pa_nil))) (fun _ _ => rfl)) pa_nil))))))), ?_⟩
    refine ⟨_, rfl, d, _, rfl, hd, by decide, fun r ds r0 r1 => ?_⟩
    have k1 : Kp d H (upd H d (.lst (ds.map V.int))) := Kp.own
    have d1 : Drw (upd H d (.lst (ds.map V.int))) d := Drw.own
    have hn1 := k1 _ _ hnd hn
    generalize upd H d (.lst (ds.map V.int)) = H1 at k1 d1 hn1 ⊢
    have lit : ∀ (Q2 : VK), (∀ (H' : Hp) (v : V) (f : Fm), Kp d H H' → Drw H' d → FmAt K H' v f → Wo nm f → sz f ≤ 1 → Q2 v H') → ∀ t, H1 t = none → ∃ p xs i v, V.ref t = V.ref p ∧ V.int (r % 2) = V.int i ∧ SqL K (upd H1 t (.lst [.str "true", .str "false"])) p xs ∧ atI xs i = some v ∧
        ([v].length ≤ sizeLine ∧ ∀ t2, (upd H1 t (.lst [.str "true", .str "false"])) t2 = none → Q2 (.ref t2) (upd (upd H1 t (.lst [.str "true", .str "false"])) t2 (.tup [v]))) := fun Q2 q2 t ht => by
      obtain ⟨z, hz, ha⟩ := pick_at (ss := ["true", "false"]) (i := r % 2) (Int.emod_nonneg _ (by decide)) (Int.emod_lt_of_pos _ (by decide))
      refine ⟨t, _, _, .str z, rfl, rfl, .of upd_same, ha, by show 1 ≤ sizeLine; decide, fun t2 ht2 => ?_⟩
      exact q2 _ _ (.c0 z) (k1.trans ((Kp.new ht).trans (Kp.new ht2))) ((d1.new ht).new ht2) ⟨t2, rfl, .of upd_same⟩ (show z = "true" ∨ z = "false" by simpa using hz) (Nat.le_refl _)
    refine ⟨_, rfl, n, _, rfl, .inl (.of hn1), rfl, _, rfl, ite_eq (fun c => ?_) (fun c => ⟨_, rfl, rfl, _, rfl, ite_eq (fun c2 => ?_) (fun c2 => ?_)⟩)⟩
    · exact ⟨by show 2 ≤ sizeLine; decide, fun t ht => ⟨_, rfl, _, _, rfl, rfl, by show (0 : Int) < 2; decide, lit Q q t ht⟩⟩
    · exact ⟨by show 2 ≤ sizeLine; decide, fun t ht => ⟨_, rfl, _, _, rfl, rfl, by show (0 : Int) < 2; decide, lit Q q t ht⟩⟩
    · rw [List.length_map] at c
      refine ⟨_, rfl, _, rfl, _, rfl, n, _, rfl, .inl (.of hn1), d, _, rfl, d1, by rw [List.length_map]; omega, fun u us u0 u1 => ?_⟩
      rw [List.length_map] at u1
      have k2 : Kp d H1 (upd H1 d (.lst (us.map V.int))) := Kp.own
      have d2 : Drw (upd H1 d (.lst (us.map V.int))) d := Drw.own
      have hn2 := k2 _ _ hnd hn1
      generalize upd H1 d (.lst (us.map V.int)) = H2 at k2 d2 hn2 ⊢
      obtain ⟨z, hz, ha⟩ := pick_at (ss := nm) u0 u1
      refine ⟨n, _, _, .str z, rfl, rfl, .of hn2, ha, by show 2 ≤ sizeLine; decide, fun t ht => ?_⟩
      exact q _ _ (.sg z) (k1.trans (k2.trans (Kp.new ht))) (d2.new ht) ⟨t, rfl, .of upd_same⟩ hz (Nat.le_refl _)
theorem str_ite {k x : Str} {A B : Prop} (h1 : k = x → A) (h2 : k ≠ x → B) : if decide (V.str k = V.str x) = true then A else B := by
  by_cases c : k = x
  · rw [if_pos (by rw [c]; exact decide_eq_true rfl)]
    exact h1 c
  · rw [if_neg (by rw [decide_eq_false (fun z => c (V.str.inj z))]; exact Bool.false_ne_true)]
    exact h2 c
abbrev L7 : List Str := ["next", "eventually", "always", "previous", "weak_previous", "once", "historically"]
abbrev M7 : List Str := ["until", "release", "since", "trigger", "weak_until", "until", "since"]
abbrev L4 : List Str := ["and", "or", "implies", "iff"]
theorem l7_un : ∀ s, s ∈ L7 → s ∈ unOps := by decide
theorem m7_bin : ∀ s, s ∈ M7 → s ∈ binOps := by decide
theorem l4_bin : ∀ s, s ∈ L4 → s ∈ binOps := by decide
theorem two_pow_pos' (n : Nat) : 1 ≤ 2 ^ n := Nat.one_le_two_pow
theorem form_step {n : Nat} (T : Txt K mg w) {f : Addr} {fd : FuncData} (F : L2.Fun K "_law_formula" "_law_formula" s_law_formula f fd) (C_law_formula : C8.Cal P w K mg base (2 + n) "_law_formula" (spForm K n) []) : FnOk P w K mg base CX0 (2 + n + 1) f fd ["draws", "names", "budget", "deep"] (spForm K (n + 1)) := by
  have C_law_take : C8.Cal P w K mg base 1 "_law_take" spTake [] := cal_take T
  have C_law_leaf : C8.Cal P w K mg base 2 "_law_leaf" (spLeaf K) [] := cal_leaf T
  refine F.ok sc_law_formula (fun vs H Q E h => ?_) (fun cdv A outer s H vs Q E hr h => ?_)
  · obtain ⟨d, n, nm, b, rfl, _⟩ := h
    rfl
  · obtain ⟨d, na, nm, b, rfl, hd, hnd, hn, hl, hb0, hb1, q⟩ := h
    refine ⟨_, (pss_cons
      (ps_set (i := 4) sc_law_formula.nd rfl (Or.inl rfl) (C8.pe_c C_law_take hr (by omega) (by rfl) (pa_cons (pv 0) (pa_cons pe_int pa_nil))))
      (pss_cons
      (ps_if (PW.pt (pw_or (pt_cmpR op_eq (pv 3) pe_int (nomark _)) (pw_or1 (pt_cmpR op_lt (pv 4) pe_int (nomark _))))) (pss_one
      (ps_ret (C8.pe_c C_law_leaf hr (by omega) (by rfl) (pa_cons (pv 0) (pa_cons (pv 1) pa_nil))))) pss_nil)
      (C8.pss_cut
      (ps_if (PW.pt (pw_and (pt_cmpR op_gt (pv 2) pe_int (nomark _)) (pw_and1 (pt_cmpR op_lt (pv 4) pe_int (nomark _))))) (pss_cons
      (ps_set (i := 5) sc_law_formula.nd rfl (Or.inl rfl) (pe_lst (pa_cons pe_str (pa_cons pe_str (pa_cons pe_str (pa_cons pe_str (pa_cons pe_str (pa_cons pe_str (pa_cons pe_str pa_nil)))))))))
      (pss_cons
      (ps_if (pt_cmpR op_lt (pv 4) pe_int (nomark _)) (pss_one
      (ps_ret (pe_tup (pa_cons (pe_ix (ix_listK (K := K) rfl) (pv 5) (pe_op op_sub (pv 4) pe_int) (fun _ _ => rfl)) (pa_cons (C8.pe_c C_law_formula hr (by omega) (by rfl) (pa_cons (pv 0) (pa_cons (pv 1) (pa_cons (pe_op op_sub (pv 2) pe_int) (pa_cons (pe_op op_sub (pv 3) pe_int) pa_nil))))) pa_nil))))) pss_nil)
      (pss_cons
      (ps_set (i := 6) sc_law_formula.nd rfl (Or.inl rfl) (pe_ix (ix_listK (K := K) rfl) (pe_lst (pa_cons pe_str (pa_cons pe_str (pa_cons pe_str (pa_cons pe_str (pa_cons pe_str (pa_cons pe_str (pa_cons pe_str pa_nil)))))))) (pe_op op_sub (pv 4) pe_int) (fun _ _ => rfl)))
      (C8.pss_cut
      (ps_if (PW.pt (pw_and (pt_cmpR op_eq (pv 3) pe_int (nomark _)) (pw_and1 (pt_cmpR op_eq (pv 6) pe_str (nomark _))))) (pss_one
      (ps_set (i := 6) sc_law_formula.nd rfl (Or.inl rfl) pe_str)) pss_nil)
      (pss_cons
      (ps_set (i := 7) sc_law_formula.nd rfl (Or.inl rfl) (C8.pe_c C_law_take hr (by omega) (by rfl) (pa_cons (pv 0) (pa_cons (pv 2) pa_nil))))
      (pss_cons
      (ps_set (i := 8) sc_law_formula.nd rfl (Or.inl rfl) (C8.pe_c C_law_formula hr (by omega) (by rfl) (pa_cons (pv 0) (pa_cons (pv 1) (pa_cons (pv 7) (pa_cons (pe_op op_sub (pv 3) pe_int) pa_nil))))))
      (pss_one
      (ps_ret (pe_tup (pa_cons (pv 6) (pa_cons (pv 8) (pa_cons (C8.pe_c C_law_formula hr (by omega) (by rfl) (pa_cons (pv 0) (pa_cons (pv 1) (pa_cons (pe_op op_sub (pe_op op_sub (pv 2) pe_int) (pv 7)) (pa_cons (pe_op op_sub (pv 3) pe_int) pa_nil))))) pa_nil)))))))))))) pss_nil)
      (pss_cons
      (ps_if (pt_cmpR op_eq (pe_op op_mod (pv 4) pe_int) pe_int (nomark _)) (pss_one
      (ps_ret (pe_tup (pa_cons pe_str (pa_cons (C8.pe_c C_law_formula hr (by omega) (by rfl) (pa_cons (pv 0) (pa_cons (pv 1) (pa_cons (pv 2) (pa_cons (pe_op op_sub (pv 3) pe_int) pa_nil))))) pa_nil))))) pss_nil)
      (pss_cons
      (ps_set (i := 6) sc_law_formula.nd rfl (Or.inl rfl) (pe_ix (ix_listK (K := K) rfl) (pe_lst (pa_cons pe_str (pa_cons pe_str (pa_cons pe_str (pa_cons pe_str pa_nil))))) (pe_op op_mod (pv 4) pe_int) (fun _ _ => rfl)))
      (C8.pss_cut
      (ps_if (PW.pt (pw_and (pt_cmpR op_eq (pv 3) pe_int (nomark _)) (pw_and1 (pt_cmpR op_eq (pv 6) pe_str (nomark _))))) (pss_one
      (ps_set (i := 6) sc_law_formula.nd rfl (Or.inl rfl) pe_str)) pss_nil)
      (pss_cons
      (ps_set (i := 7) sc_law_formula.nd rfl (Or.inl rfl) (C8.pe_c C_law_take hr (by omega) (by rfl) (pa_cons (pv 0) (pa_cons (pe_op op_add (pv 2) pe_int) pa_nil))))
      (pss_cons
      (ps_set (i := 8) sc_law_formula.nd rfl (Or.inl rfl) (C8.pe_c C_law_formula hr (by omega) (by rfl) (pa_cons (pv 0) (pa_cons (pv 1) (pa_cons (pv 7) (pa_cons (pe_op op_sub (pv 3) pe_int) pa_nil))))))
      (pss_one
      (ps_ret (pe_tup (pa_cons (pv 6) (pa_cons (pv 8) (pa_cons (C8.pe_c C_law_formula hr (by omega) (by rfl) (pa_cons (pv 0) (pa_cons (pv 1) (pa_cons (pe_op op_sub (pv 2) (pv 7)) (pa_cons (pe_op op_sub (pv 3) pe_int) pa_nil))))) pa_nil)))))))))))))), ?_⟩
    refine ⟨_, rfl, d, _, rfl, hd, by decide, fun r ds r0 r1 => ?_⟩
    have k1 : Kp d H (upd H d (.lst (ds.map V.int))) := Kp.own
    have d1 : Drw (upd H d (.lst (ds.map V.int))) d := Drw.own
    have hn1 := k1 _ _ hnd hn
    generalize upd H d (.lst (ds.map V.int)) = H1 at k1 d1 hn1 ⊢
    have leaf : tRet (tCall (spLeaf K) [] C8.E0 (tCons (tVar 0) (tCons (tVar 1) tNil))) { nx := fun _ _ => True, rt := Q } [some (.ref d), some (.ref na), some (.int b), some (.int (n : Int)), some (.int r), none, none, none, none] H1 := by
      refine ⟨_, rfl, _, rfl, d, na, nm, rfl, d1, hnd, hn1, hl, fun H2 v g k2 d2 g2 w2 z2 => q H2 v g (k1.trans k2) d2 g2 w2 (szd_leaf z2 n)⟩
    refine ⟨_, rfl, rfl, _, rfl, ite_eq (fun _ => leaf) (fun cn => ⟨_, rfl, _, _, rfl, rfl, _, rfl, ite_lt (fun _ => leaf) (fun c3 => ?_)⟩)⟩
    clear leaf
    obtain ⟨n', rfl⟩ : ∃ n', n = n' + 1 := ⟨n - 1, by omega⟩
    have hdp : (((n' + 1 : Nat) : Int) - 1) = (n' : Int) := by omega
    have rcl : ∀ (H2 : Hp) (b2 : Int) (Q2 : VK) (E2 : XK), Kp d H H2 → Drw H2 d → 0 ≤ b2 → b2 ≤ 1000 → (∀ (H' : Hp) (v : V) (g : Fm), Kp d H2 H' → Drw H' d → FmAt K H' v g → Wo nm g → Szd g n' → Q2 v H') → spForm K (n' + 1) [.ref d, .ref na, .int b2, .int (((n' + 1 : Nat) : Int) - 1)] H2 Q2 E2 := fun H2 b2 Q2 E2 k2 d2 z0 z1 q2 =>
      ⟨d, na, nm, b2, by rw [hdp], d2, hnd, k2 _ _ hnd hn, hl, z0, z1, q2⟩
    have fin1 : ∀ (H2 H3 : Hp) (s : Str) (v : V) (g : Fm), Kp d H H2 → Drw H2 d → s ∈ unOps → FmAt K H2 v g → Wo nm g → Szd g n' → ∀ t, H2 t = none → Q (.ref t) (upd H2 t (.tup [.str s, v])) := fun H2 H3 s v g k2 d2 hs hg hw hz t ht =>
      q _ _ (.un s g) (k2.trans (Kp.new ht)) (d2.new ht) ⟨t, v, rfl, .of upd_same, hg.same (same_new ht)⟩ ⟨hs, hw⟩ (szd_un s hz)
    have fin2 : ∀ (H2 : Hp) (s : Str) (v u : V) (g g2 : Fm), Kp d H H2 → Drw H2 d → s ∈ binOps → FmAt K H2 v g → Wo nm g → Szd g n' → FmAt K H2 u g2 → Wo nm g2 → Szd g2 n' → ∀ t, H2 t = none → Q (.ref t) (upd H2 t (.tup [.str s, v, u])) := fun H2 s v u g g2 k2 d2 hs hg hw hz hg2 hw2 hz2 t ht =>
      q _ _ (.bin s g g2) (k2.trans (Kp.new ht)) (d2.new ht) ⟨t, v, u, rfl, .of upd_same, hg.same (same_new ht), hg2.same (same_new ht)⟩ ⟨hs, hw, hw2⟩ (szd_bin s hz hz2)
    refine ⟨fun σ H' => σ = [some (.ref d), some (.ref na), some (.int b), some (.int ((n' + 1 : Nat) : Int)), some (.int r), none, none, none, none] ∧ H1 = H', ?_, ?_⟩
    · refine ⟨_, rfl, _, _, rfl, rfl, _, rfl, ite_lt (fun c1 => ⟨_, rfl, _, _, rfl, rfl, _, rfl, ite_lt (fun c2 => ?_) (fun _ => ⟨rfl, rfl⟩)⟩) (fun _ => ⟨rfl, rfl⟩)⟩
      refine ⟨by show 7 ≤ sizeLine; decide, fun t1 n1 => ?_⟩
      have k2 := k1.trans (Kp.new (o := .lst (L7.map V.str)) n1)
      have d2 := d1.new (o := .lst (L7.map V.str)) n1
      refine ⟨_, rfl, _, _, rfl, rfl, _, rfl, ite_lt (fun c4 => ?_) (fun c4 => ?_)⟩
      · obtain ⟨s, hs, ha⟩ := pick_at (ss := L7) (i := r - 3) (by omega) (by show r - 3 < 7; omega)
        refine ⟨_, rfl, _, rfl, _, _, rfl, rfl, t1, _, _, .str s, rfl, rfl, .of upd_same, ha, ?_⟩
        refine ⟨_, rfl, _, rfl, _, rfl, _, _, rfl, rfl, _, rfl, _, _, rfl, rfl, rcl _ _ _ C8.E0 k2 d2 (by omega) (by omega) fun H3 v g k3 d3 g3 w3 z3 => ?_⟩
        exact ⟨by show 2 ≤ sizeLine; decide, fun t ht => fin1 _ H3 s v g (k2.trans k3) d3 (l7_un s hs) g3 w3 z3 t ht⟩
      · obtain ⟨s, hs, ha⟩ := pick_at (ss := M7) (i := r - 10) (by omega) (by show r - 10 < 7; omega)
        refine ⟨by show 7 ≤ sizeLine; decide, fun t2 n2 => ?_⟩
        have k3 := k2.trans (Kp.new (o := .lst (M7.map V.str)) n2)
        have d3 := d2.new (o := .lst (M7.map V.str)) n2
        refine ⟨_, rfl, _, _, rfl, rfl, t2, _, _, .str s, rfl, rfl, .of upd_same, ha, ?_⟩
        refine ⟨fun σ H' => ∃ s' : Str, s' ∈ binOps ∧ σ = [some (.ref d), some (.ref na), some (.int b), some (.int ((n' + 1 : Nat) : Int)), some (.int r), some (.ref t1), some (.str s'), none, none] ∧ Kp d H H' ∧ Drw H' d, ?_, ?_⟩
        · refine ⟨_, rfl, rfl, _, rfl, ite_eq (fun _ => ⟨_, rfl, rfl, _, rfl, str_ite (fun _ => ?_) (fun _ => ?_)⟩) (fun _ => ?_)⟩
          · exact ⟨_, by decide, rfl, k3, d3⟩
          · exact ⟨s, m7_bin s hs, rfl, k3, d3⟩
          · exact ⟨s, m7_bin s hs, rfl, k3, d3⟩
        · rintro σ H4 ⟨s', hs', rfl, k4, d4⟩
          refine ⟨_, rfl, _, rfl, d, _, rfl, d4, c1, fun u us u0 u1 => ?_⟩
          have k5 : Kp d H (upd H4 d (.lst (us.map V.int))) := k4.trans Kp.own
          have d5 : Drw (upd H4 d (.lst (us.map V.int))) d := Drw.own
          generalize upd H4 d (.lst (us.map V.int)) = H5 at k5 d5 ⊢
          refine ⟨_, rfl, _, rfl, _, rfl, _, rfl, _, _, rfl, rfl, rcl _ _ _ C8.E0 k5 d5 (by omega) (by omega) fun H6 v g k6 d6 g6 w6 z6 => ?_⟩
          refine ⟨_, rfl, _, rfl, _, rfl, _, rfl, _, rfl, _, _, rfl, rfl, _, rfl, _, _, rfl, rfl, _, rfl, _, _, rfl, rfl, rcl _ _ _ C8.E0 (k5.trans k6) d6 (by omega) (by omega) fun H7 v2 g2 k7 d7 g7 w7 z7 => ?_⟩
          obtain ⟨ys, hys⟩ := d6
          exact ⟨by show 3 ≤ sizeLine; decide, fun t ht => fin2 H7 s' v v2 g g2 ((k5.trans k6).trans k7) d7 hs' (g6.kp hys k7) w6 z6 g7 w7 z7 t ht⟩
    · rintro σ H' ⟨rfl, rfl⟩
      refine ⟨_, rfl, _, _, rfl, rfl, by show (0 : Int) < 5; decide, rfl, _, rfl, ite_eq (fun _ => ?_) (fun _ => ?_)⟩
      · refine ⟨_, rfl, _, rfl, _, rfl, _, rfl, _, _, rfl, rfl, rcl _ _ _ C8.E0 k1 d1 hb0 hb1 fun H3 v g k3 d3 g3 w3 z3 => ?_⟩
        exact ⟨by show 2 ≤ sizeLine; decide, fun t ht => fin1 _ H3 _ v g (k1.trans k3) d3 (by decide) g3 w3 z3 t ht⟩
      · obtain ⟨s, hs, ha⟩ := pick_at (ss := L4) (i := r % 4) (Int.emod_nonneg _ (by decide)) (Int.emod_lt_of_pos _ (by decide))
        refine ⟨by show 4 ≤ sizeLine; decide, fun t2 n2 => ?_⟩
        have k3 := k1.trans (Kp.new (o := .lst (L4.map V.str)) n2)
        have d3 := d1.new (o := .lst (L4.map V.str)) n2
        refine ⟨_, rfl, _, _, rfl, rfl, by show (0 : Int) < 4; decide, t2, _, _, .str s, rfl, rfl, .of upd_same, ha, ?_⟩
        refine ⟨fun σ H' => ∃ s' : Str, s' ∈ binOps ∧ σ = [some (.ref d), some (.ref na), some (.int b), some (.int ((n' + 1 : Nat) : Int)), some (.int r), none, some (.str s'), none, none] ∧ Kp d H H' ∧ Drw H' d, ?_, ?_⟩
        · refine ⟨_, rfl, rfl, _, rfl, ite_eq (fun _ => ⟨_, rfl, rfl, _, rfl, str_ite (fun _ => ?_) (fun _ => ?_)⟩) (fun _ => ?_)⟩
          · exact ⟨_, by decide, rfl, k3, d3⟩
          · exact ⟨s, l4_bin s hs, rfl, k3, d3⟩
          · exact ⟨s, l4_bin s hs, rfl, k3, d3⟩
        · rintro σ H4 ⟨s', hs', rfl, k4, d4⟩
          refine ⟨_, rfl, _, rfl, _, _, rfl, rfl, d, _, rfl, d4, by omega, fun u us u0 u1 => ?_⟩
          have k5 : Kp d H (upd H4 d (.lst (us.map V.int))) := k4.trans Kp.own
          have d5 : Drw (upd H4 d (.lst (us.map V.int))) d := Drw.own
          generalize upd H4 d (.lst (us.map V.int)) = H5 at k5 d5 ⊢
          refine ⟨_, rfl, _, rfl, _, rfl, _, rfl, _, _, rfl, rfl, rcl _ _ _ C8.E0 k5 d5 (by omega) (by omega) fun H6 v g k6 d6 g6 w6 z6 => ?_⟩
          refine ⟨_, rfl, _, rfl, _, rfl, _, rfl, _, rfl, _, rfl, _, _, rfl, rfl, _, rfl, _, _, rfl, rfl, rcl _ _ _ C8.E0 (k5.trans k6) d6 (by omega) (by omega) fun H7 v2 g2 k7 d7 g7 w7 z7 => ?_⟩
          obtain ⟨ys, hys⟩ := d6
          exact ⟨by show 3 ≤ sizeLine; decide, fun t ht => fin2 H7 s' v v2 g g2 ((k5.trans k6).trans k7) d7 hs' (g6.kp hys k7) w6 z6 g7 w7 z7 t ht⟩
theorem cal_form_step {n : Nat} (T : Txt K mg w) (C_law_formula : C8.Cal P w K mg base (2 + n) "_law_formula" (spForm K n) []) : C8.Cal P w K mg base (2 + n + 1) "_law_formula" (spForm K (n + 1)) [] := by
  obtain ⟨f, fd, F, hm, hb⟩ := T.h_law_formula
  exact ⟨f, fd, _, [], form_step T F C_law_formula, hm, F.kp, hb, .nil⟩
theorem cal_form (T : Txt K mg w) : ∀ n, C8.Cal P w K mg base (2 + n) "_law_formula" (spForm K n) []
  | 0 => by
    obtain ⟨f, fd, F, hm, hb⟩ := T.h_law_formula
    exact ⟨f, fd, _, [], ⟨fun vs H Q E h => h.elim, fun A outer s H args us vs Q E _ _ _ _ h => h.elim⟩, hm, F.kp, hb, .nil⟩
  | n + 1 => cal_form_step T (cal_form T n)
/-- a formula of one of two depths -/
def spForm2 (K : PySem.W.Frag) : Sp := fun vs H Q E => spForm K 3 vs H Q E ∨ spForm K 4 vs H Q E
theorem cal_form2 (T : Txt K mg w) : C8.Cal P w K mg base 6 "_law_formula" (spForm2 K) [] := by
  obtain ⟨f, fd, F, hm, hb⟩ := T.h_law_formula
  have F3 := (form_step (P := P) (w := w) (base := base) T F (cal_form T 2)).mono (show 5 ≤ 6 by decide)
  have F4 := form_step (P := P) (w := w) (base := base) T F (cal_form T 3)
  exact ⟨f, fd, _, [], ⟨fun vs H Q E h => h.elim (F3.len vs H Q E) (F4.len vs H Q E), fun A outer s H args us vs Q E hr h0 hbn hv h => h.elim (F3.run A outer s H args us vs Q E hr h0 hbn hv) (F4.run A outer s H args us vs Q E hr h0 hbn hv)⟩, hm, F.kp, hb, .nil⟩
theorem op_inKD {X : Cx} {K : PySem.W.Frag} {w : World} {d : Addr} {es : Array DictEntry} {n : Nat} (h : X.K = K) (hw : X.w = w) (D : KDict K w d es n) :
    OpR X (compareOp .In) (fun x y H Q => ∃ (z : Str) (r : Option Value), x = .str z ∧ y = .ref d ∧ PySem.W.nsIn K d z = some r ∧ Q (.bl r.isSome) H) := by
  subst h
  subst hw
  exact op_in_kd D
theorem ix_KD {X : Cx} {K : PySem.W.Frag} {w : World} (h : X.K = K) (hw : X.w = w) : IxR X (rIxD K w) := by
  subst h
  subst hw
  exact ix_kdict
abbrev dualL : List (Str × Str) := [("and", "or"), ("or", "and"), ("next", "next"), ("until", "release"), ("release", "until"), ("previous", "weak_previous"), ("weak_previous", "previous"), ("since", "trigger"), ("trigger", "since")]
abbrev writL : List (Str × List Str) := [("eventually", ["until", "true", "release", "false"]), ("always", ["release", "false", "until", "true"]), ("once", ["since", "true", "trigger", "false"]), ("historically", ["trigger", "false", "since", "true"])]
theorem gloN (T : Txt K mg w) : ∃ aT aO aD aW : Addr, mg "DUALS" = some (.ref aD) ∧ mg "WRITTEN_OUT" = some (.ref aW) ∧ (∀ p ∈ dualL, KDct K w aD p.1 (.str p.2)) ∧ (∃ es n, KDict K w aW es n) ∧
    (∀ p ∈ writL, ∃ b, KDct K w aW p.1 (.ref b) ∧ ∀ H, SqT K H b (p.2.map V.str)) ∧ (∀ z ∈ (["next", "previous", "weak_previous"] : List Str), PySem.W.nsIn K aW z = some none) ∧
    GloT K mg "TRUE" ["true"] aT ∧ GloT K mg "FALSE" ["false"] aO := by
  obtain ⟨aF, aP, aT, aO, aD, aW, d1, d2, d3, d4, d5, d6, _, _, g1, g2⟩ := T.er
  exact ⟨aT, aO, aD, aW, d1, d2, d3, d4, d5, d6, g1, g2⟩
/-! the normal forms of a formula and of its negation -/
def du (k : Str) : Str := if k = "and" then "or" else if k = "or" then "and" else if k = "until" then "release" else if k = "release" then "until" else if k = "previous" then "weak_previous" else if k = "weak_previous" then "previous"
  else if k = "since" then "trigger" else if k = "trigger" then "since" else k
abbrev tt' : Fm := .c0 "true"
abbrev ff' : Fm := .c0 "false"
def unP (k : Str) (y n : Fm) : Fm × Fm :=
  if k = "not" then (n, y) else if k = "eventually" then (.bin "until" tt' y, .bin "release" ff' n) else if k = "always" then (.bin "release" ff' y, .bin "until" tt' n)
  else if k = "once" then (.bin "since" tt' y, .bin "trigger" ff' n) else if k = "historically" then (.bin "trigger" ff' y, .bin "since" tt' n) else (.un k y, .un (du k) n)
def binP (k : Str) (y n y' n' : Fm) : Fm × Fm :=
  if k = "implies" then (.bin "or" n y', .bin "and" y n') else if k = "iff" then (.bin "or" (.bin "and" y y') (.bin "and" n n'), .bin "or" (.bin "and" y n') (.bin "and" n y'))
  else if k = "weak_until" then (.bin "release" y' (.bin "or" y y'), .bin "until" n' (.bin "and" n n')) else (.bin k y y', .bin (du k) n n')
def nfp : Fm → Fm × Fm
  | .c0 k => if k = "true" then (tt', ff') else (ff', tt')
  | .sg s => (.sg s, .un "not" (.sg s))
  | .un k f => unP k (nfp f).1 (nfp f).2
  | .bin k f g => binP k (nfp f).1 (nfp f).2 (nfp g).1 (nfp g).2
def spUnP (K : PySem.W.Frag) : Sp := fun vs H Q _ => ∃ (k : Str) (v u : V) (y n : Fm), vs = [.str k, v, u] ∧ k ∈ unOps ∧ FmAt K H v y ∧ FmAt K H u n ∧
  ∀ (H' : Hp) (p : Addr) (v' u' : V), Same H H' → H' p = some (.tup [v', u']) → FmAt K H' v' (unP k y n).1 → FmAt K H' u' (unP k y n).2 → Q (.ref p) H'
def spBinP (K : PySem.W.Frag) : Sp := fun vs H Q _ => ∃ (k : Str) (p q : Addr) (v u v2 u2 : V) (y n y2 n2 : Fm), vs = [.str k, .ref p, .ref q] ∧ k ∈ binOps ∧ H p = some (.tup [v, u]) ∧ H q = some (.tup [v2, u2]) ∧ FmAt K H v y ∧ FmAt K H u n ∧ FmAt K H v2 y2 ∧ FmAt K H u2 n2 ∧
  ∀ (H' : Hp) (p : Addr) (v' u' : V), Same H H' → H' p = some (.tup [v', u']) → FmAt K H' v' (binP k y n y2 n2).1 → FmAt K H' u' (binP k y n y2 n2).2 → Q (.ref p) H'
def spPair (K : PySem.W.Frag) (dp : Nat) : Sp := fun vs H Q _ => ∃ (v : V) (f : Fm) (nm : List Str), vs = [v] ∧ FmAt K H v f ∧ Wo nm f ∧ dpt f ≤ dp ∧
  ∀ (H' : Hp) (p : Addr) (v' u' : V), Same H H' → H' p = some (.tup [v', u']) → FmAt K H' v' (nfp f).1 → FmAt K H' u' (nfp f).2 → Q (.ref p) H'
theorem un_cases {k : Str} (h : k ∈ unOps) : k = "not" ∨ (∃ a b c d, (k, [a, b, c, d]) ∈ writL ∧ ∀ y n, unP k y n = (.bin a (.c0 b) y, .bin c (.c0 d) n)) ∨
    (k ∈ (["next", "previous", "weak_previous"] : List Str) ∧ (k, du k) ∈ dualL ∧ ∀ y n, unP k y n = (.un k y, .un (du k) n)) := by
  simp only [unOps, List.mem_cons, List.mem_nil_iff, or_false] at h
  rcases h with rfl | rfl | rfl | rfl | rfl | rfl | rfl | rfl
  · exact .inl rfl
  · exact .inr (.inr ⟨by decide, by decide, fun _ _ => rfl⟩)
  · exact .inr (.inl ⟨"until", "true", "release", "false", by decide, fun _ _ => rfl⟩)
  · exact .inr (.inl ⟨"release", "false", "until", "true", by decide, fun _ _ => rfl⟩)
  · exact .inr (.inr ⟨by decide, by decide, fun _ _ => rfl⟩)
  · exact .inr (.inr ⟨by decide, by decide, fun _ _ => rfl⟩)
  · exact .inr (.inl ⟨"since", "true", "trigger", "false", by decide, fun _ _ => rfl⟩)
  · exact .inr (.inl ⟨"trigger", "false", "since", "true", by decide, fun _ _ => rfl⟩)
theorem bin_cases {k : Str} (h : k ∈ binOps) : k = "implies" ∨ k = "iff" ∨ k = "weak_until" ∨ (k ≠ "implies" ∧ k ≠ "iff" ∧ k ≠ "weak_until" ∧ (k, du k) ∈ dualL ∧ ∀ y n y2 n2, binP k y n y2 n2 = (.bin k y y2, .bin (du k) n n2)) := by
  simp only [binOps, List.mem_cons, List.mem_nil_iff, or_false] at h
  rcases h with rfl | rfl | rfl | rfl | rfl | rfl | rfl | rfl | rfl
  · exact .inr (.inr (.inr ⟨by decide, by decide, by decide, by decide, fun _ _ _ _ => rfl⟩))
  · exact .inr (.inr (.inr ⟨by decide, by decide, by decide, by decide, fun _ _ _ _ => rfl⟩))
  · exact .inl rfl
  · exact .inr (.inl rfl)
  · exact .inr (.inr (.inr ⟨by decide, by decide, by decide, by decide, fun _ _ _ _ => rfl⟩))
  · exact .inr (.inr (.inr ⟨by decide, by decide, by decide, by decide, fun _ _ _ _ => rfl⟩))
  · exact .inr (.inr (.inr ⟨by decide, by decide, by decide, by decide, fun _ _ _ _ => rfl⟩))
  · exact .inr (.inr (.inr ⟨by decide, by decide, by decide, by decide, fun _ _ _ _ => rfl⟩))
  · exact .inr (.inr (.inl rfl))
theorem sz1 : 1 ≤ sizeLine := by decide
theorem sz2 : 2 ≤ sizeLine := by decide
theorem sz3 : 3 ≤ sizeLine := by decide
theorem fm0 {H : Hp} {a : Addr} {k : Str} (h : H a = some (.tup [.str k])) : FmAt K H (.ref a) (.c0 k) := ⟨a, rfl, .of h⟩
theorem fm1 {H : Hp} {a : Addr} {k : Str} {x : V} {f : Fm} (h : H a = some (.tup [.str k, x])) (hx : FmAt K H x f) : FmAt K H (.ref a) (.un k f) := ⟨a, x, rfl, .of h, hx⟩
theorem fm2 {H : Hp} {a : Addr} {k : Str} {x y : V} {f g : Fm} (h : H a = some (.tup [.str k, x, y])) (hx : FmAt K H x f) (hy : FmAt K H y g) : FmAt K H (.ref a) (.bin k f g) := ⟨a, x, y, rfl, .of h, hx, hy⟩
theorem cal_unP (T : Txt K mg w) : C8.Cal P w K mg base 1 "unary_pair" (spUnP K) [] := by
  obtain ⟨aT, aO, aD, aW, gD, gW, dD, ⟨es, n, kW⟩, dW, dN, _, _⟩ := gloN T
  obtain ⟨f, fd, F, hm, hb⟩ := T.h_unary_pair
  refine ⟨f, fd, _, [], F.ok sc_unary_pair (fun vs H Q E h => ?_) (fun cdv A outer s H vs Q E hr h => ?_), hm, F.kp, hb, .nil⟩
  · obtain ⟨k, v, u, y, n, rfl, _⟩ := h
    rfl
  · obtain ⟨k, v, u, y, n, rfl, hk, hy, hn, q⟩ := h
    refine ⟨_, (pss_cons
      (ps_if (pt_cmpR op_eq (pv 0) pe_str (nomark _)) (pss_one
      (ps_ret (pe_tup (pa_cons (pv 2) (pa_cons (pv 1) pa_nil))))) pss_nil)
      (pss_cons
      (ps_if (pt_cmpR (op_inKD (K := K) (w := w) rfl rfl kW) (pv 0) (pe_glob (v := .ref aW) (by rfl) gW rfl) (by rfl)) (pss_cons
      (ps_asg (pe_ix (ix_KD (K := K) (w := w) rfl rfl) (pe_glob (v := .ref aW) (by rfl) gW rfl) (pv 0) (fun _ _ => rfl)) (pg_tup (by rfl) (pgs_cons (pg_name (i := 3) sc_unary_pair.nd rfl (.inl rfl)) (pgs_cons (pg_name (i := 4) sc_unary_pair.nd rfl (.inl rfl)) (pgs_cons (pg_name (i := 5) sc_unary_pair.nd rfl (.inl rfl)) (pgs_cons (pg_name (i := 6) sc_unary_pair.nd rfl (.inl rfl)) pgs_nil))))))
      (pss_one
      (ps_ret (pe_tup (pa_cons (pe_tup (pa_cons (pv 3) (pa_cons (pe_tup (pa_cons (pv 4) pa_nil)) (pa_cons (pv 1) pa_nil)))) (pa_cons (pe_tup (pa_cons (pv 5) (pa_cons (pe_tup (pa_cons (pv 6) pa_nil)) (pa_cons (pv 2) pa_nil)))) pa_nil)))))) pss_nil)
      (pss_one
      (ps_ret (pe_tup (pa_cons (pe_tup (pa_cons (pv 0) (pa_cons (pv 1) pa_nil))) (pa_cons (pe_tup (pa_cons (pe_ix (ix_KD (K := K) (w := w) rfl rfl) (pe_glob (v := .ref aD) (by rfl) gD rfl) (pv 0) (fun _ _ => rfl)) (pa_cons (pv 2) pa_nil))) pa_nil))))))), ?_⟩
    refine ⟨_, rfl, rfl, _, rfl, ite2 (fun c => ?_) (fun c => ?_)⟩
    · have e : k = "not" := V.str.inj (of_decide_eq_true c)
      subst e
      refine ⟨_, rfl, _, rfl, sz2, fun p hp => ?_⟩
      exact q _ p u v (same_new hp) upd_same (hn.same (same_new hp)) (hy.same (same_new hp))
    · have kn : k ≠ "not" := fun z => c (decide_eq_true (congrArg V.str z))
      rcases un_cases hk with e | ⟨a, b, c', d, hm', hu⟩ | ⟨hs, hd, hu⟩
      · exact absurd e kn
      · obtain ⟨bw, kd, hbw⟩ := dW _ hm'
        obtain ⟨es', n', u0, k1, k2, k3, k4⟩ := id kd
        refine ⟨_, rfl, k, some u0, rfl, rfl, k3, _, rfl, iteT ?_⟩
        refine ⟨_, rfl, aW, k, .ref bw, rfl, rfl, kd, bw, _, rfl, hbw H, rfl, _, _, rfl, _, _, rfl, _, _, rfl, _, _, rfl, rfl, ?_⟩
        refine ⟨_, rfl, _, rfl, sz1, fun a1 n1 => ⟨_, rfl, sz3, fun a2 n2 => ⟨_, rfl, _, rfl, sz1, fun a3 n3 => ⟨_, rfl, sz3, fun a4 n4 => ⟨sz2, fun a5 n5 => ?_⟩⟩⟩⟩⟩
        have s1 := same_new (o := .tup [.str b]) n1
        have s2 := same_new (o := .tup [.str a, .ref a1, v]) n2
        have s3 := same_new (o := .tup [.str d]) n3
        have s4 := same_new (o := .tup [.str c', .ref a3, u]) n4
        have s5 := same_new (o := .tup [.ref a2, .ref a4]) n5
        have f2 := fm2 (K := K) (upd_same (a := a2) (o := .tup [.str a, .ref a1, v])) ((fm0 (upd_same (H := H) (a := a1) (o := .tup [.str b]))).same s2) (hy.same (s1.trans s2))
        have f4 := fm2 (K := K) (upd_same (a := a4) (o := .tup [.str c', .ref a3, u])) ((fm0 (upd_same (a := a3) (o := .tup [.str d]))).same s4) (hn.same (((s1.trans s2).trans s3).trans s4))
        refine q _ a5 (.ref a2) (.ref a4) ((((s1.trans s2).trans s3).trans s4).trans s5) upd_same ?_ ?_
        · rw [hu]
          exact f2.same ((s3.trans s4).trans s5)
        · rw [hu]
          exact f4.same s5
      · refine ⟨_, rfl, k, none, rfl, rfl, dN k hs, _, rfl, iteF ?_⟩
        refine ⟨_, rfl, _, rfl, sz2, fun a1 n1 => ⟨_, rfl, aD, k, .str (du k), rfl, rfl, dD _ hd, _, rfl, sz2, fun a2 n2 => ⟨sz2, fun a3 n3 => ?_⟩⟩⟩
        have s1 := same_new (o := .tup [.str k, v]) n1
        have s2 := same_new (o := .tup [.str (du k), u]) n2
        have s3 := same_new (o := .tup [.ref a1, .ref a2]) n3
        refine q _ a3 (.ref a1) (.ref a2) ((s1.trans s2).trans s3) upd_same ?_ ?_
        · rw [hu]
          exact (fm1 upd_same (hy.same s1)).same (s2.trans s3)
        · rw [hu]
          exact (fm1 upd_same (hn.same (s1.trans s2))).same s3
theorem cal_binP (T : Txt K mg w) : C8.Cal P w K mg base 1 "binary_pair" (spBinP K) [] := by
  obtain ⟨aT, aO, aD, aW, gD, gW, dD, _, dW, dN, _, _⟩ := gloN T
  obtain ⟨f, fd, F, hm, hb⟩ := T.h_binary_pair
  refine ⟨f, fd, _, [], F.ok sc_binary_pair (fun vs H Q E h => ?_) (fun cdv A outer s H vs Q E hr h => ?_), hm, F.kp, hb, .nil⟩
  · obtain ⟨k, p, q, v, u, v2, u2, y, n, y2, n2, rfl, _⟩ := h
    rfl
  · obtain ⟨k, p, p2, v, u, v2, u2, y, n, y2, n2, rfl, hk, hp, hp2, hy, hn, hy2, hn2, q⟩ := h
    refine ⟨_, (pss_cons
      (ps_asg (pv 1) (pg_tup (by rfl) (pgs_cons (pg_name (i := 3) sc_binary_pair.nd rfl (.inl rfl)) (pgs_cons (pg_name (i := 4) sc_binary_pair.nd rfl (.inl rfl)) pgs_nil))))
      (pss_cons
      (ps_asg (pv 2) (pg_tup (by rfl) (pgs_cons (pg_name (i := 5) sc_binary_pair.nd rfl (.inl rfl)) (pgs_cons (pg_name (i := 6) sc_binary_pair.nd rfl (.inl rfl)) pgs_nil))))
      (pss_cons
      (ps_if (pt_cmpR op_eq (pv 0) pe_str (nomark _)) (pss_one
      (ps_ret (pe_tup (pa_cons (pe_tup (pa_cons pe_str (pa_cons (pv 4) (pa_cons (pv 5) pa_nil)))) (pa_cons (pe_tup (pa_cons pe_str (pa_cons (pv 3) (pa_cons (pv 6) pa_nil)))) pa_nil))))) pss_nil)
      (pss_cons
      (ps_if (pt_cmpR op_eq (pv 0) pe_str (nomark _)) (pss_cons
      (ps_set (i := 7) sc_binary_pair.nd rfl (Or.inl rfl) (pe_tup (pa_cons pe_str (pa_cons (pe_tup (pa_cons pe_str (pa_cons (pv 3) (pa_cons (pv 5) pa_nil)))) (pa_cons (pe_tup (pa_cons pe_str (pa_cons (pv 4) (pa_cons (pv 6) pa_nil)))) pa_nil)))))
      (pss_one
      (ps_ret (pe_tup (pa_cons (pv 7) (pa_cons (pe_tup (pa_cons pe_str (pa_cons (pe_tup (pa_cons pe_str (pa_cons (pv 3) (pa_cons (pv 6) pa_nil)))) (pa_cons (pe_tup (pa_cons pe_str (pa_cons (pv 4) (pa_cons (pv 5) pa_nil)))) pa_nil)))) pa_nil)))))) pss_nil)
      (pss_cons
      (ps_if (pt_cmpR op_eq (pv 0) pe_str (nomark _)) (pss_one
      (ps_ret (pe_tup (pa_cons (pe_tup (pa_cons pe_str (pa_cons (pv 5) (pa_cons (pe_tup (pa_cons pe_str (pa_cons (pv 3) (pa_cons (pv 5) pa_nil)))) pa_nil)))) (pa_cons (pe_tup (pa_cons pe_str (pa_cons (pv 6) (pa_cons (pe_tup (pa_cons pe_str (pa_cons (pv 4) (pa_cons (pv 6) pa_nil)))) pa_nil)))) pa_nil))))) pss_nil)
      (pss_one
      (ps_ret (pe_tup (pa_cons (pe_tup (pa_cons (pv 0) (pa_cons (pv 3) (pa_cons (pv 5) pa_nil)))) (pa_cons (pe_tup (pa_cons (pe_ix (ix_KD (K := K) (w := w) rfl rfl) (pe_glob (v := .ref aD) (by rfl) gD rfl) (pv 0) (fun _ _ => rfl)) (pa_cons (pv 4) (pa_cons (pv 6) pa_nil)))) pa_nil)))))))))), ?_⟩
    refine ⟨_, rfl, p, _, rfl, .of hp, rfl, _, _, rfl, _, _, rfl, rfl, ?_⟩
    refine ⟨_, rfl, p2, _, rfl, .of hp2, rfl, _, _, rfl, _, _, rfl, rfl, ?_⟩
    refine ⟨_, rfl, rfl, _, rfl, ite2 (fun c => ?_) (fun c => ?_)⟩
    · have e : k = "implies" := V.str.inj (of_decide_eq_true c)
      subst e
      refine ⟨_, rfl, _, rfl, sz3, fun a1 n1 => ⟨_, rfl, _, rfl, sz3, fun a2 n2 => ⟨sz2, fun a3 n3 => ?_⟩⟩⟩
      have s1 := same_new (o := .tup [.str "or", u, v2]) n1
      have s2 := same_new (o := .tup [.str "and", v, u2]) n2
      have s3 := same_new (o := .tup [.ref a1, .ref a2]) n3
      exact q _ a3 (.ref a1) (.ref a2) ((s1.trans s2).trans s3) upd_same ((fm2 upd_same (hn.same s1) (hy2.same s1)).same (s2.trans s3)) ((fm2 upd_same (hy.same (s1.trans s2)) (hn2.same (s1.trans s2))).same s3)
    · have c1 : k ≠ "implies" := fun z => c (decide_eq_true (congrArg V.str z))
      refine ⟨_, rfl, rfl, _, rfl, ite2 (fun c => ?_) (fun c => ?_)⟩
      · have e : k = "iff" := V.str.inj (of_decide_eq_true c)
        subst e
        refine ⟨_, rfl, _, rfl, sz3, fun a1 n1 => ⟨_, rfl, _, rfl, sz3, fun a2 n2 => ⟨sz3, fun a3 n3 => ?_⟩⟩⟩
        refine ⟨_, rfl, _, rfl, _, rfl, sz3, fun a4 n4 => ⟨_, rfl, _, rfl, sz3, fun a5 n5 => ⟨sz3, fun a6 n6 => ⟨sz2, fun a7 n7 => ?_⟩⟩⟩⟩
        have s1 := same_new (o := .tup [.str "and", v, v2]) n1
        have s2 := same_new (o := .tup [.str "and", u, u2]) n2
        have s3 := same_new (o := .tup [.str "or", .ref a1, .ref a2]) n3
        have s4 := same_new (o := .tup [.str "and", v, u2]) n4
        have s5 := same_new (o := .tup [.str "and", u, v2]) n5
        have s6 := same_new (o := .tup [.str "or", .ref a4, .ref a5]) n6
        have s7 := same_new (o := .tup [.ref a3, .ref a6]) n7
        have t3 := (s1.trans s2).trans s3
        have t6 := ((t3.trans s4).trans s5).trans s6
        have f1 := (fm2 (K := K) upd_same (hy.same s1) (hy2.same s1)).same (s2.trans s3)
        have f2 := (fm2 (K := K) upd_same (hn.same (s1.trans s2)) (hn2.same (s1.trans s2))).same s3
        have f3 := fm2 (K := K) (upd_same (a := a3) (o := .tup [.str "or", .ref a1, .ref a2])) f1 f2
        have f4 := (fm2 (K := K) upd_same (hy.same (t3.trans s4)) (hn2.same (t3.trans s4))).same (s5.trans s6)
        have f5 := (fm2 (K := K) upd_same (hn.same ((t3.trans s4).trans s5)) (hy2.same ((t3.trans s4).trans s5))).same s6
        have f6 := fm2 (K := K) (upd_same (a := a6) (o := .tup [.str "or", .ref a4, .ref a5])) f4 f5
        exact q _ a7 (.ref a3) (.ref a6) (t6.trans s7) upd_same (f3.same (((s4.trans s5).trans s6).trans s7)) (f6.same s7)
      · have c2 : k ≠ "iff" := fun z => c (decide_eq_true (congrArg V.str z))
        refine ⟨_, rfl, rfl, _, rfl, ite2 (fun c => ?_) (fun c => ?_)⟩
        · have e : k = "weak_until" := V.str.inj (of_decide_eq_true c)
          subst e
          refine ⟨_, rfl, _, rfl, _, rfl, sz3, fun a1 n1 => ⟨sz3, fun a2 n2 => ⟨_, rfl, _, rfl, _, rfl, sz3, fun a3 n3 => ⟨sz3, fun a4 n4 => ⟨sz2, fun a5 n5 => ?_⟩⟩⟩⟩⟩
          have s1 := same_new (o := .tup [.str "or", v, v2]) n1
          have s2 := same_new (o := .tup [.str "release", v2, .ref a1]) n2
          have s3 := same_new (o := .tup [.str "and", u, u2]) n3
          have s4 := same_new (o := .tup [.str "until", u2, .ref a3]) n4
          have s5 := same_new (o := .tup [.ref a2, .ref a4]) n5
          have t2 := s1.trans s2
          have t4 := (t2.trans s3).trans s4
          have f1 := (fm2 (K := K) upd_same (hy.same s1) (hy2.same s1)).same s2
          have f2 := fm2 (K := K) (upd_same (a := a2) (o := .tup [.str "release", v2, .ref a1])) (hy2.same t2) f1
          have f3 := (fm2 (K := K) upd_same (hn.same (t2.trans s3)) (hn2.same (t2.trans s3))).same s4
          have f4 := fm2 (K := K) (upd_same (a := a4) (o := .tup [.str "until", u2, .ref a3])) (hn2.same t4) f3
          exact q _ a5 (.ref a2) (.ref a4) (t4.trans s5) upd_same (f2.same ((s3.trans s4).trans s5)) (f4.same s5)
        · have c3 : k ≠ "weak_until" := fun z => c (decide_eq_true (congrArg V.str z))
          rcases bin_cases hk with e | e | e | ⟨_, _, _, hd, hu⟩
          · exact absurd e c1
          · exact absurd e c2
          · exact absurd e c3
          refine ⟨_, rfl, _, rfl, _, rfl, sz3, fun a1 n1 => ⟨_, rfl, aD, k, .str (du k), rfl, rfl, dD _ hd, _, rfl, _, rfl, sz3, fun a2 n2 => ⟨sz2, fun a3 n3 => ?_⟩⟩⟩
          have s1 := same_new (o := .tup [.str k, v, v2]) n1
          have s2 := same_new (o := .tup [.str (du k), u, u2]) n2
          have s3 := same_new (o := .tup [.ref a1, .ref a2]) n3
          refine q _ a3 (.ref a1) (.ref a2) ((s1.trans s2).trans s3) upd_same ?_ ?_
          · rw [hu]
            exact (fm2 upd_same (hy.same s1) (hy2.same s1)).same (s2.trans s3)
          · rw [hu]
            exact (fm2 upd_same (hn.same (s1.trans s2)) (hn2.same (s1.trans s2))).same s3
def spPairN (K : PySem.W.Frag) : Nat → Sp
  | 0 => fun _ _ _ _ => False
  | n + 1 => spPair K n
theorem opk_ne {k : Str} {L : List Str} (h : k ∈ L) {z : Str} (hz : ¬ z ∈ L) : k ≠ z := fun e => hz (e ▸ h)
theorem cal_pair_step {n : Nat} (T : Txt K mg w) (C_normal_pair : C8.Cal P w K mg base (2 + n) "normal_pair" (spPairN K n) []) : C8.Cal P w K mg base (2 + n + 1) "normal_pair" (spPairN K (n + 1)) [] := by
  have C_unary_pair : C8.Cal P w K mg base 1 "unary_pair" (spUnP K) [] := cal_unP T
  have C_binary_pair : C8.Cal P w K mg base 1 "binary_pair" (spBinP K) [] := cal_binP T
  obtain ⟨aT, aO, aD, aW, gD, gW, _, _, _, _, gT, gO⟩ := gloN T
  obtain ⟨f, fd, F, hm, hb⟩ := T.h_normal_pair
  refine ⟨f, fd, _, [], F.ok sc_normal_pair (fun vs H Q E h => ?_) (fun cdv A outer s H vs Q E hr h => ?_), hm, F.kp, hb, .nil⟩
  · obtain ⟨v, f, nm, rfl, _⟩ := h
    rfl
  · obtain ⟨v, f, nm, rfl, hf, hw, hd, q⟩ := h
    refine ⟨_, (pss_cons
      (ps_set (i := 1) sc_normal_pair.nd rfl (Or.inl rfl) (pe_ix (ix_tupK (K := K) rfl) (pv 0) pe_int (fun _ _ => rfl)))
      (pss_cons
      (ps_if (pt_cmpR op_eq (pv 1) pe_str (nomark _)) (pss_one
      (ps_ret (pe_tup (pa_cons (pe_glob (v := .ref aT) (by rfl) gT.g rfl) (pa_cons (pe_glob (v := .ref aO) (by rfl) gO.g rfl) pa_nil))))) pss_nil)
      (pss_cons
      (ps_if (pt_cmpR op_eq (pv 1) pe_str (nomark _)) (pss_one
      (ps_ret (pe_tup (pa_cons (pe_glob (v := .ref aO) (by rfl) gO.g rfl) (pa_cons (pe_glob (v := .ref aT) (by rfl) gT.g rfl) pa_nil))))) pss_nil)
      (pss_cons
      (ps_if (pt_cmpR op_eq (pv 1) pe_str (nomark _)) (pss_one
      (ps_ret (pe_tup (pa_cons (pv 0) (pa_cons (pe_tup (pa_cons pe_str (pa_cons (pv 0) pa_nil))) pa_nil))))) pss_nil)
      (pss_cons
      (ps_asg (C8.pe_c C_normal_pair hr (by omega) (by rfl) (pa_cons (pe_ix (ix_tupK (K := K) rfl) (pv 0) pe_int (fun _ _ => rfl)) pa_nil)) (pg_tup (by rfl) (pgs_cons (pg_name (i := 2) sc_normal_pair.nd rfl (.inl rfl)) (pgs_cons (pg_name (i := 3) sc_normal_pair.nd rfl (.inl rfl)) pgs_nil))))
      (pss_cons
      (ps_if (pt_cmpR op_eq (pe_callB (call_lenK (K := K) rfl) (by rfl) T.z_len PySem.boot_len (pa_cons (pv 0) pa_nil)) pe_int (nomark _)) (pss_one
      (ps_ret (C8.pe_c C_unary_pair hr (by omega) (by rfl) (pa_cons (pv 1) (pa_cons (pv 2) (pa_cons (pv 3) pa_nil)))))) pss_nil)
      (pss_cons
      (ps_asg (C8.pe_c C_normal_pair hr (by omega) (by rfl) (pa_cons (pe_ix (ix_tupK (K := K) rfl) (pv 0) pe_int (fun _ _ => rfl)) pa_nil)) (pg_tup (by rfl) (pgs_cons (pg_name (i := 4) sc_normal_pair.nd rfl (.inl rfl)) (pgs_cons (pg_name (i := 5) sc_normal_pair.nd rfl (.inl rfl)) pgs_nil))))
      (pss_one
      (ps_ret (C8.pe_c C_binary_pair hr (by omega) (by rfl) (pa_cons (pv 1) (pa_cons (pe_tup (pa_cons (pv 2) (pa_cons (pv 3) pa_nil))) (pa_cons (pe_tup (pa_cons (pv 4) (pa_cons (pv 5) pa_nil))) pa_nil))))))))))))), ?_⟩
    have nz : ∀ {k z : Str}, k ≠ z → (decide (V.str k = V.str z)) = false := fun hk => decide_eq_false fun y => hk (V.str.inj y)
    have fT : ∀ H, FmAt K H (.ref aT) tt' := fun H => ⟨aT, rfl, gT.q H⟩
    have fO : ∀ H, FmAt K H (.ref aO) ff' := fun H => ⟨aO, rfl, gO.q H⟩
    cases f with
    | c0 k =>
      obtain ⟨a, rfl, ha⟩ := hf
      refine ⟨_, rfl, a, _, _, _, rfl, rfl, ha, rfl, ?_⟩
      rcases hw with rfl | rfl
      · refine ⟨_, rfl, rfl, _, rfl, iteT ⟨sz2, fun p hp => ?_⟩⟩
        exact q _ p _ _ (same_new hp) upd_same (fT _) (fO _)
      · refine ⟨_, rfl, rfl, _, rfl, iteF ⟨_, rfl, rfl, _, rfl, iteT ⟨sz2, fun p hp => ?_⟩⟩⟩
        exact q _ p _ _ (same_new hp) upd_same (fO _) (fT _)
    | sg s =>
      obtain ⟨a, rfl, ha⟩ := hf
      refine ⟨_, rfl, a, _, _, _, rfl, rfl, ha, rfl, ?_⟩
      refine ⟨_, rfl, rfl, _, rfl, iteF ⟨_, rfl, rfl, _, rfl, iteF ⟨_, rfl, rfl, _, rfl, iteT ⟨_, rfl, _, rfl, sz2, fun a1 n1 => ⟨sz2, fun a2 n2 => ?_⟩⟩⟩⟩⟩
      have s1 := same_new (o := .tup [.str "not", .ref a]) n1
      have s2 := same_new (o := .tup [.ref a, .ref a1]) n2
      have g0 : FmAt K H (.ref a) (.sg s) := ⟨a, rfl, ha⟩
      exact q _ a2 (.ref a) (.ref a1) (s1.trans s2) upd_same (g0.same (s1.trans s2)) ((fm1 upd_same (g0.same s1)).same s2)
    | un k g =>
      obtain ⟨a, x, rfl, ha, hx⟩ := hf
      obtain ⟨n', rfl⟩ : ∃ n', n = n' + 1 := by
        cases n with
        | zero => exact absurd hd (by show ¬ dpt g + 1 ≤ 0; omega)
        | succ n' => exact ⟨n', rfl⟩
      refine ⟨_, rfl, a, _, _, _, rfl, rfl, ha, rfl, ?_⟩
      refine ⟨_, rfl, rfl, _, rfl, ?_⟩
      rw [nz (opk_ne hw.1 (by decide))]
      refine iteF ⟨_, rfl, rfl, _, rfl, ?_⟩
      rw [nz (opk_ne hw.1 (by decide))]
      refine iteF ⟨_, rfl, rfl, _, rfl, ?_⟩
      rw [nz (opk_ne hw.1 (by decide))]
      refine iteF ⟨_, rfl, a, _, _, _, rfl, rfl, ha, rfl, x, g, nm, rfl, hx, hw.2, Nat.le_of_succ_le_succ hd, fun H1 p1 v1 u1 s1 e1 y1 n1 => ⟨p1, _, rfl, .of e1, rfl, _, _, rfl, _, _, rfl, rfl, ?_⟩⟩
      refine ⟨_, rfl, a, _, rfl, .inr (sqt_same s1 ha), rfl, _, rfl, iteT ?_⟩
      refine ⟨_, rfl, _, rfl, _, rfl, k, v1, u1, _, _, rfl, hw.1, y1, n1, fun H2 p2 v2 u2 s2 e2 y2 n2 => ?_⟩
      exact q H2 p2 v2 u2 (s1.trans s2) e2 y2 n2
    | bin k g g2 =>
      obtain ⟨a, x, z, rfl, ha, hx, hz⟩ := hf
      have hd : max (dpt g) (dpt g2) + 1 ≤ n := hd
      obtain ⟨n', rfl⟩ : ∃ n', n = n' + 1 := by
        cases n with
        | zero => exact absurd hd (by omega)
        | succ n' => exact ⟨n', rfl⟩
      refine ⟨_, rfl, a, _, _, _, rfl, rfl, ha, rfl, ?_⟩
      refine ⟨_, rfl, rfl, _, rfl, ?_⟩
      rw [nz (opk_ne hw.1 (by decide))]
      refine iteF ⟨_, rfl, rfl, _, rfl, ?_⟩
      rw [nz (opk_ne hw.1 (by decide))]
      refine iteF ⟨_, rfl, rfl, _, rfl, ?_⟩
      rw [nz (opk_ne hw.1 (by decide))]
      refine iteF ⟨_, rfl, a, _, _, _, rfl, rfl, ha, rfl, x, g, nm, rfl, hx, hw.2.1, by omega, fun H1 p1 v1 u1 s1 e1 y1 n1 => ⟨p1, _, rfl, .of e1, rfl, _, _, rfl, _, _, rfl, rfl, ?_⟩⟩
      have ha1 := sqt_same s1 ha
      refine ⟨_, rfl, a, _, rfl, .inr ha1, rfl, _, rfl, iteF ?_⟩
      refine ⟨_, rfl, a, _, _, _, rfl, rfl, ha1, rfl, z, g2, nm, rfl, hz.same s1, hw.2.2, by omega, fun H2 p2 v2 u2 s2 e2 y2 n2 => ⟨p2, _, rfl, .of e2, rfl, _, _, rfl, _, _, rfl, rfl, ?_⟩⟩
      refine ⟨_, rfl, _, rfl, _, rfl, sz2, fun a3 m3 => ⟨_, rfl, _, rfl, sz2, fun a4 m4 => ?_⟩⟩
      have s3 := same_new (o := .tup [v1, u1]) m3
      have s4 := same_new (o := .tup [v2, u2]) m4
      have s34 := s3.trans s4
      have s24 := s2.trans s34
      refine ⟨k, a3, a4, v1, u1, v2, u2, _, _, _, _, rfl, hw.1, s4 _ _ upd_same, upd_same, y1.same s24, n1.same s24, y2.same s34, n2.same s34, fun H5 p5 v5 u5 s5 e5 y5 n5 => ?_⟩
      exact q H5 p5 v5 u5 ((s1.trans s24).trans s5) e5 y5 n5
theorem cal_pair (T : Txt K mg w) : ∀ n, C8.Cal P w K mg base (2 + n) "normal_pair" (spPairN K n) []
  | 0 => by
    obtain ⟨f, fd, F, hm, hb⟩ := T.h_normal_pair
    exact ⟨f, fd, _, [], ⟨fun vs H Q E h => h.elim, fun A outer s H args us vs Q E _ _ _ _ h => h.elim⟩, hm, F.kp, hb, .nil⟩
  | n + 1 => cal_pair_step T (cal_pair T n)
def spNf (K : PySem.W.Frag) (dp : Nat) : Sp := fun vs H Q _ => ∃ (v : V) (f : Fm) (nm : List Str), vs = [v] ∧ FmAt K H v f ∧ Wo nm f ∧ dpt f ≤ dp ∧
  ∀ (H' : Hp) (v' : V), Same H H' → FmAt K H' v' (nfp f).1 → Q v' H'
theorem cal_nf (T : Txt K mg w) : C8.Cal P w K mg base 12 "normal_form" (spNf K 8) [] := by
  have C_normal_pair : C8.Cal P w K mg base 11 "normal_pair" (spPairN K 9) [] := cal_pair T 9
  obtain ⟨f, fd, F, hm, hb⟩ := T.h_normal_form
  refine ⟨f, fd, _, [], F.ok sc_normal_form (fun vs H Q E h => ?_) (fun cdv A outer s H vs Q E hr h => ?_), hm, F.kp, hb, .nil⟩
  · obtain ⟨v, f, nm, rfl, _⟩ := h
    rfl
  · obtain ⟨v, f, nm, rfl, hf, hw, hd, q⟩ := h
    refine ⟨_, (pss_cons
      (ps_asg (C8.pe_c C_normal_pair hr (by decide) (by rfl) (pa_cons (pv 0) pa_nil)) (pg_tup (by rfl) (pgs_cons (pg_name (i := 1) sc_normal_form.nd rfl (.inl rfl)) (pgs_cons (pg_name (i := 2) sc_normal_form.nd rfl (.inl rfl)) pgs_nil))))
      (pss_one
      (ps_ret (pv 1)))), ?_⟩
    refine ⟨_, rfl, v, f, nm, rfl, hf, hw, hd, fun H1 p1 v1 u1 s1 e1 y1 n1 => ⟨p1, _, rfl, .of e1, rfl, _, _, rfl, _, _, rfl, rfl, ?_⟩⟩
    exact ⟨_, rfl, q H1 v1 s1 y1⟩
def cl1 : List Str := ["next", "previous", "weak_previous"]
def cl2 : List Str := ["and", "or", "until", "release", "since", "trigger"]
def Clean : Fm → Prop
  | .c0 _ => True
  | .sg _ => True
  | .un k f => (k = "not" ∧ ∃ s, f = .sg s) ∨ (k ∈ cl1 ∧ Clean f)
  | .bin k f g => k ∈ cl2 ∧ Clean f ∧ Clean g
def Bd : Nat → Nat
  | 0 => 2
  | n + 1 => 4 * Bd n + 3
def NF (nm : List Str) (d : Nat) (f : Fm) : Prop := Clean f ∧ Wo nm f ∧ sz f ≤ Bd d ∧ dpt f ≤ 2 * d + 1
theorem Bd_le (d : Nat) : 2 ≤ Bd d := by
  cases d with
  | zero => exact Nat.le_refl _
  | succ d => show 2 ≤ 4 * Bd d + 3; omega
theorem NF.up {nm : List Str} {d : Nat} {f : Fm} (h : NF nm d f) : NF nm (d + 1) f := ⟨h.1, h.2.1, by have := h.2.2.1; show sz f ≤ 4 * Bd d + 3; omega, by have := h.2.2.2; omega⟩
theorem NF.un {nm : List Str} {d : Nat} {f : Fm} (k : Str) (h1 : k ∈ cl1) (h2 : k ∈ unOps) (h : NF nm d f) : NF nm (d + 1) (.un k f) := ⟨.inr ⟨h1, h.1⟩, ⟨h2, h.2.1⟩, by have := h.2.2.1; show sz f + 1 ≤ 4 * Bd d + 3; omega, by have := h.2.2.2; show dpt f + 1 ≤ _; omega⟩
theorem NF.bin {nm : List Str} {d : Nat} {f g : Fm} (k : Str) (h1 : k ∈ cl2) (h2 : k ∈ binOps) (h : NF nm d f) (h' : NF nm d g) : NF nm (d + 1) (.bin k f g) := ⟨⟨h1, h.1, h'.1⟩, ⟨h2, h.2.1, h'.2.1⟩, by have := h.2.2.1; have := h'.2.2.1; show sz f + sz g + 1 ≤ 4 * Bd d + 3; omega, by have := h.2.2.2; have := h'.2.2.2; show max (dpt f) (dpt g) + 1 ≤ _; omega⟩
theorem NF.bin2 {nm : List Str} {d : Nat} {f g h i : Fm} (k k1 k2 : Str) (h1 : k ∈ cl2) (h2 : k ∈ binOps) (h3 : k1 ∈ cl2) (h4 : k1 ∈ binOps) (h5 : k2 ∈ cl2) (h6 : k2 ∈ binOps) (a : NF nm d f) (b : NF nm d g) (c : NF nm d h) (e : NF nm d i) : NF nm (d + 1) (.bin k (.bin k1 f g) (.bin k2 h i)) :=
  ⟨⟨h1, ⟨h3, a.1, b.1⟩, ⟨h5, c.1, e.1⟩⟩, ⟨h2, ⟨h4, a.2.1, b.2.1⟩, ⟨h6, c.2.1, e.2.1⟩⟩, by have := a.2.2.1; have := b.2.2.1; have := c.2.2.1; have := e.2.2.1; show (sz f + sz g + 1) + (sz h + sz i + 1) + 1 ≤ 4 * Bd d + 3; omega,
    by have := a.2.2.2; have := b.2.2.2; have := c.2.2.2; have := e.2.2.2; show max (max (dpt f) (dpt g) + 1) (max (dpt h) (dpt i) + 1) + 1 ≤ _; omega⟩
theorem NF.bin1 {nm : List Str} {d : Nat} {f g h : Fm} (k k1 : Str) (h1 : k ∈ cl2) (h2 : k ∈ binOps) (h3 : k1 ∈ cl2) (h4 : k1 ∈ binOps) (a : NF nm d f) (b : NF nm d g) (c : NF nm d h) : NF nm (d + 1) (.bin k f (.bin k1 g h)) :=
  ⟨⟨h1, a.1, ⟨h3, b.1, c.1⟩⟩, ⟨h2, a.2.1, ⟨h4, b.2.1, c.2.1⟩⟩, by have := a.2.2.1; have := b.2.2.1; have := c.2.2.1; show sz f + (sz g + sz h + 1) + 1 ≤ 4 * Bd d + 3; omega,
    by have := a.2.2.2; have := b.2.2.2; have := c.2.2.2; show max (dpt f) (max (dpt g) (dpt h) + 1) + 1 ≤ _; omega⟩
theorem NF.tt {nm : List Str} (d : Nat) : NF nm d tt' := ⟨trivial, .inl rfl, by have := Bd_le d; show 1 ≤ _; omega, Nat.zero_le _⟩
theorem NF.ff {nm : List Str} (d : Nat) : NF nm d ff' := ⟨trivial, .inr rfl, by have := Bd_le d; show 1 ≤ _; omega, Nat.zero_le _⟩
theorem nf_ok {nm : List Str} : ∀ (f : Fm) (d : Nat), Wo nm f → dpt f ≤ d → NF nm d (nfp f).1 ∧ NF nm d (nfp f).2
  | .c0 k, d, h, _ => by
    rcases h with rfl | rfl
    · exact ⟨NF.tt d, NF.ff d⟩
    · exact ⟨NF.ff d, NF.tt d⟩
  | .sg s, d, h, _ => by
    have := Bd_le d
    exact ⟨⟨trivial, h, by show 1 ≤ _; omega, Nat.zero_le _⟩, ⟨.inl ⟨rfl, s, rfl⟩, ⟨by decide, h⟩, by show 2 ≤ _; omega, by show 0 + 1 ≤ _; omega⟩⟩
  | .un k f, 0, _, hd => absurd hd (by show ¬ dpt f + 1 ≤ 0; omega)
  | .bin k f g, 0, _, hd => absurd hd (by show ¬ max (dpt f) (dpt g) + 1 ≤ 0; omega)
  | .un k f, d + 1, h, hd => by
    obtain ⟨a, b⟩ := nf_ok f d h.2 (Nat.le_of_succ_le_succ hd)
    have h1 := h.1
    simp only [unOps, List.mem_cons, List.mem_nil_iff, or_false] at h1
    rcases h1 with rfl | rfl | rfl | rfl | rfl | rfl | rfl | rfl
    · exact ⟨b.up, a.up⟩
    · exact ⟨NF.un _ (by decide) (by decide) a, NF.un _ (by decide) (by decide) b⟩
    · exact ⟨NF.bin _ (by decide) (by decide) (NF.tt d) a, NF.bin _ (by decide) (by decide) (NF.ff d) b⟩
    · exact ⟨NF.bin _ (by decide) (by decide) (NF.ff d) a, NF.bin _ (by decide) (by decide) (NF.tt d) b⟩
    · exact ⟨NF.un _ (by decide) (by decide) a, NF.un _ (by decide) (by decide) b⟩
    · exact ⟨NF.un _ (by decide) (by decide) a, NF.un _ (by decide) (by decide) b⟩
    · exact ⟨NF.bin _ (by decide) (by decide) (NF.tt d) a, NF.bin _ (by decide) (by decide) (NF.ff d) b⟩
    · exact ⟨NF.bin _ (by decide) (by decide) (NF.ff d) a, NF.bin _ (by decide) (by decide) (NF.tt d) b⟩
  | .bin k f g, d + 1, h, hd => by
    have hd : max (dpt f) (dpt g) + 1 ≤ d + 1 := hd
    obtain ⟨a, b⟩ := nf_ok f d h.2.1 (by omega)
    obtain ⟨a', b'⟩ := nf_ok g d h.2.2 (by omega)
    have h1 := h.1
    simp only [binOps, List.mem_cons, List.mem_nil_iff, or_false] at h1
    rcases h1 with rfl | rfl | rfl | rfl | rfl | rfl | rfl | rfl | rfl
    · exact ⟨NF.bin _ (by decide) (by decide) a a', NF.bin _ (by decide) (by decide) b b'⟩
    · exact ⟨NF.bin _ (by decide) (by decide) a a', NF.bin _ (by decide) (by decide) b b'⟩
    · exact ⟨NF.bin _ (by decide) (by decide) b a', NF.bin _ (by decide) (by decide) a b'⟩
    · exact ⟨NF.bin2 _ _ _ (by decide) (by decide) (by decide) (by decide) (by decide) (by decide) a a' b b', NF.bin2 _ _ _ (by decide) (by decide) (by decide) (by decide) (by decide) (by decide) a b' b a'⟩
    · exact ⟨NF.bin _ (by decide) (by decide) a a', NF.bin _ (by decide) (by decide) b b'⟩
    · exact ⟨NF.bin _ (by decide) (by decide) a a', NF.bin _ (by decide) (by decide) b b'⟩
    · exact ⟨NF.bin _ (by decide) (by decide) a a', NF.bin _ (by decide) (by decide) b b'⟩
    · exact ⟨NF.bin _ (by decide) (by decide) a a', NF.bin _ (by decide) (by decide) b b'⟩
    · exact ⟨NF.bin1 _ _ (by decide) (by decide) (by decide) (by decide) a' a a', NF.bin1 _ _ (by decide) (by decide) (by decide) (by decide) b' b b'⟩
theorem nf_self {nm : List Str} : ∀ f : Fm, Wo nm f → Clean f → (nfp f).1 = f
  | .c0 k, h, _ => by
    rcases h with rfl | rfl
    · rfl
    · rfl
  | .sg s, _, _ => rfl
  | .un k f, h, c => by
    rcases c with ⟨rfl, s, rfl⟩ | ⟨hk, c⟩
    · rfl
    · have ih := nf_self f h.2 c
      simp only [cl1, List.mem_cons, List.mem_nil_iff, or_false] at hk
      rcases hk with rfl | rfl | rfl
      · show Fm.un "next" (nfp f).1 = _
        rw [ih]
      · show Fm.un "previous" (nfp f).1 = _
        rw [ih]
      · show Fm.un "weak_previous" (nfp f).1 = _
        rw [ih]
  | .bin k f g, h, ⟨hk, c1, c2⟩ => by
    have i1 := nf_self f h.2.1 c1
    have i2 := nf_self g h.2.2 c2
    simp only [cl2, List.mem_cons, List.mem_nil_iff, or_false] at hk
    rcases hk with rfl | rfl | rfl | rfl | rfl | rfl
    · show Fm.bin "and" (nfp f).1 (nfp g).1 = _
      rw [i1, i2]
    · show Fm.bin "or" (nfp f).1 (nfp g).1 = _
      rw [i1, i2]
    · show Fm.bin "until" (nfp f).1 (nfp g).1 = _
      rw [i1, i2]
    · show Fm.bin "release" (nfp f).1 (nfp g).1 = _
      rw [i1, i2]
    · show Fm.bin "since" (nfp f).1 (nfp g).1 = _
      rw [i1, i2]
    · show Fm.bin "trigger" (nfp f).1 (nfp g).1 = _
      rw [i1, i2]
/-! the formula as data -/
def dF : Fm → PyData
  | .c0 k => .tuple [.str k]
  | .sg s => .tuple [.str sSig, .str s]
  | .un k f => .tuple [.str k, dF f]
  | .bin k f g => .tuple [.str k, dF f, dF g]
theorem dp_fm {K : PySem.W.Frag} {H : Hp} : ∀ {f : Fm} {v : V}, FmAt K H v f → Dp K H v (dF f)
  | .c0 k, _, ⟨a, rfl, h⟩ => .tup h (.cons (.str _) .nil)
  | .sg s, _, ⟨a, rfl, h⟩ => .tup h (.cons (.str _) (.cons (.str _) .nil))
  | .un k f, _, ⟨a, x, rfl, h, hx⟩ => .tup h (.cons (.str _) (.cons (dp_fm hx) .nil))
  | .bin k f g, _, ⟨a, x, y, rfl, h, hx, hy⟩ => .tup h (.cons (.str _) (.cons (dp_fm hx) (.cons (dp_fm hy) .nil)))
theorem ok_un : ∀ k ∈ unOps, PyData.strOk k = true := by decide +kernel
theorem ok_bin : ∀ k ∈ binOps, PyData.strOk k = true := by decide +kernel
theorem lay_fm {nm : List Str} (hok : ∀ s ∈ nm, PyData.strOk s = true) : ∀ {f : Fm}, Wo nm f → PyData.canLay0 (dF f) = true
  | .c0 k, h => by
    have e : PyData.strOk k = true := by
      rcases h with rfl | rfl
      · decide +kernel
      · decide +kernel
    simp [dF, PyData.canLay0, PyData.canLayAll0, e]
  | .sg s, h => by
    have e : PyData.strOk sSig = true := by decide +kernel
    simp [dF, PyData.canLay0, PyData.canLayAll0, e, hok s h]
  | .un k f, h => by simp [dF, PyData.canLay0, PyData.canLayAll0, ok_un k h.1, lay_fm hok h.2]
  | .bin k f g, h => by simp [dF, PyData.canLay0, PyData.canLayAll0, ok_bin k h.1, lay_fm hok h.2.1, lay_fm hok h.2.2]
theorem dep_fm : ∀ f : Fm, PyData.depth (dF f) ≤ dpt f + 1
  | .c0 k => by simp [dF, PyData.depth, PyData.depthAll, dpt]
  | .sg s => by simp [dF, PyData.depth, PyData.depthAll, dpt]
  | .un k f => by
    have := dep_fm f
    simp [dF, PyData.depth, PyData.depthAll, dpt]
    omega
  | .bin k f g => by
    have := dep_fm f
    have := dep_fm g
    simp [dF, PyData.depth, PyData.depthAll, dpt]
    omega
theorem shaped_fm {nm : List Str} (hok : ∀ s ∈ nm, PyData.strOk s = true) {f : Fm} (h : Wo nm f) (hd : dpt f ≤ 60) : SeqAt.shaped (dF f) = true := by
  unfold SeqAt.shaped
  have := dep_fm f
  rw [lay_fm hok h, decide_eq_true (show PyData.depth (dF f) ≤ 64 by omega)]
  rfl
/-! the law's own table of normal forms -/
def lf : Bool → Fm → Fm
  | true, f => (nfp f).1
  | false, f => (nfp f).2
theorem at2 (c : Bool) (x y : Str) : atI [V.str x, V.str y] (if c = true then 1 else 0) = some (.str (if c = true then y else x)) := by cases c <;> rfl
theorem un_nin : ∀ k ∈ unOps, k ∉ (["true", "false"] : List Str) := by decide
theorem bin_nin : ∀ k ∈ binOps, k ∉ (["true", "false"] : List Str) := by decide
def spLF (K : PySem.W.Frag) : Nat → Sp
  | 0 => fun _ _ _ _ => False
  | n + 1 => fun vs H Q _ => ∃ (v : V) (f : Fm) (nm : List Str) (b : Bool), vs = [v, .bl b] ∧ FmAt K H v f ∧ Wo nm f ∧ dpt f ≤ n ∧ ∀ (H' : Hp) (v' : V), Same H H' → FmAt K H' v' (lf b f) → Q v' H'
def spTwn (K : PySem.W.Frag) (n : Nat) : Sp := fun vs H Q _ => ∃ (k : Str) (v u : V) (f g : Fm) (nm : List Str) (a b : Bool), vs = [.str k, v, u, .bl a, .bl b] ∧ FmAt K H v f ∧ FmAt K H u g ∧ Wo nm f ∧ Wo nm g ∧ dpt f + 1 ≤ n ∧ dpt g + 1 ≤ n ∧
  ∀ (H' : Hp) (v' : V), Same H H' → FmAt K H' v' (.bin k (lf a f) (lf b g)) → Q v' H'
def spOne (K : PySem.W.Frag) (n : Nat) : Sp := fun vs H Q _ => ∃ (k : Str) (v : V) (f : Fm) (nm : List Str) (b : Bool), vs = [.str k, v, .bl b] ∧ k ∈ unOps ∧ FmAt K H v f ∧ Wo nm f ∧ dpt f + 1 ≤ n ∧
  ∀ (H' : Hp) (v' : V), Same H H' → FmAt K H' v' (lf b (.un k f)) → Q v' H'
def spTwo (K : PySem.W.Frag) (n : Nat) : Sp := fun vs H Q _ => ∃ (k : Str) (v u : V) (f g : Fm) (nm : List Str) (b : Bool), vs = [.str k, v, u, .bl b] ∧ k ∈ binOps ∧ FmAt K H v f ∧ FmAt K H u g ∧ Wo nm f ∧ Wo nm g ∧ dpt f + 1 ≤ n ∧ dpt g + 1 ≤ n ∧
  ∀ (H' : Hp) (v' : V), Same H H' → FmAt K H' v' (lf b (.bin k f g)) → Q v' H'
theorem cal_twins {n L : Nat} (T : Txt K mg w) (C_law_form : C8.Cal P w K mg base L "_law_form" (spLF K n) []) : C8.Cal P w K mg base (L + 1) "_law_twins" (spTwn K n) [] := by
  obtain ⟨f, fd, F, hm, hb⟩ := T.h_law_twins
  refine ⟨f, fd, _, [], F.ok sc_law_twins (fun vs H Q E h => ?_) (fun cdv A outer s H vs Q E hr h => ?_), hm, F.kp, hb, .nil⟩
  · obtain ⟨k, v, u, f, g, nm, a, b, rfl, _⟩ := h
    rfl
  · obtain ⟨k, v, u, f, g, nm, a, b, rfl, hf, hg, hw, hw2, hd, hd2, q⟩ := h
    refine ⟨_, (pss_one
      (ps_ret (pe_tup (pa_cons (pv 0) (pa_cons (C8.pe_c C_law_form hr (by omega) (by rfl) (pa_cons (pv 1) (pa_cons (pv 3) pa_nil))) (pa_cons (C8.pe_c C_law_form hr (by omega) (by rfl) (pa_cons (pv 2) (pa_cons (pv 4) pa_nil))) pa_nil)))))), ?_⟩
    obtain ⟨n', rfl⟩ : ∃ n', n = n' + 1 := ⟨n - 1, by omega⟩
    refine ⟨_, rfl, _, rfl, _, rfl, v, f, nm, a, rfl, hf, hw, by omega, fun H1 v1 s1 F1 => ⟨_, rfl, _, rfl, u, g, nm, b, rfl, hg.same s1, hw2, by omega, fun H2 v2 s2 F2 => ⟨sz3, fun p hp => ?_⟩⟩⟩
    have s3 := same_new (o := .tup [.str k, v1, v2]) hp
    exact q _ _ ((s1.trans s2).trans s3) (fm2 upd_same (F1.same (s2.trans s3)) (F2.same s3))
theorem cal_one {n L : Nat} (T : Txt K mg w) (C_law_form : C8.Cal P w K mg base L "_law_form" (spLF K n) []) : C8.Cal P w K mg base (L + 1) "_law_form_one" (spOne K n) [] := by
  obtain ⟨f, fd, F, hm, hb⟩ := T.h_law_form_one
  refine ⟨f, fd, _, [], F.ok sc_law_form_one (fun vs H Q E h => ?_) (fun cdv A outer s H vs Q E hr h => ?_), hm, F.kp, hb, .nil⟩
  · obtain ⟨k, v, f, nm, b, rfl, _⟩ := h
    rfl
  · obtain ⟨k, v, f, nm, b, rfl, hk, hf, hw, hd, q⟩ := h
    refine ⟨_, (pss_cons
      (ps_if (pt_cmpR op_eq (pv 0) pe_str (nomark _)) (pss_one
      (ps_ret (C8.pe_c C_law_form hr (by omega) (by rfl) (pa_cons (pv 1) (pa_cons (pe_not (pv 2)) pa_nil))))) pss_nil)
      (pss_cons
      (ps_set (i := 3) sc_law_form_one.nd rfl (Or.inl rfl) (C8.pe_c C_law_form hr (by omega) (by rfl) (pa_cons (pv 1) (pa_cons (pv 2) pa_nil))))
      (pss_cons
      (ps_if (pt_cmpR op_eq (pv 0) pe_str (nomark _)) (pss_one
      (ps_ret (pe_tup (pa_cons pe_str (pa_cons (pv 3) pa_nil))))) pss_nil)
      (pss_cons
      (ps_if (pt_cmpR (op_inK (K := K) rfl) (pv 0) (pe_tup (pa_cons pe_str (pa_cons pe_str pa_nil))) (by rfl)) (pss_one
      (ps_ret (pe_tup (pa_cons (pe_ix (ix_listK (K := K) rfl) (pe_lst (pa_cons pe_str (pa_cons pe_str pa_nil))) (pe_callTy call_int1 (by rfl) T.z_int (by decide +kernel) (pa_cons (pe_cmpR op_eq (pe_cmpR op_eq (pv 0) pe_str (nomark _)) (pv 2) (nomark _)) pa_nil)) (fun _ _ => rfl)) (pa_cons (pv 3) pa_nil))))) pss_nil)
      (pss_cons
      (ps_set (i := 4) sc_law_form_one.nd rfl (Or.inl rfl) (pe_cmpR op_eq (pe_cmpR (op_inK (K := K) rfl) (pv 0) (pe_tup (pa_cons pe_str (pa_cons pe_str pa_nil))) (by rfl)) (pv 2) (nomark _)))
      (pss_cons
      (ps_set (i := 5) sc_law_form_one.nd rfl (Or.inl rfl) (pe_lst (pa_cons pe_str (pa_cons pe_str pa_nil))))
      (C8.pss_cut
      (ps_if (pt_cmpR (op_inK (K := K) rfl) (pv 0) (pe_tup (pa_cons pe_str (pa_cons pe_str pa_nil))) (by rfl)) (pss_one
      (ps_set (i := 5) sc_law_form_one.nd rfl (Or.inl rfl) (pe_lst (pa_cons pe_str (pa_cons pe_str pa_nil))))) pss_nil)
      (pss_one
      (ps_ret (pe_tup (pa_cons (pe_ix (ix_listK (K := K) rfl) (pv 5) (pe_callTy call_int1 (by rfl) T.z_int (by decide +kernel) (pa_cons (pv 4) pa_nil)) (fun _ _ => rfl)) (pa_cons (pe_tup (pa_cons (pe_ix (ix_listK (K := K) rfl) (pe_lst (pa_cons pe_str (pa_cons pe_str pa_nil))) (pe_callTy call_int1 (by rfl) T.z_int (by decide +kernel) (pa_cons (pv 4) pa_nil)) (fun _ _ => rfl)) pa_nil)) (pa_cons (pv 3) pa_nil))))))))))))), ?_⟩
    obtain ⟨n', rfl⟩ : ∃ n', n = n' + 1 := ⟨n - 1, by omega⟩
    refine ⟨_, rfl, rfl, _, rfl, ite2 (fun c => ?_) (fun c => ?_)⟩
    · have e : k = "not" := V.str.inj (of_decide_eq_true c)
      subst e
      refine ⟨_, rfl, _, rfl, _, rfl, v, f, nm, !b, rfl, hf, hw, by omega, fun H1 v1 s1 F1 => q H1 v1 s1 ?_⟩
      cases b
      · exact F1
      · exact F1
    · have kn : k ≠ "not" := fun z => c (decide_eq_true (congrArg V.str z))
      refine ⟨_, rfl, _, rfl, v, f, nm, b, rfl, hf, hw, by omega, fun H1 v1 s1 F1 => ?_⟩
      refine ⟨_, rfl, rfl, _, rfl, ite2 (fun c2 => ?_) (fun c2 => ?_)⟩
      · have e : k = "next" := V.str.inj (of_decide_eq_true c2)
        subst e
        refine ⟨_, rfl, sz2, fun p hp => ?_⟩
        have s2 := same_new (o := .tup [.str "next", v1]) hp
        refine q _ _ (s1.trans s2) ?_
        have e : Fm.un "next" (lf b f) = lf b (.un "next" f) := by cases b <;> rfl
        rw [← e]
        exact fm1 upd_same (F1.same s2)
      · have kx : k ≠ "next" := fun z => c2 (decide_eq_true (congrArg V.str z))
        refine ⟨_, rfl, sz2, fun t ht => inq (ss := ["previous", "weak_previous"]) (.of upd_same) ⟨_, rfl, ite2 (fun c3 => ?_) (fun c3 => ?_)⟩⟩
        · have hk2 := of_decide_eq_true c3
          have s2 := same_new (o := .tup [.str "previous", .str "weak_previous"]) ht
          refine ⟨sz2, fun t2 ht2 => ⟨_, rfl, rfl, _, rfl, rfl, .inr ⟨_, rfl, t2, _, _, _, rfl, rfl, .of upd_same, at2 _ _ _, _, rfl, sz2, fun p hp => ?_⟩⟩⟩
          have s3 := s2.trans (same_new (o := .lst [.str "weak_previous", .str "previous"]) ht2)
          refine q _ _ (s1.trans (s3.trans (same_new hp))) ?_
          have e : Fm.un (if decide (V.bl (decide (V.str k = V.str "previous")) = V.bl b) = true then "previous" else "weak_previous") (lf b f) = lf b (.un k f) := by
            simp only [List.mem_cons, List.mem_nil_iff, or_false] at hk2
            rcases hk2 with rfl | rfl <;> cases b <;> rfl
          rw [← e]
          exact fm1 upd_same (F1.same (s3.trans (same_new hp)))
        · have hk2 : k ∉ (["previous", "weak_previous"] : List Str) := fun z => c3 (decide_eq_true z)
          have hk4 : k = "eventually" ∨ k = "always" ∨ k = "once" ∨ k = "historically" := by
            simp only [unOps, List.mem_cons, List.mem_nil_iff, or_false] at hk
            rcases hk with rfl | rfl | rfl | rfl | rfl | rfl | rfl | rfl
            · exact absurd rfl kn
            · exact absurd rfl kx
            · exact .inl rfl
            · exact .inr (.inl rfl)
            · exact absurd (by decide) hk2
            · exact absurd (by decide) hk2
            · exact .inr (.inr (.inl rfl))
            · exact .inr (.inr (.inr rfl))
          have s2 := same_new (o := .tup [.str "previous", .str "weak_previous"]) ht
          refine ⟨_, rfl, sz2, fun t2 ht2 => inq (ss := ["eventually", "once"]) (.of upd_same) ⟨_, rfl, rfl, ?_⟩⟩
          have s3 := s2.trans (same_new (o := .tup [.str "eventually", .str "once"]) ht2)
          refine ⟨sz2, fun q1 hq1 => ?_⟩
          have s4 := s3.trans (same_new (o := .lst [.str "release", .str "until"]) hq1)
          have eq1 : (upd (upd (upd H1 t (.tup [.str "previous", .str "weak_previous"])) t2 (.tup [.str "eventually", .str "once"])) q1 (.lst [.str "release", .str "until"])) q1 = some (.lst [.str "release", .str "until"]) := upd_same
          generalize upd (upd (upd H1 t (.tup [.str "previous", .str "weak_previous"])) t2 (.tup [.str "eventually", .str "once"])) q1 (.lst [.str "release", .str "until"]) = H4 at s4 eq1 ⊢
          refine ⟨fun σ H' => ∃ (q2 : Addr) (l0 l1 : Str), σ = [some (.str k), some v, some (.bl b), some v1, some (.bl (decide (V.bl (decide (k ∈ (["eventually", "once"] : List Str))) = V.bl b))), some (.ref q2)] ∧ Same H1 H' ∧ H' q2 = some (.lst [.str l0, .str l1]) ∧
            (if k = "once" ∨ k = "historically" then l0 = "trigger" ∧ l1 = "since" else l0 = "release" ∧ l1 = "until"), ?_, ?_⟩
          · refine ⟨_, rfl, sz2, fun t3 ht3 => inq (ss := ["once", "historically"]) (.of upd_same) ⟨_, rfl, ite2 (fun c4 => ?_) (fun c4 => ?_)⟩⟩
            · have hk5 := of_decide_eq_true c4
              refine ⟨sz2, fun q2 hq2 => ⟨q2, "trigger", "since", rfl, s4.trans ((same_new ht3).trans (same_new hq2)), upd_same, ?_⟩⟩
              rw [if_pos (by simpa using hk5)]
              exact ⟨rfl, rfl⟩
            · have hk5 : k ∉ (["once", "historically"] : List Str) := fun z => c4 (decide_eq_true z)
              have s5 := same_new (o := .tup [.str "once", .str "historically"]) ht3
              refine ⟨q1, "release", "until", rfl, s4.trans s5, s5 _ _ eq1, ?_⟩
              rw [if_neg (fun z => hk5 (by simpa using z))]
              exact ⟨rfl, rfl⟩
          · rintro σ H5 ⟨q2, l0, l1, rfl, s5, e5, hl⟩
            refine ⟨_, rfl, _, rfl, .inr ⟨_, rfl, q2, _, _, _, rfl, rfl, .of e5, at2 _ _ _, sz2, fun t4 ht4 => ⟨_, rfl, .inr ⟨_, rfl, t4, _, _, _, rfl, rfl, .of upd_same, at2 _ _ _, sz1, fun p1 hp1 => ⟨_, rfl, sz3, fun p hp => ?_⟩⟩⟩⟩⟩
            have s6 := same_new (o := .lst [.str "false", .str "true"]) ht4
            have s7 := same_new hp1 (o := .tup [.str (if decide (V.bl (decide (k ∈ (["eventually", "once"] : List Str))) = V.bl b) = true then "true" else "false")])
            refine q _ _ (s1.trans (s5.trans (s6.trans (s7.trans (same_new hp))))) ?_
            have e : Fm.bin (if decide (V.bl (decide (k ∈ (["eventually", "once"] : List Str))) = V.bl b) = true then l1 else l0) (.c0 (if decide (V.bl (decide (k ∈ (["eventually", "once"] : List Str))) = V.bl b) = true then "true" else "false")) (lf b f) = lf b (.un k f) := by
              rcases hk4 with rfl | rfl | rfl | rfl
              · rw [if_neg (by decide)] at hl
                obtain ⟨rfl, rfl⟩ := hl
                cases b <;> rfl
              · rw [if_neg (by decide)] at hl
                obtain ⟨rfl, rfl⟩ := hl
                cases b <;> rfl
              · rw [if_pos (by decide)] at hl
                obtain ⟨rfl, rfl⟩ := hl
                cases b <;> rfl
              · rw [if_pos (by decide)] at hl
                obtain ⟨rfl, rfl⟩ := hl
                cases b <;> rfl
            rw [← e]
            exact fm2 upd_same ((fm0 upd_same).same (same_new hp)) (F1.same (s5.trans (s6.trans (s7.trans (same_new hp)))))
abbrev DW : List (L2.Key × V) := [(.inr "and", .str "or"), (.inr "or", .str "and"), (.inr "until", .str "release"), (.inr "release", .str "until"), (.inr "since", .str "trigger"), (.inr "trigger", .str "since")]
theorem dw_get {k : Str} (h : k ∈ binOps) (h1 : k ≠ "implies") (h2 : k ≠ "iff") (h3 : k ≠ "weak_until") : some (V.str (du k)) = valV (mergeK [] DW) (.inr k) := by
  simp only [binOps, List.mem_cons, List.mem_nil_iff, or_false] at h
  rcases h with rfl | rfl | rfl | rfl | rfl | rfl | rfl | rfl | rfl
  · rfl
  · rfl
  · exact absurd rfl h1
  · exact absurd rfl h2
  · rfl
  · rfl
  · rfl
  · rfl
  · exact absurd rfl h3
theorem cal_two {n L : Nat} (T : Txt K mg w) (C_law_form : C8.Cal P w K mg base L "_law_form" (spLF K n) []) (C_law_twins : C8.Cal P w K mg base (L + 1) "_law_twins" (spTwn K n) []) : C8.Cal P w K mg base (L + 2) "_law_form_two" (spTwo K n) [] := by
  obtain ⟨f, fd, F, hm, hb⟩ := T.h_law_form_two
  refine ⟨f, fd, _, [], F.ok sc_law_form_two (fun vs H Q E h => ?_) (fun cdv A outer s H vs Q E hr h => ?_), hm, F.kp, hb, .nil⟩
  · obtain ⟨k, v, u, f, g, nm, b, rfl, _⟩ := h
    rfl
  · obtain ⟨k, v, u, f, g, nm, b, rfl, hk, hf, hg, hw, hw2, hd, hd2, q⟩ := h
    refine ⟨_, (pss_cons
      (ps_if (pt_cmpR op_eq (pv 0) pe_str (nomark _)) (pss_cons
      (ps_set (i := 4) sc_law_form_two.nd rfl (Or.inl rfl) (C8.pe_c C_law_twins hr (by omega) (by rfl) (pa_cons pe_str (pa_cons (pv 1) (pa_cons (pv 2) (pa_cons pe_bl (pa_cons (pv 3) pa_nil)))))))
      (pss_one
      (ps_ret (pe_tup (pa_cons pe_str (pa_cons (pv 4) (pa_cons (C8.pe_c C_law_twins hr (by omega) (by rfl) (pa_cons pe_str (pa_cons (pv 1) (pa_cons (pv 2) (pa_cons pe_bl (pa_cons (pe_not (pv 3)) pa_nil)))))) pa_nil))))))) pss_nil)
      (pss_cons
      (ps_if (pt_cmpR op_eq (pv 0) pe_str (nomark _)) (pss_cons
      (ps_if (pt_val (pv 3)) (pss_one
      (ps_ret (pe_tup (pa_cons pe_str (pa_cons (C8.pe_c C_law_form hr (by omega) (by rfl) (pa_cons (pv 2) (pa_cons pe_bl pa_nil))) (pa_cons (C8.pe_c C_law_twins hr (by omega) (by rfl) (pa_cons pe_str (pa_cons (pv 1) (pa_cons (pv 2) (pa_cons pe_bl (pa_cons pe_bl pa_nil)))))) pa_nil)))))) pss_nil)
      (pss_one
      (ps_ret (pe_tup (pa_cons pe_str (pa_cons (C8.pe_c C_law_form hr (by omega) (by rfl) (pa_cons (pv 2) (pa_cons pe_bl pa_nil))) (pa_cons (C8.pe_c C_law_twins hr (by omega) (by rfl) (pa_cons pe_str (pa_cons (pv 1) (pa_cons (pv 2) (pa_cons pe_bl (pa_cons pe_bl pa_nil)))))) pa_nil))))))) pss_nil)
      (pss_cons
      (ps_if (pt_cmpR op_eq (pv 0) pe_str (nomark _)) (pss_one
      (ps_ret (C8.pe_c C_law_twins hr (by omega) (by rfl) (pa_cons (pe_ix (ix_listK (K := K) rfl) (pe_lst (pa_cons pe_str (pa_cons pe_str pa_nil))) (pe_callTy call_int1 (by rfl) T.z_int (by decide +kernel) (pa_cons (pv 3) pa_nil)) (fun _ _ => rfl)) (pa_cons (pv 1) (pa_cons (pv 2) (pa_cons (pe_not (pv 3)) (pa_cons (pv 3) pa_nil)))))))) pss_nil)
      (pss_cons
      (ps_set (i := 5) sc_law_form_two.nd rfl (Or.inl rfl) (pe_disp (pps_cons pe_str pe_str (pps_cons pe_str pe_str (pps_cons pe_str pe_str (pps_cons pe_str pe_str (pps_cons pe_str pe_str (pps_cons pe_str pe_str pps_nil)))))) rfl rfl (by simp) (by decide)))
      (pss_cons
      (ps_if (pt_val (pv 3)) (pss_one
      (ps_ret (C8.pe_c C_law_twins hr (by omega) (by rfl) (pa_cons (pv 0) (pa_cons (pv 1) (pa_cons (pv 2) (pa_cons pe_bl (pa_cons pe_bl pa_nil)))))))) pss_nil)
      (pss_one
      (ps_ret (C8.pe_c C_law_twins hr (by omega) (by rfl) (pa_cons (pe_dget (hu_of hr) (pv 5) (pv 0) (fun _ _ => rfl)) (pa_cons (pv 1) (pa_cons (pv 2) (pa_cons pe_bl (pa_cons pe_bl pa_nil))))))))))))), ?_⟩
    obtain ⟨n', rfl⟩ : ∃ n', n = n' + 1 := ⟨n - 1, by omega⟩
    refine ⟨_, rfl, rfl, _, rfl, ite2 (fun c => ?_) (fun c => ?_)⟩
    · have e : k = "iff" := V.str.inj (of_decide_eq_true c)
      subst e
      refine ⟨_, rfl, _, rfl, _, rfl, "and", v, u, f, g, nm, true, b, rfl, hf, hg, hw, hw2, hd, hd2, fun H1 v1 s1 F1 => ?_⟩
      refine ⟨_, rfl, _, rfl, _, rfl, _, rfl, _, rfl, "and", v, u, f, g, nm, false, !b, rfl, hf.same s1, hg.same s1, hw, hw2, hd, hd2, fun H2 v2 s2 F2 => ⟨sz3, fun p hp => ?_⟩⟩
      have e : Fm.bin "or" (.bin "and" (lf true f) (lf b g)) (.bin "and" (lf false f) (lf (!b) g)) = lf b (.bin "iff" f g) := by cases b <;> rfl
      refine q _ _ ((s1.trans s2).trans (same_new hp)) ?_
      rw [← e]
      exact fm2 upd_same (F1.same (s2.trans (same_new hp))) (F2.same (same_new hp))
    · have k1 : k ≠ "iff" := fun z => c (decide_eq_true (congrArg V.str z))
      refine ⟨_, rfl, rfl, _, rfl, ite2 (fun c2 => ?_) (fun c2 => ?_)⟩
      · have e : k = "weak_until" := V.str.inj (of_decide_eq_true c2)
        subst e
        cases b with
        | true =>
          refine ⟨_, rfl, _, rfl, iteT ?_⟩
          refine ⟨_, rfl, u, g, nm, true, rfl, hg, hw2, by omega, fun H1 v1 s1 F1 => ?_⟩
          refine ⟨_, rfl, _, rfl, "or", v, u, f, g, nm, true, true, rfl, hf.same s1, hg.same s1, hw, hw2, hd, hd2, fun H2 v2 s2 F2 => ⟨sz3, fun p hp => ?_⟩⟩
          exact q _ _ ((s1.trans s2).trans (same_new hp)) (show FmAt K _ _ (.bin "release" (lf true g) (.bin "or" (lf true f) (lf true g))) from fm2 upd_same (F1.same (s2.trans (same_new hp))) (F2.same (same_new hp)))
        | false =>
          refine ⟨_, rfl, _, rfl, iteF ?_⟩
          refine ⟨_, rfl, u, g, nm, false, rfl, hg, hw2, by omega, fun H1 v1 s1 F1 => ?_⟩
          refine ⟨_, rfl, _, rfl, "and", v, u, f, g, nm, false, false, rfl, hf.same s1, hg.same s1, hw, hw2, hd, hd2, fun H2 v2 s2 F2 => ⟨sz3, fun p hp => ?_⟩⟩
          exact q _ _ ((s1.trans s2).trans (same_new hp)) (show FmAt K _ _ (.bin "until" (lf false g) (.bin "and" (lf false f) (lf false g))) from fm2 upd_same (F1.same (s2.trans (same_new hp))) (F2.same (same_new hp)))
      · have k2 : k ≠ "weak_until" := fun z => c2 (decide_eq_true (congrArg V.str z))
        refine ⟨_, rfl, rfl, _, rfl, ite2 (fun c3 => ?_) (fun c3 => ?_)⟩
        · have e : k = "implies" := V.str.inj (of_decide_eq_true c3)
          subst e
          refine ⟨sz2, fun t ht => ⟨_, rfl, .inr ⟨_, rfl, t, _, _, _, rfl, rfl, .of upd_same, at2 _ _ _, ?_⟩⟩⟩
          have s1 := same_new (o := .lst [.str "and", .str "or"]) ht
          refine ⟨_, rfl, _, rfl, _, rfl, _, rfl, _, rfl, _, v, u, f, g, nm, !b, b, rfl, hf.same s1, hg.same s1, hw, hw2, hd, hd2, fun H2 v2 s2 F2 => q _ _ (s1.trans s2) ?_⟩
          have e : Fm.bin (if b = true then "or" else "and") (lf (!b) f) (lf b g) = lf b (.bin "implies" f g) := by cases b <;> rfl
          rw [← e]
          exact F2
        · have k3 : k ≠ "implies" := fun z => c3 (decide_eq_true (congrArg V.str z))
          rcases bin_cases hk with e | e | e | ⟨_, _, _, _, hu⟩
          · exact absurd e k3
          · exact absurd e k1
          · exact absurd e k2
          refine fun p hp => ⟨upd_same, DW, rfl, by decide, ?_⟩
          have s1 : Same H (upd (upd H p (.dK [])) p (.dK (mergeK [] DW))) := fun c2 x hc => by
            rw [upd_ne (ne_of_none hc hp), upd_ne (ne_of_none hc hp)]
            exact hc
          have ep : (upd (upd H p (.dK [])) p (.dK (mergeK [] DW))) p = some (.dK (mergeK [] DW)) := upd_same
          generalize upd (upd H p (.dK [])) p (.dK (mergeK [] DW)) = H1 at s1 ep ⊢
          cases b with
          | true =>
            refine ⟨_, rfl, _, rfl, iteT ?_⟩
            refine ⟨_, rfl, _, rfl, _, rfl, k, v, u, f, g, nm, true, true, rfl, hf.same s1, hg.same s1, hw, hw2, hd, hd2, fun H2 v2 s2 F2 => q _ _ (s1.trans s2) ?_⟩
            have e : Fm.bin k (lf true f) (lf true g) = lf true (.bin k f g) := (congrArg Prod.fst (hu (nfp f).1 (nfp f).2 (nfp g).1 (nfp g).2)).symm
            rw [← e]
            exact F2
          | false =>
            refine ⟨_, rfl, _, rfl, iteF ?_⟩
            refine ⟨_, rfl, _, rfl, p, _, rfl, .inl ⟨_, .inr k, .inl ep, rfl, dw_get hk k3 k1 k2⟩, ?_⟩
            refine ⟨_, rfl, _, rfl, du k, v, u, f, g, nm, false, false, rfl, hf.same s1, hg.same s1, hw, hw2, hd, hd2, fun H2 v2 s2 F2 => q _ _ (s1.trans s2) ?_⟩
            have e : Fm.bin (du k) (lf false f) (lf false g) = lf false (.bin k f g) := (congrArg Prod.snd (hu (nfp f).1 (nfp f).2 (nfp g).1 (nfp g).2)).symm
            rw [← e]
            exact F2
theorem cal_lf_step {n L : Nat} (T : Txt K mg w) (C_law_form : C8.Cal P w K mg base L "_law_form" (spLF K n) []) : C8.Cal P w K mg base (L + 3) "_law_form" (spLF K (n + 1)) [] := by
  have C_law_twins : C8.Cal P w K mg base (L + 1) "_law_twins" (spTwn K n) [] := cal_twins T C_law_form
  have C_law_form_one : C8.Cal P w K mg base (L + 1) "_law_form_one" (spOne K n) [] := cal_one T C_law_form
  have C_law_form_two : C8.Cal P w K mg base (L + 2) "_law_form_two" (spTwo K n) [] := cal_two T C_law_form C_law_twins
  obtain ⟨f, fd, F, hm, hb⟩ := T.h_law_form
  refine ⟨f, fd, _, [], F.ok sc_law_form (fun vs H Q E h => ?_) (fun cdv A outer s H vs Q E hr h => ?_), hm, F.kp, hb, .nil⟩
  · obtain ⟨v, f, nm, b, rfl, _⟩ := h
    rfl
  · obtain ⟨v, f, nm, b, rfl, hf, hw, hd, q⟩ := h
    refine ⟨_, (pss_cons
      (ps_set (i := 2) sc_law_form.nd rfl (Or.inl rfl) (pe_ix (ix_tupK (K := K) rfl) (pv 0) pe_int (fun _ _ => rfl)))
      (pss_cons
      (ps_if (pt_cmpR (op_inK (K := K) rfl) (pv 2) (pe_tup (pa_cons pe_str (pa_cons pe_str pa_nil))) (by rfl)) (pss_one
      (ps_ret (pe_tup (pa_cons (pe_ix (ix_listK (K := K) rfl) (pe_lst (pa_cons pe_str (pa_cons pe_str pa_nil))) (pe_callTy call_int1 (by rfl) T.z_int (by decide +kernel) (pa_cons (pe_cmpR op_eq (pe_cmpR op_eq (pv 2) pe_str (nomark _)) (pv 1) (nomark _)) pa_nil)) (fun _ _ => rfl)) pa_nil)))) pss_nil)
      (pss_cons
      (ps_if (pt_cmpR op_eq (pv 2) pe_str (nomark _)) (pss_cons
      (ps_if (pt_val (pv 1)) (pss_one
      (ps_ret (pv 0))) pss_nil)
      (pss_one
      (ps_ret (pe_tup (pa_cons pe_str (pa_cons (pv 0) pa_nil)))))) pss_nil)
      (pss_cons
      (ps_if (pt_cmpR op_eq (pe_callB (call_lenK (K := K) rfl) (by rfl) T.z_len PySem.boot_len (pa_cons (pv 0) pa_nil)) pe_int (nomark _)) (pss_one
      (ps_ret (C8.pe_c C_law_form_one hr (by omega) (by rfl) (pa_cons (pv 2) (pa_cons (pe_ix (ix_tupK (K := K) rfl) (pv 0) pe_int (fun _ _ => rfl)) (pa_cons (pv 1) pa_nil)))))) pss_nil)
      (pss_one
      (ps_ret (C8.pe_c C_law_form_two hr (by omega) (by rfl) (pa_cons (pv 2) (pa_cons (pe_ix (ix_tupK (K := K) rfl) (pv 0) pe_int (fun _ _ => rfl)) (pa_cons (pe_ix (ix_tupK (K := K) rfl) (pv 0) pe_int (fun _ _ => rfl)) (pa_cons (pv 1) pa_nil))))))))))), ?_⟩
    cases f with
    | c0 k =>
      obtain ⟨a, rfl, ha⟩ := hf
      refine ⟨_, rfl, a, _, _, _, rfl, rfl, ha, rfl, ?_⟩
      refine ⟨_, rfl, sz2, fun t ht => inq (ss := ["true", "false"]) (.of upd_same) ⟨_, rfl, ?_⟩⟩
      rw [decide_eq_true (show k ∈ (["true", "false"] : List Str) by
        rcases hw with rfl | rfl <;> decide)]
      refine iteT ⟨sz2, fun t2 ht2 => ⟨_, rfl, rfl, _, rfl, rfl, .inr ⟨_, rfl, t2, _, _, _, rfl, rfl, .of upd_same, at2 _ _ _, sz1, fun p hp => ?_⟩⟩⟩
      have s2 := (same_new (o := .tup [.str "true", .str "false"]) ht).trans (same_new (o := .lst [.str "false", .str "true"]) ht2)
      refine q _ _ (s2.trans (same_new hp)) ?_
      have e : Fm.c0 (if decide (V.bl (decide (V.str k = V.str "true")) = V.bl b) = true then "true" else "false") = lf b (.c0 k) := by
        rcases hw with rfl | rfl <;> cases b <;> rfl
      rw [← e]
      exact fm0 upd_same
    | sg s =>
      obtain ⟨a, rfl, ha⟩ := hf
      refine ⟨_, rfl, a, _, _, _, rfl, rfl, ha, rfl, ?_⟩
      refine ⟨_, rfl, sz2, fun t ht => inq (ss := ["true", "false"]) (.of upd_same) ⟨_, rfl, iteF ?_⟩⟩
      have s2 := same_new (o := .tup [.str "true", .str "false"]) ht
      have g2 : FmAt K (upd H t (.tup [.str "true", .str "false"])) (.ref a) (.sg s) := ⟨a, rfl, sqt_same s2 ha⟩
      refine ⟨_, rfl, rfl, _, rfl, iteT ?_⟩
      cases b with
      | true =>
        refine ⟨_, rfl, _, rfl, iteT ?_⟩
        exact ⟨_, rfl, q _ _ s2 g2⟩
      | false =>
        refine ⟨_, rfl, _, rfl, iteF ⟨_, rfl, sz2, fun p hp => ?_⟩⟩
        exact q _ _ (s2.trans (same_new hp)) (fm1 upd_same (g2.same (same_new hp)))
    | un k g =>
      obtain ⟨a, x, rfl, ha, hx⟩ := hf
      have hd : dpt g + 1 ≤ n := hd
      have nz : (decide (V.str k = V.str "signal")) = false := decide_eq_false fun z => un_ne hw.1 (V.str.inj z)
      refine ⟨_, rfl, a, _, _, _, rfl, rfl, ha, rfl, ?_⟩
      refine ⟨_, rfl, sz2, fun t ht => inq (ss := ["true", "false"]) (.of upd_same) ⟨_, rfl, ?_⟩⟩
      have s2 := same_new (o := .tup [.str "true", .str "false"]) ht
      have ha2 := sqt_same s2 ha
      have hx2 := hx.same s2
      rw [decide_eq_false (un_nin k hw.1)]
      refine iteF ⟨_, rfl, rfl, _, rfl, ?_⟩
      rw [nz]
      refine iteF ⟨_, rfl, a, _, rfl, .inr ha2, rfl, _, rfl, iteT ?_⟩
      refine ⟨_, rfl, _, rfl, a, _, _, _, rfl, rfl, ha2, rfl, _, rfl, k, x, g, nm, b, rfl, hw.1, hx2, hw.2, hd, fun H2 v2 s3 F2 => q _ _ (s2.trans s3) F2⟩
    | bin k g g2 =>
      obtain ⟨a, x, z, rfl, ha, hx, hz⟩ := hf
      have hd : max (dpt g) (dpt g2) + 1 ≤ n := hd
      have nz : (decide (V.str k = V.str "signal")) = false := decide_eq_false fun z => bin_ne hw.1 (V.str.inj z)
      refine ⟨_, rfl, a, _, _, _, rfl, rfl, ha, rfl, ?_⟩
      refine ⟨_, rfl, sz2, fun t ht => inq (ss := ["true", "false"]) (.of upd_same) ⟨_, rfl, ?_⟩⟩
      have s2 := same_new (o := .tup [.str "true", .str "false"]) ht
      have ha2 := sqt_same s2 ha
      rw [decide_eq_false (bin_nin k hw.1)]
      refine iteF ⟨_, rfl, rfl, _, rfl, ?_⟩
      rw [nz]
      refine iteF ⟨_, rfl, a, _, rfl, .inr ha2, rfl, _, rfl, iteF ?_⟩
      refine ⟨_, rfl, _, rfl, a, _, _, _, rfl, rfl, ha2, rfl, _, rfl, a, _, _, _, rfl, rfl, ha2, rfl, _, rfl, k, x, z, g, g2, nm, b, rfl, hw.1, hx.same s2, hz.same s2, hw.2.1, hw.2.2, by omega, by omega, fun H2 v2 s3 F2 => q _ _ (s2.trans s3) F2⟩
theorem cal_lf (T : Txt K mg w) : ∀ n, C8.Cal P w K mg base (1 + 3 * n) "_law_form" (spLF K n) []
  | 0 => by
    obtain ⟨f, fd, F, hm, hb⟩ := T.h_law_form
    exact ⟨f, fd, _, [], ⟨fun vs H Q E h => h.elim, fun A outer s H args us vs Q E _ _ _ _ h => h.elim⟩, hm, F.kp, hb, .nil⟩
  | n + 1 => cal_lf_step T (cal_lf T n)
theorem cutv_from (xs : List V) {n : Nat} (hn : n ≤ xs.length) : cutV xs (some (n : Int)) none = xs.drop n := by
  unfold cutV
  rw [HT.sIx_none, HT.sIx_nat, Nat.min_eq_left hn]
  exact List.take_of_length_le (by rw [List.length_drop]; exact Nat.le_refl _)
theorem fm_parts {K : PySem.W.Frag} {H : Hp} : ∀ {f : Fm} {v : V}, FmAt K H v f → (∀ s, f ≠ .sg s) → ∃ a xs, v = .ref a ∧ SqT K H a (.str (kd f) :: xs) ∧ FmsAt K H xs (kids f)
  | .c0 _, _, ⟨a, h1, h2⟩, _ => ⟨a, [], h1, h2, trivial⟩
  | .sg s, _, _, n => absurd rfl (n s)
  | .un _ _, _, ⟨a, x, h1, h2, h3⟩, _ => ⟨a, [x], h1, h2, h3, trivial⟩
  | .bin _ _ _, _, ⟨a, x, y, h1, h2, h3, h4⟩, _ => ⟨a, [x, y], h1, h2, h3, h4, trivial⟩
theorem tail_q {K : PySem.W.Frag} {H : Hp} {a : Addr} {x : V} {xs : List V} {Q : VK} (h : SqT K H a (x :: xs)) (q : ∀ p, H p = none → Q (.ref p) (upd H p (.tup xs))) : rSlA K (.ref a) (some 1) none H Q := by
  refine ⟨a, x :: xs, rfl, h, fun z => ?_, fun _ p hp => ?_⟩
  · have e : HT.sIx (x :: xs).length 0 (some ((1 : Nat) : Int)) = 0 := z.1
    rw [HT.sIx_nat, List.length_cons] at e
    omega
  · rw [show cutV (x :: xs) (some 1) none = xs from cutv_from (x :: xs) (n := 1) (by simp)]
    exact q p hp
theorem kids_dpt {f g : Fm} {n : Nat} (h : dpt f ≤ n + 1) (m : g ∈ kids f) : dpt g ≤ n := by
  cases f with
  | c0 _ => cases m
  | sg _ => cases m
  | un k f => rw [List.mem_singleton.mp m]; exact Nat.le_of_succ_le_succ h
  | bin k f f2 =>
    have h : max (dpt f) (dpt f2) + 1 ≤ n + 1 := h
    rcases List.mem_cons.mp m with e | e
    · rw [e]; omega
    · rw [List.mem_singleton.mp e]; omega
theorem fm3 : ∀ f : Fm, (∃ k, f = .c0 k) ∨ (∃ s, f = .sg s) ∨ (kids f ≠ [] ∧ ∀ s, f ≠ .sg s)
  | .c0 k => .inl ⟨k, rfl⟩
  | .sg s => .inr (.inl ⟨s, rfl⟩)
  | .un k f => .inr (.inr ⟨by simp [kids], fun s z => by (cases z)⟩)
  | .bin k f g => .inr (.inr ⟨by simp [kids], fun s z => by (cases z)⟩)
theorem fm_kids {K : PySem.W.Frag} {H : Hp} {v : V} : ∀ {f : Fm}, FmAt K H v f → (∀ s, f ≠ .sg s) → ∃ a xs, v = .ref a ∧ SqT K H a (.str (kd f) :: xs) ∧ FmsAt K H xs (kids f)
  | .c0 _, ⟨a, h1, h2⟩, _ => ⟨a, [], h1, h2, trivial⟩
  | .sg s, _, z => absurd rfl (z s)
  | .un _ _, ⟨a, x, h1, h2, h3⟩, _ => ⟨a, [x], h1, h2, h3, trivial⟩
  | .bin _ _ _, ⟨a, x, y, h1, h2, h3, h4⟩, _ => ⟨a, [x, y], h1, h2, h3, h4, trivial⟩
theorem wo_kids {nm : List Str} : ∀ {f : Fm}, Wo nm f → kids f ≠ [] → kd f ∈ unOps ++ binOps ∧ ∀ g ∈ kids f, Wo nm g
  | .c0 _, _, z => absurd rfl z
  | .sg _, _, z => absurd rfl z
  | .un _ f, h, _ => ⟨List.mem_append_left _ h.1, fun g m => by rw [List.mem_singleton.mp m]; exact h.2⟩
  | .bin _ f f2, h, _ => ⟨List.mem_append_right _ h.1, fun g m => by
    rcases List.mem_cons.mp m with e | e
    · rw [e]; exact h.2.1
    · rw [List.mem_singleton.mp e]; exact h.2.2⟩
theorem kids_few : ∀ f : Fm, (kids f).length ≤ 2
  | .c0 _ => by simp [kids]
  | .sg _ => by simp [kids]
  | .un _ _ => by simp [kids]
  | .bin _ _ _ => by simp [kids]
theorem cntK_app (ks : List Str) (a b : List Fm) : cntK ks (a ++ b) = cntK ks a + cntK ks b := by
  unfold cntK
  rw [List.filter_append, List.length_append]
theorem cntK_one (ks : List Str) (g : Fm) : cntK ks [g] = if kd g ∈ ks then 1 else 0 := by
  unfold cntK
  by_cases c : kd g ∈ ks
  · rw [if_pos c]
    simp [c]
  · rw [if_neg c]
    simp [c]
abbrev pl5 : List Str := ["not", "and", "or", "implies", "iff"]
theorem pl_tp : ∀ k ∈ unOps ++ binOps, (k ∈ pl5 ↔ k ∉ tpK) := by decide
theorem ops_ne : ∀ k ∈ unOps ++ binOps, k ≠ sSig := by decide
def spLT (K : PySem.W.Frag) : Nat → Sp
  | 0 => fun _ _ _ _ => False
  | n + 1 => fun vs H Q _ => ∃ (v : V) (f : Fm) (nm : List Str), vs = [v] ∧ FmAt K H v f ∧ Wo nm f ∧ dpt f ≤ n ∧ ∀ H', Same H H' → Q (.int (cntK tpK (pre f) : Nat)) H'
theorem cal_lt_step {n : Nat} (T : Txt K mg w) (C_law_temporal : C8.Cal P w K mg base (1 + n) "_law_temporal" (spLT K n) []) : C8.Cal P w K mg base (1 + n + 1) "_law_temporal" (spLT K (n + 1)) [] := by
  obtain ⟨f, fd, F, hm, hb⟩ := T.h_law_temporal
  refine ⟨f, fd, _, [], F.ok sc_law_temporal (fun vs H Q E h => ?_) (fun cdv A outer s H vs Q E hr h => ?_), hm, F.kp, hb, .nil⟩
  · obtain ⟨v, f, nm, rfl, _⟩ := h
    rfl
  · obtain ⟨v, f, nm, rfl, hf, hw, hd, q⟩ := h
    refine ⟨_, (pss_cons
      (ps_if (PW.pt (pw_or (pt_cmpR op_eq (pe_callB (call_lenK (K := K) rfl) (by rfl) T.z_len PySem.boot_len (pa_cons (pv 0) pa_nil)) pe_int (nomark _)) (pw_or1 (pt_cmpR op_eq (pe_ix (ix_tupK (K := K) rfl) (pv 0) pe_int (fun _ _ => rfl)) pe_str (nomark _))))) (pss_one
      (ps_ret pe_int)) pss_nil)
      (pss_cons
      (ps_set (i := 1) sc_law_temporal.nd rfl (Or.inl rfl) pe_int)
      (C8.pss_cut
      (ps_if (pt_cmpR (op_inK (K := K) rfl) (pe_ix (ix_tupK (K := K) rfl) (pv 0) pe_int (fun _ _ => rfl)) (pe_tup (pa_cons pe_str (pa_cons pe_str (pa_cons pe_str (pa_cons pe_str (pa_cons pe_str pa_nil)))))) (by rfl)) (pss_one
      (ps_set (i := 1) sc_law_temporal.nd rfl (Or.inl rfl) pe_int)) pss_nil)
      (pss_cons
      (ps_for PassesOwn.never rfl (pi_tup (pe_slice (sl_tupK (K := K) rfl) (pv 0) (po_some pe_int) po_none)) (pg_name (i := 2) sc_law_temporal.nd rfl (.inl rfl)) (pss_one
      (ps_set (i := 1) sc_law_temporal.nd rfl (Or.inl rfl) (pe_op op_add (pv 1) (C8.pe_c C_law_temporal hr (by omega) (by rfl) (pa_cons (pv 2) pa_nil))))))
      (pss_one
      (ps_ret (pv 1))))))), ?_⟩
    rcases fm3 f with ⟨k, rfl⟩ | ⟨s, rfl⟩ | ⟨hk, hns⟩
    · obtain ⟨a, rfl, ha⟩ := hf
      refine ⟨_, rfl, a, _, rfl, .inr ha, rfl, _, rfl, iteT ?_⟩
      have e : cntK tpK (pre (.c0 k)) = 0 := by
        show cntK tpK [.c0 k] = 0
        rw [cntK_one, if_neg]
        rcases hw with rfl | rfl <;> decide
      have := q H (Same.refl H)
      rw [e] at this
      exact this
    · obtain ⟨a, rfl, ha⟩ := hf
      refine ⟨_, rfl, a, _, rfl, .inr ha, rfl, _, rfl, iteF ⟨_, rfl, a, _, _, _, rfl, rfl, ha, rfl, rfl, _, rfl, iteT ?_⟩⟩
      have e : cntK tpK (pre (.sg s)) = 0 := by
        show cntK tpK [.sg s] = 0
        rw [cntK_one, if_neg (by show sSig ∉ tpK; decide)]
      have := q H (Same.refl H)
      rw [e] at this
      exact this
    · obtain ⟨a, xs, rfl, ha, hxs⟩ := fm_kids hf hns
      obtain ⟨hop, hwk⟩ := wo_kids hw hk
      have hl := hxs.len
      have hkl : 0 < (kids f).length := List.length_pos_iff.mpr hk
      have nz : (decide (V.str (kd f) = V.str "signal")) = false := decide_eq_false fun z => ops_ne _ hop (V.str.inj z)
      have h0 : atI (V.str (kd f) :: xs) 0 = some (V.str (kd f)) := atI_nat (j := 0) rfl
      refine ⟨_, rfl, a, _, rfl, .inr ha, rfl, _, rfl, ite_eq (fun c => ?_) (fun _ => ?_)⟩
      · rw [List.length_cons] at c
        omega
      · refine ⟨_, rfl, a, _, _, _, rfl, rfl, ha, h0, rfl, _, rfl, ?_⟩
        rw [nz]
        refine iteF ?_
        refine ⟨fun σ H' => σ = [some (.ref a), some (.int ((if kd f ∈ tpK then 1 else 0 : Nat) : Int)), none] ∧ Same H H', ?_, ?_⟩
        · refine ⟨_, rfl, a, _, _, _, rfl, rfl, ha, h0, by show 5 ≤ sizeLine; decide, fun t ht => inq (ss := pl5) (.of upd_same) ⟨_, rfl, ite2 (fun c => ?_) (fun c => ?_)⟩⟩
          · have hn := (pl_tp _ hop).mp (of_decide_eq_true c)
            refine ⟨?_, same_new ht⟩
            rw [if_neg hn]
            rfl
          · have hn : kd f ∈ tpK := Decidable.not_not.mp fun z => c (decide_eq_true ((pl_tp _ hop).mpr z))
            refine ⟨?_, same_new ht⟩
            rw [if_pos hn]
            rfl
        · rintro σ H2 ⟨rfl, s2⟩
          refine ⟨_, rfl, _, rfl, ?_⟩
          walk_at "nl"
          refine tail_q (sqt_same s2 ha) fun p hp => ?_
          have s3 := s2.trans (same_new (o := .tup xs) hp)
          refine ⟨p, rfl, ⟨_, .of upd_same⟩, for_tup (xs := xs) (fun i σ H3 => ∃ (v2 : Option V), σ = [some (.ref a), some (.int (((if kd f ∈ tpK then 1 else 0 : Nat) + cntK tpK (((kids f).take i).map pre).flatten : Nat) : Int)), v2] ∧ Same H H3 ∧ H3 p = some (.tup xs)) ⟨none, rfl, s3, upd_same⟩ (fun i σ H3 _ ⟨_, _, _, z⟩ => .of z) ?_ ?_⟩
          · rintro i y σ H3 hi ⟨v2, rfl, s4, e4⟩
            obtain ⟨g, hg, hy⟩ := hxs.get hi
            have hm := List.mem_of_getElem? hg
            have hdk := fun n' (e : n = n' + 1) => kids_dpt (n := n') (f := f) (g := g) (by omega) hm
            obtain ⟨n', rfl⟩ : ∃ n', n = n' + 1 := by
              cases n with
              | succ n' => exact ⟨n', rfl⟩
              | zero =>
                exfalso
                cases f with
                | c0 _ => exact hk rfl
                | sg _ => exact hk rfl
                | un _ _ => exact absurd hd (Nat.not_succ_le_zero _)
                | bin _ _ _ => exact absurd hd (Nat.not_succ_le_zero _)
            refine ⟨_, rfl, _, rfl, y, g, nm, rfl, hy.same s4, hwk g hm, hdk n' rfl, fun H5 s5 => ⟨_, _, rfl, rfl, some y, ?_, s4.trans s5, s5 _ _ e4⟩⟩
            have et : (((kids f).take (i + 1)).map pre).flatten = (((kids f).take i).map pre).flatten ++ pre g := by
              rw [List.take_add_one, hg, List.map_append, List.flatten_append]
              congr 1
              show List.flatten [pre g] = pre g
              rw [List.flatten_singleton]
            rw [et, cntK_app]
            have e : ∀ x y z : Nat, (x : Int) + (y : Int) + (z : Int) = ((x + (y + z) : Nat) : Int) := fun x y z => by omega
            rw [← e, Int.natCast_add]
            rfl
          · rintro σ H3 ⟨v2, rfl, s4, e4⟩
            have e : (if kd f ∈ tpK then 1 else 0) + cntK tpK (((kids f).take xs.length).map pre).flatten = cntK tpK (pre f) := by
              rw [hl, List.take_length, pre_kids f, ← cntK_one tpK f, ← cntK_app]
              rfl
            rw [e]
            exact ⟨_, rfl, q H3 s4⟩
theorem cal_lt (T : Txt K mg w) : ∀ n, C8.Cal P w K mg base (1 + n) "_law_temporal" (spLT K n) []
  | 0 => by
    obtain ⟨f, fd, F, hm, hb⟩ := T.h_law_temporal
    exact ⟨f, fd, _, [], ⟨fun vs H Q E h => h.elim, fun A outer s H args us vs Q E _ _ _ _ h => h.elim⟩, hm, F.kp, hb, .nil⟩
  | n + 1 => cal_lt_step T (cal_lt T n)
theorem mem_sgs {z : Str} : ∀ {l : List Fm}, z ∈ sgs l ↔ Fm.sg z ∈ l
  | [] => by simp [sgs]
  | .sg s :: r => by
    show z ∈ s :: sgs r ↔ _
    rw [List.mem_cons, List.mem_cons, mem_sgs (l := r)]
    exact ⟨fun h => h.imp (fun e => by rw [e]) id, fun h => h.imp (fun e => by cases e; rfl) id⟩
  | .c0 _ :: r => by
    show z ∈ sgs r ↔ _
    rw [List.mem_cons, mem_sgs (l := r)]
    exact ⟨.inr, fun h => h.elim (fun e => by cases e) id⟩
  | .un _ _ :: r => by
    show z ∈ sgs r ↔ _
    rw [List.mem_cons, mem_sgs (l := r)]
    exact ⟨.inr, fun h => h.elim (fun e => by cases e) id⟩
  | .bin _ _ _ :: r => by
    show z ∈ sgs r ↔ _
    rw [List.mem_cons, mem_sgs (l := r)]
    exact ⟨.inr, fun h => h.elim (fun e => by cases e) id⟩
theorem nodup_len {l ss : List Str} (nd : l.Nodup) (h : ∀ z ∈ l, z ∈ ss) : l.length ≤ ss.length := by
  rcases Nat.lt_or_ge ss.length l.length with c | c
  · rw [(Sxt.perm_of_sub l ss nd h (Nat.le_of_lt c)).length_eq]
    exact Nat.le_refl _
  · exact c
theorem wo_kd {nm : List Str} : ∀ {f : Fm}, Wo nm f → (∀ s, f ≠ .sg s) → kd f ≠ sSig
  | .c0 k, h, _ => by
    rcases h with rfl | rfl
    · decide
    · decide
  | .sg s, _, z => absurd rfl (z s)
  | .un k f, h, _ => un_ne h.1
  | .bin k f g, h, _ => bin_ne h.1
theorem sz_kid : ∀ {f g : Fm}, g ∈ kids f → sz g ≤ sz f
  | .c0 _, _, m => by cases m
  | .sg _, _, m => by cases m
  | .un k f, g, m => by
    rw [List.mem_singleton.mp m]
    exact Nat.le_succ _
  | .bin k f f2, g, m => by
    rcases List.mem_cons.mp m with e | e
    · rw [e]
      show sz f ≤ sz f + sz f2 + 1
      omega
    · rw [List.mem_singleton.mp e]
      show sz f2 ≤ sz f + sz f2 + 1
      omega
def spUs (K : PySem.W.Frag) : Nat → Sp
  | 0 => fun _ _ _ _ => False
  | n + 1 => fun vs H Q _ => ∃ (v : V) (na : Addr) (f : Fm) (nm : List Str), vs = [v, .ref na] ∧ FmAt K H v f ∧ Wo nm f ∧ dpt f ≤ n ∧ sz f ≤ 1000 ∧ H na = some (.lst (nm.map V.str)) ∧ nm.length ≤ 30 ∧ nm.Nodup ∧
    ∀ (H' : Hp) (p : Addr) (us : List Str), H p = none → Same H H' → H' p = some (.lst (us.map V.str)) → us.Nodup → (∀ z, z ∈ us ↔ z ∈ sgs (pre f)) → Q (.ref p) H'
theorem cal_us_step {n : Nat} (T : Txt K mg w) (C_law_used : C8.Cal P w K mg base (1 + n) "_law_used" (spUs K n) []) : C8.Cal P w K mg base (1 + n + 1) "_law_used" (spUs K (n + 1)) [] := by
  obtain ⟨f, fd, F, hm, hb⟩ := T.h_law_used
  refine ⟨f, fd, _, [], F.ok sc_law_used (fun vs H Q E h => ?_) (fun cdv A outer s H vs Q E hr h => ?_), hm, F.kp, hb, .nil⟩
  · obtain ⟨v, na, f, nm, rfl, _⟩ := h
    rfl
  · obtain ⟨v, na, f, nm, rfl, hf, hw, hd, hz, hn, hnl, hnd, q⟩ := h
    refine ⟨_, (pss_cons
      (ps_if (pt_cmpR op_eq (pe_ix (ix_tupK (K := K) rfl) (pv 0) pe_int (fun _ _ => rfl)) pe_str (nomark _)) (pss_one
      (ps_ret (pe_lc (own := [("name", 4)]) (g := gName 4) rfl sc_law_used.nd (pi_list (pv 1)) (blkOk_by (N := N_law_used) (sc := defScope s_law_used) (by decide +kernel)) (fun _ _ _ _ _ => (pg_name (i := 4) sc_law_used.nd rfl (Or.inl rfl))) (fun _ _ _ _ _ => (pts_one (pt_cmpR op_eq (pv 4) (pe_ix (ix_tupK (K := K) rfl) (pv 0) pe_int (fun _ _ => rfl)) (nomark _)))) (fun _ _ _ _ _ => (pv 4))))) pss_nil)
      (pss_cons
      (ps_set (i := 2) sc_law_used.nd rfl (Or.inl rfl) (pe_lst pa_nil))
      (pss_cons
      (ps_for PassesOwn.never rfl (pi_tup (pe_slice (sl_tupK (K := K) rfl) (pv 0) (po_some pe_int) po_none)) (pg_name (i := 3) sc_law_used.nd rfl (.inl rfl)) (pss_one
      (ps_for PassesOwn.never rfl (pi_list (C8.pe_c C_law_used hr (by omega) (by rfl) (pa_cons (pv 3) (pa_cons (pv 1) pa_nil)))) (pg_name (i := 4) sc_law_used.nd rfl (.inl rfl)) (pss_one
      (ps_if (pt_cmpR (op_notInK (K := K) rfl) (pv 4) (pv 2) (by rfl)) (pss_one
      (ps_expr (pe_bm PySem.F.plainAttrs_list PySem.F.slot_list_append PySem.F.type_list_append mt_append (pv 2) (pa_cons (pv 4) pa_nil)))) pss_nil)))))
      (pss_one
      (ps_ret (pv 2)))))), ?_⟩
    by_cases hs : ∃ s, f = .sg s
    · obtain ⟨s, rfl⟩ := hs
      obtain ⟨a, rfl, ha⟩ := hf
      refine ⟨_, rfl, a, _, _, _, rfl, rfl, ha, rfl, rfl, _, rfl, iteT ?_⟩
      refine ⟨_, rfl, na, rfl, ⟨_, .of hn⟩, fun D hD => lc_list (K := K) (a := na) (xs := nm.map V.str) (fun i H2 => Same H H2 ∧ H2 D = some (.lst (((nm.take i).filter (fun z => decide (z = s))).map V.str))) ⟨same_new hD, upd_same⟩ (fun i H2 _ ⟨s2, _⟩ => .of (s2 _ _ hn)) ?_ ?_⟩
      · rintro i x H2 hi ⟨s2, e2⟩
        obtain ⟨z, hzi, rfl⟩ : ∃ z, nm[i]? = some z ∧ x = V.str z := by
          rw [List.getElem?_map] at hi
          cases e : nm[i]? with
          | none => rw [e] at hi; cases hi
          | some t => rw [e] at hi; exact ⟨t, rfl, (Option.some.inj hi).symm⟩
        have et : nm.take (i + 1) = nm.take i ++ [z] := by rw [List.take_add_one, hzi]; rfl
        have hlu : ((nm.take i).filter (fun z => decide (z = s))).length ≤ 1000 := by
          have h1 := List.length_filter_le (fun z => decide (z = s)) (nm.take i)
          rw [List.length_take] at h1
          omega
        refine ⟨rfl, _, rfl, _, rfl, a, _, _, _, rfl, rfl, sqt_same s2 ha, rfl, rfl, _, rfl, ite2 (fun c => ?_) (fun c => ?_)⟩
        · have ez : z = s := V.str.inj (of_decide_eq_true c)
          have e1 : List.filter (fun z => decide (z = s)) [z] = [z] := by simp [ez]
          refine ⟨_, rfl, _, e2, by rw [List.length_map]; exact Nat.lt_of_le_of_lt hlu (by decide), fun c2 u hc => ?_, ?_⟩
          · rw [upd_ne (ne_of_none hc hD)]
            exact s2 _ _ hc
          · rw [upd_same, et, List.filter_append, e1, List.map_append]
            rfl
        · have ez : z ≠ s := fun e => c (decide_eq_true (congrArg V.str e))
          have e1 : List.filter (fun z => decide (z = s)) [z] = [] := by simp [ez]
          refine ⟨s2, ?_⟩
          rw [et, List.filter_append, e1, List.append_nil]
          exact e2
      · rintro H2 ⟨s2, e2⟩
        rw [List.length_map, List.take_length] at e2
        refine q H2 D _ hD s2 e2 (hnd.filter _) fun z => ?_
        rw [mem_sgs]
        show _ ↔ Fm.sg z ∈ [Fm.sg s]
        rw [List.mem_filter, decide_eq_true_iff, List.mem_singleton]
        exact ⟨fun h => by rw [h.2], fun e => by cases e; exact ⟨hw, rfl⟩⟩
    · have hns : ∀ s, f ≠ .sg s := fun s e => hs ⟨s, e⟩
      obtain ⟨a, xs, rfl, ha, hxs⟩ := fm_parts hf hns
      have hl := hxs.len
      have nz : (decide (V.str (kd f) = V.str "signal")) = false := decide_eq_false fun z => wo_kd hw hns (V.str.inj z)
      have h0 : atI (V.str (kd f) :: xs) 0 = some (V.str (kd f)) := atI_nat (j := 0) rfl
      refine ⟨_, rfl, a, _, _, _, rfl, rfl, ha, h0, rfl, _, rfl, ?_⟩
      rw [nz]
      refine iteF ⟨by show 0 ≤ sizeLine; decide, fun o ho => ?_⟩
      have s1 := same_new (o := .lst []) ho
      refine ⟨_, rfl, _, rfl, ?_⟩
      walk_at "nl"
      refine tail_q (sqt_same s1 ha) fun p hp => ?_
      have npo : p ≠ o := fun e => by rw [e, upd_same] at hp; cases hp
      have s3 := s1.trans (same_new (o := .tup xs) hp)
      have hmem : ∀ {g : Fm} {z : Str}, g ∈ kids f → z ∈ sgs (pre g) → z ∈ sgs (pre f) := fun {g z} m h => by
        rw [mem_sgs] at h ⊢
        rw [pre_kids f]
        exact List.mem_cons_of_mem _ (List.mem_flatten.mpr ⟨_, List.mem_map.mpr ⟨g, m, rfl⟩, h⟩)
      have hsub : ∀ {i : Nat} {z : Str}, z ∈ sgs (((kids f).take i).map pre).flatten → z ∈ sgs (pre f) := fun {i z} h => by
        rw [mem_sgs] at h
        obtain ⟨l, hl, hm⟩ := List.mem_flatten.mp h
        obtain ⟨g, hg, rfl⟩ := List.mem_map.mp hl
        exact hmem (List.mem_of_mem_take hg) (mem_sgs.mpr hm)
      have hcap : (sgs (pre f)).length ≤ 1000 := by
        have := sgs_len (pre f)
        rw [pre_len] at this
        omega
      refine ⟨p, rfl, ⟨_, .of upd_same⟩, for_tup (xs := xs) (fun i σ H3 => ∃ (us : List Str) (v3 v4 : Option V), σ = [some (.ref a), some (.ref na), some (.ref o), v3, v4] ∧ Same H H3 ∧ H3 p = some (.tup xs) ∧ H3 o = some (.lst (us.map V.str)) ∧ us.Nodup ∧ ∀ z, z ∈ us ↔ z ∈ sgs (((kids f).take i).map pre).flatten)
        ⟨[], none, none, rfl, s3, upd_same, by rw [upd_ne npo.symm, upd_same]; rfl, List.nodup_nil, fun z => by simp [sgs]⟩ (fun i σ H3 _ ⟨_, _, _, _, _, z, _⟩ => .of z) ?_ ?_⟩
      · rintro i y σ H3 hi ⟨us, v3, v4, rfl, s4, e4, eo, nd, hus⟩
        obtain ⟨g, hg, hy⟩ := hxs.get hi
        have hmk := List.mem_of_getElem? hg
        have hwg := (wo_kids hw (List.ne_nil_of_mem hmk)).2 g hmk
        have hdk := fun n' (e : n = n' + 1) => kids_dpt (n := n') (f := f) (g := g) (by omega) hmk
        obtain ⟨n', rfl⟩ : ∃ n', n = n' + 1 := by
          cases n with
          | succ n' => exact ⟨n', rfl⟩
          | zero =>
            exfalso
            cases f with
            | c0 _ => cases hmk
            | sg _ => cases hmk
            | un _ _ => exact absurd hd (Nat.not_succ_le_zero _)
            | bin _ _ _ => exact absurd hd (Nat.not_succ_le_zero _)
        have hzg := sz_kid hmk
        refine ⟨_, rfl, _, rfl, y, na, g, nm, rfl, hy.same s4, hwg, hdk n' rfl, by omega, s4 _ _ hn, hnl, hnd, fun H5 r us2 hr5 s5 e5 nd5 m5 => ?_⟩
        have nro : r ≠ o := fun e => by rw [e, eo] at hr5; cases hr5
        have npo3 : p ≠ o := npo
        have hok2 : ∀ z ∈ us2, z ∈ sgs (pre f) := fun z h => hmem hmk ((m5 z).mp h)
        have hok1 : ∀ z ∈ us, z ∈ sgs (pre f) := fun z h => hsub ((hus z).mp h)
        refine ⟨r, rfl, ⟨_, .of e5⟩, for_list (K := K) (a := r) (xs := us2.map V.str) (fun j σ H6 => ∃ (us' : List Str) (v4 : Option V), σ = [some (.ref a), some (.ref na), some (.ref o), some y, v4] ∧ Same H H6 ∧ H6 p = some (.tup xs) ∧ H6 r = some (.lst (us2.map V.str)) ∧ H6 o = some (.lst (us'.map V.str)) ∧ us'.Nodup ∧ ∀ z, z ∈ us' ↔ z ∈ us ∨ z ∈ us2.take j)
          ⟨us, v4, rfl, s4.trans s5, s5 _ _ e4, e5, s5 _ _ eo, nd, fun z => by simp⟩ (fun j σ H6 _ ⟨_, _, _, _, _, z, _⟩ => .of z) ?_ ?_⟩
        · rintro j x σ H6 hj ⟨us', v4', rfl, s6, e6, er6, eo6, nd6, hus6⟩
          obtain ⟨z, hzj, rfl⟩ : ∃ z, us2[j]? = some z ∧ x = V.str z := by
            rw [List.getElem?_map] at hj
            cases e : us2[j]? with
            | none => rw [e] at hj; cases hj
            | some t => rw [e] at hj; exact ⟨t, rfl, (Option.some.inj hj).symm⟩
          have et : us2.take (j + 1) = us2.take j ++ [z] := by rw [List.take_add_one, hzj]; rfl
          have hzm : z ∈ us2 := List.mem_of_getElem? hzj
          have hcl : us'.length ≤ 1000 := Nat.le_trans (nodup_len nd6 fun t ht => ((hus6 t).mp ht).elim (hok1 t) (fun h => hok2 t (List.mem_of_mem_take h))) hcap
          refine ⟨_, rfl, _, rfl, ⟨o, _, rfl, .inl (.of eo6), rfl, L2.flat_strs us', ?_⟩⟩
          rw [in_strs]
          refine ⟨_, rfl, ?_⟩
          by_cases c : z ∈ us'
          · rw [decide_eq_true c]
            refine iteF ⟨us', _, rfl, s6, e6, er6, eo6, nd6, fun t => ?_⟩
            rw [et, List.mem_append, List.mem_singleton, hus6]
            constructor
            · exact fun h => h.imp id .inl
            · rintro (h | h | h)
              · exact .inl h
              · exact .inr h
              · rw [h]; exact (hus6 z).mp c
          · rw [decide_eq_false c]
            refine iteT ?_
            refine ⟨_, rfl, .inl ⟨rfl, _, .of eo6⟩, _, rfl, o, _, .str z, rfl, rfl, eo6, by rw [List.length_map]; exact Nat.lt_of_le_of_lt hcl (by decide), ?_⟩
            refine ⟨us' ++ [z], _, rfl, fun b u hb => ?_, ?_, ?_, ?_, ?_, fun t => ?_⟩
            · rw [upd_ne (ne_of_none hb ho)]
              exact s6 b u hb
            · rw [upd_ne npo3]; exact e6
            · rw [upd_ne nro]; exact er6
            · rw [upd_same, List.map_append]; rfl
            · rw [List.nodup_append]
              exact ⟨nd6, by simp, fun t ht t2 ht2 e => c (by rw [← List.mem_singleton.mp ht2, ← e]; exact ht)⟩
            · rw [et, List.mem_append, List.mem_append, List.mem_singleton, hus6, or_assoc]
        · rintro σ H6 ⟨us', v4', rfl, s6, e6, er6, eo6, nd6, hus6⟩
          rw [List.length_map, List.take_length] at hus6
          refine ⟨us', _, _, rfl, s6, e6, eo6, nd6, fun z => ?_⟩
          rw [hus6, hus, m5, List.take_add_one, hg, List.map_append, List.flatten_append, sgs_app, List.mem_append]
          show _ ↔ _ ∨ z ∈ sgs (List.flatten [pre g])
          rw [List.flatten_singleton]
      · rintro σ H3 ⟨us, v3, v4, rfl, s4, e4, eo, nd, hus⟩
        refine ⟨_, rfl, q H3 o us ho s4 eo nd fun z => ?_⟩
        rw [hus, hl, List.take_length, mem_sgs, mem_sgs, pre_kids f, List.mem_cons]
        exact ⟨.inr, fun h => h.elim (fun e => absurd e.symm (hns z)) id⟩
theorem cal_us (T : Txt K mg w) : ∀ n, C8.Cal P w K mg base (1 + n) "_law_used" (spUs K n) []
  | 0 => by
    obtain ⟨f, fd, F, hm, hb⟩ := T.h_law_used
    exact ⟨f, fd, _, [], ⟨fun vs H Q E h => h.elim, fun A outer s H args us vs Q E _ _ _ _ h => h.elim⟩, hm, F.kp, hb, .nil⟩
  | n + 1 => cal_us_step T (cal_us T n)
/-! a sorted list of texts is determined by what it holds -/
def sle (a b : Str) : Prop := ¬ b.cps.toList < a.cps.toList
theorem sle_trans {a b c : Str} (h : sle a b) (h' : sle b c) : sle a c := fun q => by
  have h1 : a.cps.toList ≤ b.cps.toList := h
  have h2 : b.cps.toList ≤ c.cps.toList := h'
  exact (List.not_lt.mpr (List.le_trans h1 h2)) q
theorem sle_anti {a b : Str} (h : sle a b) (h' : sle b a) : a = b := by
  have h1 : a.cps.toList ≤ b.cps.toList := h
  have h2 : b.cps.toList ≤ a.cps.toList := h'
  have e := List.le_antisymm h1 h2
  cases a
  cases b
  congr 1
  exact Array.toList_inj.mp e
theorem rising_pw : ∀ (l : List Str) (p : Str), PyProof.Rows.risingS p l = true → (p :: l).Pairwise sle
  | [], p, _ => List.pairwise_singleton _ _
  | x :: r, p, h => by
    have h : (!ltCps x.cps.toList p.cps.toList && PyProof.Rows.risingS x r) = true := h
    rw [Bool.and_eq_true] at h
    have ih := rising_pw r x h.2
    have hx : sle p x := fun q => by
      have h1 := h.1
      rw [ltCps_eq, decide_eq_true q] at h1
      cases h1
    refine List.pairwise_cons.mpr ⟨fun y hy => ?_, ih⟩
    rcases List.mem_cons.mp hy with e | e
    · rw [e]; exact hx
    · exact sle_trans hx ((List.pairwise_cons.mp ih).1 y e)
theorem sorted_pw : ∀ {l : List Str}, sortedS l = true → l.Pairwise sle
  | [], _ => List.Pairwise.nil
  | x :: r, h => rising_pw r x h
theorem perm_eq : ∀ {l l' : List Str}, l.Perm l' → l.Pairwise sle → l'.Pairwise sle → l = l'
  | [], l', p, _, _ => (List.nil_perm.mp p).symm
  | x :: r, [], p, _, _ => absurd p.length_eq (by simp)
  | x :: r, y :: r', p, h, h' => by
    have e : x = y := by
      rcases List.mem_cons.mp (p.mem_iff.mp (List.mem_cons_self (a := x) (l := r))) with e | e
      · exact e
      · rcases List.mem_cons.mp (p.mem_iff.mpr (List.mem_cons_self (a := y) (l := r'))) with e2 | e2
        · exact e2.symm
        · exact sle_anti ((List.pairwise_cons.mp h).1 y e2) ((List.pairwise_cons.mp h').1 x e)
    subst e
    rw [perm_eq ((List.perm_cons x).mp p) (List.pairwise_cons.mp h).2 (List.pairwise_cons.mp h').2]
theorem sorted_eq {l l' : List Str} (n : l.Nodup) (n' : l'.Nodup) (m : ∀ z, z ∈ l ↔ z ∈ l') (s : sortedS l = true) (s' : sortedS l' = true) : l = l' :=
  perm_eq (Sxt.perm_of_sub l' l n' (fun z h => (m z).mpr h) (nodup_len n fun z h => (m z).mp h)) (sorted_pw s) (sorted_pw s')
theorem dp_strs {K : PySem.W.Frag} {H : Hp} : ∀ ss : List Str, DpAll K H (ss.map V.str) (ss.map PyData.str)
  | [] => .nil
  | s :: r => .cons (.str s) (dp_strs r)
theorem lay_strs : ∀ {ss : List Str}, (∀ s ∈ ss, PyData.strOk s = true) → PyData.canLay0 (.list (ss.map PyData.str)) = true := by
  have e : ∀ {ss : List Str}, (∀ s ∈ ss, PyData.strOk s = true) → PyData.canLayAll0 (ss.map PyData.str) = true := by
    intro ss
    induction ss with
    | nil => intro _; rfl
    | cons s r ih =>
      intro h
      simp [PyData.canLayAll0, PyData.canLay0, h s List.mem_cons_self, ih fun t ht => h t (List.mem_cons_of_mem _ ht)]
  intro ss h
  rw [PyData.canLay0]
  exact e h
theorem dep_strs (ss : List Str) : PyData.depth (.list (ss.map PyData.str)) ≤ 1 := by
  have e : PyData.depthAll (ss.map PyData.str) = 0 := by
    induction ss with
    | nil => rfl
    | cons s r ih => simp [PyData.depthAll, PyData.depth, ih]
  rw [PyData.depth, e]
  exact Nat.le_refl 1
theorem shaped_strs {ss : List Str} (h : ∀ s ∈ ss, PyData.strOk s = true) : SeqAt.shaped (.list (ss.map PyData.str)) = true := by
  unfold SeqAt.shaped
  have := dep_strs ss
  rw [lay_strs h, decide_eq_true (show PyData.depth (.list (ss.map PyData.str)) ≤ 64 by omega)]
  rfl
theorem cal_isint (T : Txt K mg w) : C8.Cal P w K mg base 1 "_law_is_integer" spIsInt [] := by
  obtain ⟨f, fd, F, hm, hb⟩ := T.h_law_is_integer
  refine ⟨f, fd, _, [], F.ok sc_law_is_integer (fun vs H Q E h => ?_) (fun cdv A outer s H vs Q E hr h => ?_), hm, F.kp, hb, .nil⟩
  · obtain ⟨i, rfl, _⟩ := h
    rfl
  · obtain ⟨i, rfl, q⟩ := h
    refine ⟨_, (pss_one
      (ps_ret (pe_and (pe_callB (call_isiK' (K := K) rfl) (by rfl) T.z_isinstance (by decide +kernel) (pa_cons (pv 0) (pa_cons (pe_bltn (v := .ty "int") (by rfl) T.z_int (by decide +kernel) rfl) pa_nil))) (pe_one (pe_not (pe_callB (call_isiK' (K := K) rfl) (by rfl) T.z_isinstance (by decide +kernel) (pa_cons (pv 0) (pa_cons (pe_bltn (v := .ty "bool") (by rfl) T.z_bool (by decide +kernel) rfl) pa_nil)))))))), ?_⟩
    refine ⟨_, rfl, _, _, _, _, true, rfl, .ty "int", .base (.int i), kit_ty (by decide +kernel), true, rfl, iteT ?_⟩
    exact ⟨_, rfl, _, _, _, _, false, rfl, .ty "bool", .base (.int i), kit_ty (by decide +kernel), false, rfl, q⟩
theorem tyx_sqt {K : PySem.W.Frag} {H : Hp} {a : Addr} {xs : List V} (h : SqT K H a xs) : TyX K H (.ref a) (.type "tuple") := by
  rcases h with (h | ⟨o, h⟩) | ⟨o, its, n, h1, h2, _⟩
  · exact .base (.tup h)
  · exact .fTuple h
  · exact .kTuple h1 h2
abbrev W6 : List Str := ["not", "always", "once", "historically", "weak_previous", "next"]
theorem w6_un : ∀ s, s ∈ W6 → s ∈ unOps := by decide
theorem ok_law {f : Addr} {fd : FuncData} (F : L2.Fun K "law" "law" s_law f fd) (T : Txt K mg w) : FnOk P w K mg base CX0 24 f fd ["script"] (spLaw K) := by
  have C_law_draws : C8.Cal P w K mg base 1 "_law_draws" (spDraws K) [] := cal_draws T
  have C_law_take : C8.Cal P w K mg base 1 "_law_take" spTake [] := cal_take T
  have C_law_names : C8.Cal P w K mg base 3 "_law_names" spNames [] := cal_names T
  have C_law_formula : C8.Cal P w K mg base 6 "_law_formula" (spForm2 K) [] := cal_form2 T
  have C_temporal_count : C8.Cal P w K mg base 4 "temporal_count" (spTmp K) [] := cal_tmp T
  have C_law_is_integer : C8.Cal P w K mg base 1 "_law_is_integer" spIsInt [] := cal_isint T
  have C_law_temporal : C8.Cal P w K mg base 8 "_law_temporal" (spLT K 7) [] := cal_lt T 7
  have C_signal_names : C8.Cal P w K mg base 3 "signal_names" (spSig K) [] := cal_sig T
  have C_law_used : C8.Cal P w K mg base 8 "_law_used" (spUs K 7) [] := cal_us T 7
  have C_normal_form : C8.Cal P w K mg base 12 "normal_form" (spNf K 8) [] := cal_nf T
  have C_law_form : C8.Cal P w K mg base 22 "_law_form" (spLF K 7) [] := cal_lf T 7
  refine F.ok sc_law (fun vs H Q E h => ?_) (fun cdv A outer s H vs Q E hr h => ?_)
  · obtain ⟨a, ns, rfl, _⟩ := h
    rfl
  · obtain ⟨a, ns, rfl, hS, h63, q⟩ := h
    refine ⟨_, (pss_cons
      (ps_set (i := 1) sc_law.nd rfl (Or.inl rfl) (C8.pe_c C_law_draws hr (by decide) (by rfl) (pa_cons (pv 0) (pa_cons pe_int pa_nil))))
      (pss_cons
      (ps_set (i := 2) sc_law.nd rfl (Or.inl rfl) (C8.pe_c C_law_names hr (by decide) (by rfl) (pa_cons (pv 1) (pa_cons (pe_op op_add pe_int (C8.pe_c C_law_take hr (by decide) (by rfl) (pa_cons (pv 1) (pa_cons pe_int pa_nil)))) pa_nil))))
      (pss_cons
      (ps_set (i := 3) sc_law.nd rfl (Or.inl rfl) (C8.pe_c C_law_formula hr (by decide) (by rfl) (pa_cons (pv 1) (pa_cons (pv 2) (pa_cons (C8.pe_c C_law_take hr (by decide) (by rfl) (pa_cons (pv 1) (pa_cons pe_int pa_nil))) (pa_cons (pe_op op_add pe_int (C8.pe_c C_law_take hr (by decide) (by rfl) (pa_cons (pv 1) (pa_cons pe_int pa_nil)))) pa_nil))))))
      (C8.pss_cut
      (ps_if (pt_cmpR op_eq (C8.pe_c C_law_take hr (by decide) (by rfl) (pa_cons (pv 1) (pa_cons pe_int pa_nil))) pe_int (nomark _)) (pss_cons
      (ps_set (i := 4) sc_law.nd rfl (Or.inl rfl) (pe_lst (pa_cons pe_str (pa_cons pe_str (pa_cons pe_str (pa_cons pe_str (pa_cons pe_str (pa_cons pe_str pa_nil))))))))
      (pss_one
      (ps_for PassesOwn.never rfl (pi_range1 (by rfl) T.z_range (pa_cons (C8.pe_c C_law_take hr (by decide) (by rfl) (pa_cons (pv 1) (pa_cons pe_int pa_nil))) pa_nil)) (pg_name (i := 5) sc_law.nd rfl (.inl rfl)) (pss_one
      (ps_set (i := 3) sc_law.nd rfl (Or.inl rfl) (pe_tup (pa_cons (pe_ix (ix_listK (K := K) rfl) (pv 4) (C8.pe_c C_law_take hr (by decide) (by rfl) (pa_cons (pv 1) (pa_cons pe_int pa_nil))) (fun _ _ => rfl)) (pa_cons (pv 3) pa_nil)))))))) pss_nil)
      (pss_cons
      (ps_set (i := 6) sc_law.nd rfl (Or.inl rfl) (C8.pe_c C_temporal_count hr (by decide) (by rfl) (pa_cons (pv 3) pa_nil)))
      (pss_cons
      (ps_if (PW.pt (pw_or (pt_not (pt_val (C8.pe_c C_law_is_integer hr (by decide) (by rfl) (pa_cons (pv 6) pa_nil)))) (pw_or1 (pt_cmpR op_ne (pv 6) (C8.pe_c C_law_temporal hr (by decide) (by rfl) (pa_cons (pv 3) pa_nil)) (nomark _))))) (pss_one
      (ps_ret pe_bl)) pss_nil)
      (pss_cons
      (ps_set (i := 7) sc_law.nd rfl (Or.inl rfl) (C8.pe_c C_signal_names hr (by decide) (by rfl) (pa_cons (pv 3) pa_nil)))
      (pss_cons
      (ps_if (PW.pt (pw_or (pt_not (pt_val (pe_callB (call_isiK' (K := K) rfl) (by rfl) T.z_isinstance (by decide +kernel) (pa_cons (pv 7) (pa_cons (pe_bltn (v := .ty "list") (by rfl) T.z_list (by decide +kernel) rfl) pa_nil))))) (pw_or1 (pt_cmpR (op_neDK (K := K) rfl hr.units) (pv 7) (pe_callB (Sxt.cr_sortedSK (K := K) rfl) (by rfl) T.z_sorted (by decide +kernel) (pa_cons (C8.pe_c C_law_used hr (by decide) (by rfl) (pa_cons (pv 3) (pa_cons (pv 2) pa_nil))) pa_nil)) (nomark _))))) (pss_one
      (ps_ret pe_bl)) pss_nil)
      (pss_cons
      (ps_set (i := 8) sc_law.nd rfl (Or.inl rfl) (C8.pe_c C_normal_form hr (by decide) (by rfl) (pa_cons (pv 3) pa_nil)))
      (pss_one
      (ps_ret (pe_and (pe_callB (call_isiK' (K := K) rfl) (by rfl) T.z_isinstance (by decide +kernel) (pa_cons (pv 8) (pa_cons (pe_bltn (v := .ty "tuple") (by rfl) T.z_tuple (by decide +kernel) rfl) pa_nil))) (pe_one (pe_cmpR (op_eqDK (K := K) rfl hr.units) (pv 8) (C8.pe_c C_law_form hr (by decide) (by rfl) (pa_cons (pv 3) (pa_cons pe_bl pa_nil))) (nomark _))))))))))))))), ?_⟩
    refine ⟨_, rfl, a, ns, 150, rfl, hS, by decide, fun H1 d s1 hd0 hd1 => ?_⟩
    refine ⟨_, rfl, _, rfl, d, 3, rfl, hd1, by decide, fun r ds r0 r1 => ?_⟩
    have d2 : Drw (upd H1 d (.lst (ds.map V.int))) d := Drw.own
    generalize upd H1 d (.lst (ds.map V.int)) = H2 at d2 ⊢
    refine ⟨_, _, rfl, rfl, d, 1 + r, rfl, d2, by omega, by omega, fun H3 n nm k3 d3 nd3 hn3 hnl hok hnd => ?_⟩
    refine ⟨_, rfl, _, rfl, _, rfl, d, 6, rfl, d3, by decide, fun r4 ds4 r40 r41 => ?_⟩
    have k3' : Kp d H3 (upd H3 d (.lst (ds4.map V.int))) := Kp.own
    have d3' : Drw (upd H3 d (.lst (ds4.map V.int))) d := Drw.own
    have hn3' := k3' _ _ nd3 hn3
    generalize upd H3 d (.lst (ds4.map V.int)) = H3' at k3' d3' hn3' ⊢
    refine ⟨_, rfl, d, 2, rfl, d3', by decide, fun r5 ds5 r50 r51 => ?_⟩
    have k3x : Kp d H3' (upd H3' d (.lst (ds5.map V.int))) := Kp.own
    have d3x : Drw (upd H3' d (.lst (ds5.map V.int))) d := Drw.own
    have hn3x := k3x _ _ nd3 hn3'
    generalize upd H3' d (.lst (ds5.map V.int)) = H3x at k3x d3x hn3x ⊢
    refine ⟨_, _, rfl, rfl, ?_⟩
    have key : ∀ (Q' : VK) (E' : XK), (∀ (H' : Hp) (v : V) (g : Fm), Kp d H3x H' → Drw H' d → FmAt K H' v g → Wo nm g → dpt g ≤ 3 → sz g ≤ 15 → Q' v H') → spForm2 K [.ref d, .ref n, .int r4, .int (2 + r5)] H3x Q' E' := fun Q' E' hq => by
      have c : r5 = 0 ∨ r5 = 1 := by omega
      rcases c with rfl | rfl
      · refine .inl ⟨d, n, nm, r4, rfl, d3x, nd3, hn3x, by omega, r40, by omega, fun H' v g k1 k2 k4 k5 k6 => hq H' v g k1 k2 k4 k5 ?_ ?_⟩
        · exact Nat.le_trans k6.2 (by decide)
        · have : sz g + 1 ≤ 8 := k6.1; omega
      · refine .inr ⟨d, n, nm, r4, rfl, d3x, nd3, hn3x, by omega, r40, by omega, fun H' v g k1 k2 k4 k5 k6 => hq H' v g k1 k2 k4 k5 ?_ ?_⟩
        · exact k6.2
        · have : sz g + 1 ≤ 16 := k6.1; omega
    refine key _ _ fun H4 v f k4 d4 f4 w4 dp4 sz4 => ?_
    have hn4 := k4 _ _ nd3 hn3x
    clear key
    refine ⟨fun σ H' => ∃ (v' : V) (g : Fm) (w5 w6 : Option V), σ = [some (.ref a), some (.ref d), some (.ref n), some v', w5, w6, none, none, none] ∧ FmAt K H' v' g ∧ Wo nm g ∧ dpt g ≤ 6 ∧ sz g ≤ 18 ∧ H' n = some (.lst (nm.map V.str)), ?_, ?_⟩
    · refine ⟨_, rfl, d, 3, rfl, d4, by decide, fun u us u0 u1 => ?_⟩
      obtain ⟨ys4, hy4⟩ := id d4
      have k5 : Kp d H4 (upd H4 d (.lst (us.map V.int))) := Kp.own
      have d5 : Drw (upd H4 d (.lst (us.map V.int))) d := Drw.own
      have f5 := f4.kp hy4 k5
      have hn5 := k5 _ _ nd3 hn4
      generalize upd H4 d (.lst (us.map V.int)) = H5 at k5 d5 f5 hn5 ⊢
      refine ⟨rfl, _, rfl, ite_eq (fun c => ?_) (fun c => ?_)⟩
      · refine ⟨by show 6 ≤ sizeLine; decide, fun wa hwa => ?_⟩
        have nwd : wa ≠ d := fun e => by
          obtain ⟨ys5, hy5⟩ := d5
          rw [e, hy5] at hwa
          cases hwa
        have s6 := same_new (o := .lst [.str "not", .str "always", .str "once", .str "historically", .str "weak_previous", .str "next"]) hwa
        have ew : (upd H5 wa (.lst [.str "not", .str "always", .str "once", .str "historically", .str "weak_previous", .str "next"])) wa = some (.lst (W6.map V.str)) := upd_same
        have d6 := d5.new (o := .lst [.str "not", .str "always", .str "once", .str "historically", .str "weak_previous", .str "next"]) hwa
        have f6 := f5.same s6
        have hn6 := s6 _ _ hn5
        generalize upd H5 wa (.lst [.str "not", .str "always", .str "once", .str "historically", .str "weak_previous", .str "next"]) = H6 at s6 ew d6 f6 hn6 ⊢
        refine ⟨_, rfl, d, 4, rfl, d6, by decide, fun m ms m0 m1 => ?_⟩
        obtain ⟨ys6, hy6⟩ := id d6
        have k7 : Kp d H6 (upd H6 d (.lst (ms.map V.int))) := Kp.own
        have d7 : Drw (upd H6 d (.lst (ms.map V.int))) d := Drw.own
        have f7 := f6.kp hy6 k7
        have hn7 := k7 _ _ nd3 hn6
        have ew7 := k7 _ _ nwd ew
        generalize upd H6 d (.lst (ms.map V.int)) = H7 at k7 d7 f7 hn7 ew7 ⊢
        refine ⟨_, rfl, by omega, by omega, for_range (lo := 0) (n := m.toNat) (fun i σ H' => ∃ (v' : V) (g : Fm) (w6 : Option V), σ = [some (.ref a), some (.ref d), some (.ref n), some v', some (.ref wa), w6, none, none, none] ∧ FmAt K H' v' g ∧ Wo nm g ∧ dpt g ≤ 3 + i ∧ sz g ≤ 15 + i ∧ H' n = some (.lst (nm.map V.str)) ∧ H' wa = some (.lst (W6.map V.str)) ∧ Drw H' d)
          ⟨v, f, none, rfl, f7, w4, dp4, sz4, hn7, ew7, d7⟩ ?_ ?_⟩
        · rintro i σ H' hi ⟨v', g, w6, rfl, fg, wg, dg, zg, hn', ew', d'⟩
          refine ⟨_, rfl, _, rfl, d, 6, rfl, d', by decide, fun t ts t0 t1 => ?_⟩
          obtain ⟨ys', hy'⟩ := id d'
          have k8 : Kp d H' (upd H' d (.lst (ts.map V.int))) := Kp.own
          have d8 : Drw (upd H' d (.lst (ts.map V.int))) d := Drw.own
          have f8 := fg.kp hy' k8
          have hn8 := k8 _ _ nd3 hn'
          have ew8 := k8 _ _ nwd ew'
          generalize upd H' d (.lst (ts.map V.int)) = H8 at k8 d8 f8 hn8 ew8 ⊢
          obtain ⟨z, hz, ha⟩ := pick_at (ss := W6) (i := t) t0 (by show t < 6; exact t1)
          refine ⟨wa, _, _, .str z, rfl, rfl, .of ew8, ha, _, rfl, sz2, fun p hp => ?_⟩
          have s9 := same_new (o := .tup [.str z, v']) hp
          refine ⟨_, .un z g, _, rfl, fm1 upd_same (f8.same s9), ⟨w6_un z hz, wg⟩, by show dpt g + 1 ≤ _; omega, by show sz g + 1 ≤ _; omega, s9 _ _ hn8, s9 _ _ ew8, d8.new hp⟩
        · rintro σ H' ⟨v', g, w6, rfl, fg, wg, dg, zg, hn', ew', d'⟩
          exact ⟨v', g, _, _, rfl, fg, wg, by omega, by omega, hn'⟩
      · exact ⟨v, f, none, none, rfl, f5, w4, by omega, by omega, hn5⟩
    · rintro σ H5 ⟨v', g, w5, w6, rfl, f5, wg, dg, zg, hn5⟩
      have hwf := wg.wf
      refine ⟨_, rfl, v', g, nm, rfl, f5, hwf, by omega, fun H6 s6 => ?_⟩
      refine ⟨_, rfl, _, rfl, ⟨_, rfl, iteF ?_⟩⟩
      refine ⟨_, rfl, _, rfl, v', g, nm, rfl, f5.same s6, wg, by omega, fun H7 s7 => ⟨rfl, _, rfl, ?_⟩⟩
      rw [show (!decide (V.int ((cntK tpK (pre g) : Nat) : Int) = V.int ((cntK tpK (pre g) : Nat) : Int))) = false by simp]
      refine iteF ?_
      have s57 := s6.trans s7
      have f7 := f5.same s57
      have hn7 := s57 _ _ hn5
      refine ⟨_, rfl, v', g, nm, rfl, f7, hwf, by omega, fun H8 p ys s8 e8 nd8 m8 so8 l8 => ?_⟩
      refine ⟨_, rfl, _, _, _, _, true, rfl, .ty "list", .base (.lst e8), kit_ty (by decide +kernel), ⟨_, rfl, iteF ?_⟩⟩
      have f8 := f7.same s8
      have hn8 := s8 _ _ hn7
      refine ⟨_, rfl, _, rfl, _, rfl, v', n, g, nm, rfl, f8, wg, by omega, by omega, hn8, by omega, hnd, fun H9 p2 us hp2 s9 e9 nd9 m9 => ?_⟩
      have hus : us.length ≤ 60 := by
        have h1 := nodup_len nd9 fun z h => (m9 z).mp h
        have h2 := sgs_len (pre g)
        rw [pre_len] at h2
        omega
      refine ⟨p2, us, rfl, .of e9, by omega, fun zs p3 hpm hso hp3 => ?_⟩
      have s10 := same_new (o := .lst (zs.map V.str)) hp3
      have eys : ys = zs := sorted_eq nd8 (hpm.nodup_iff.mpr nd9) (fun z => by rw [m8, hpm.mem_iff, m9]) so8 hso
      have hsg : ∀ z ∈ ys, PyData.strOk z = true := fun z hz => by
        have := mem_sgs.mp ((m8 z).mp hz)
        have h2 : z ∈ nm := wf_pre hwf _ this
        exact hok z h2
      subst eys
      refine ⟨_, _, .lst (.of ((s9.trans s10) _ _ e8)) (dp_strs ys), .lst (.of upd_same) (dp_strs ys), shaped_strs hsg, shaped_strs hsg, _, rfl, ?_⟩
      rw [SeqAt.eqv_refl _ (lay_strs hsg)]
      refine iteF ?_
      have fA := f8.same (s9.trans s10)
      refine ⟨_, rfl, v', g, nm, rfl, fA, wg, by omega, fun HB vB sB FB => ?_⟩
      obtain ⟨nf1, nf2⟩ := nf_ok g 6 wg dg
      have shp := shaped_fm hok nf1.2.1 (by have := nf1.2.2.2; omega)
      obtain ⟨ab, xb, rfl, hb2⟩ := FB.tup
      refine ⟨_, rfl, _, _, _, _, true, rfl, .ty "tuple", tyx_sqt hb2, kit_ty (by decide +kernel), true, rfl, iteT ?_⟩
      refine ⟨_, rfl, _, rfl, v', g, nm, true, rfl, fA.same sB, wg, by omega, fun HC vC sC FC => ?_⟩
      refine ⟨_, _, dp_fm (FB.same sC), dp_fm (show FmAt K HC vC (nfp g).1 from FC), shp, shp, ?_⟩
      rw [SeqAt.eqv_refl _ (lay_fm hok nf1.2.1)]
      exact q _
end

theorem all_mk {l : PySem.W.OpenLaw} {w : World} {K : PySem.W.Frag} {h : Heap} {mg : Str → Option Value} {fa : Addr} {f0 f1 f2 f3 f4 f5 f6 f7 f8 f9 f10 f11 f12 f13 f14 f15 f16 f17 f18 f19 f20 f21 f22 aF aP aT aO aD aW bW0 bW1 bW2 bW3 : Addr} (X : K.In h) (G : h.Ns mainGlobals mg) (hfa : mg "law" = some (.ref fa))
    {od0 an0 od1 an1 od2 an2 od3 an3 od4 an4 od5 an5 od6 an6 od7 an7 od8 an8 od9 an9 od10 an10 od11 an11 od12 an12 od13 an13 od14 an14 od15 an15 od16 an16 od17 an17 od18 an18 od19 an19 od20 an20 od21 an21 od22 an22 : Option Addr} {sl0 sl1 sl2 sl3 sl4 sl5 sl6 sl7 sl8 sl9 sl10 sl11 sl12 sl13 sl14 sl15 sl16 sl17 sl18 sl19 sl20 sl21 sl22 : Array (Option Value)} {oc0 kV0 dc0 pm0 cd0 ct0 oc1 kV1 dc1 pm1 cd1 ct1 oc2 kV2 dc2 pm2 cd2 ct2 oc3 kV3 dc3 pm3 cd3 ct3 oc4 kV4 dc4 pm4 cd4 ct4 oc5 kV5 dc5 pm5 cd5 ct5 oc6 kV6 dc6 pm6 cd6 ct6 oc7 kV7 dc7 pm7 cd7 ct7 oc8 kV8 dc8 pm8 cd8 ct8 oc9 kV9 dc9 pm9 cd9 ct9 oc10 kV10 dc10 pm10 cd10 ct10 oc11 kV11 dc11 pm11 cd11 ct11 oc12 kV12 dc12 pm12 cd12 ct12 oc13 kV13 dc13 pm13 cd13 ct13 oc14 kV14 dc14 pm14 cd14 ct14 oc15 kV15 dc15 pm15 cd15 ct15 oc16 kV16 dc16 pm16 cd16 ct16 oc17 kV17 dc17 pm17 cd17 ct17 oc18 kV18 dc18 pm18 cd18 ct18 oc19 kV19 dc19 pm19 cd19 ct19 oc20 kV20 dc20 pm20 cd20 ct20 oc21 kV21 dc21 pm21 cd21 ct21 oc22 kV22 dc22 pm22 cd22 ct22 : Value} {dF dP dT dO : Option Addr} {slF slP slT slO : Array (Option Value)} {nF nP nT nO : Nat} {tF0 tF1 tF2 tF3 tF4 tF5 tP0 tP1 tP2 tP3 tP4 tP5 tT0 tO0 : Tok} {esD esW : Array DictEntry} {nD nW : Nat} {tD0 tD1 tD2 tD3 tD4 tD5 tD6 tD7 tD8 tW00 tW01 tW02 tW03 tW10 tW11 tW12 tW13 tW20 tW21 tW22 tW23 tW30 tW31 tW32 tW33 : Tok} {dW0 dW1 dW2 dW3 : Option Addr} {slW0 slW1 slW2 slW3 : Array (Option Value)} {mW0 mW1 mW2 mW3 : Nat}
    (a0 : PySem.W.nsIn K mainGlobals "operands" = some (some (.ref f0))) (l0 : K.lookup f0 = some ⟨oc0, od0, .func (PySem.W.fnOf "operands" "operands" (defArgs s_operands) (defBody s_operands) (defScope s_operands) .none kV0 dc0 pm0 an0 cd0 ct0), sl0⟩) (c0 : PySem.W.codeIn K cd0 "operands" = true) (k0 : PySem.W.keepIn K (.ref f0) = true)
    (a1 : PySem.W.nsIn K mainGlobals "subformulas" = some (some (.ref f1))) (l1 : K.lookup f1 = some ⟨oc1, od1, .func (PySem.W.fnOf "subformulas" "subformulas" (defArgs s_subformulas) (defBody s_subformulas) (defScope s_subformulas) .none kV1 dc1 pm1 an1 cd1 ct1), sl1⟩) (c1 : PySem.W.codeIn K cd1 "subformulas" = true) (k1 : PySem.W.keepIn K (.ref f1) = true)
    (a2 : PySem.W.nsIn K mainGlobals "count_operators" = some (some (.ref f2))) (l2 : K.lookup f2 = some ⟨oc2, od2, .func (PySem.W.fnOf "count_operators" "count_operators" (defArgs s_count_operators) (defBody s_count_operators) (defScope s_count_operators) .none kV2 dc2 pm2 an2 cd2 ct2), sl2⟩) (c2 : PySem.W.codeIn K cd2 "count_operators" = true) (k2 : PySem.W.keepIn K (.ref f2) = true)
    (a3 : PySem.W.nsIn K mainGlobals "temporal_count" = some (some (.ref f3))) (l3 : K.lookup f3 = some ⟨oc3, od3, .func (PySem.W.fnOf "temporal_count" "temporal_count" (defArgs s_temporal_count) (defBody s_temporal_count) (defScope s_temporal_count) .none kV3 dc3 pm3 an3 cd3 ct3), sl3⟩) (c3 : PySem.W.codeIn K cd3 "temporal_count" = true) (k3 : PySem.W.keepIn K (.ref f3) = true)
    (a4 : PySem.W.nsIn K mainGlobals "signal_names" = some (some (.ref f4))) (l4 : K.lookup f4 = some ⟨oc4, od4, .func (PySem.W.fnOf "signal_names" "signal_names" (defArgs s_signal_names) (defBody s_signal_names) (defScope s_signal_names) .none kV4 dc4 pm4 an4 cd4 ct4), sl4⟩) (c4 : PySem.W.codeIn K cd4 "signal_names" = true) (k4 : PySem.W.keepIn K (.ref f4) = true)
    (a5 : PySem.W.nsIn K mainGlobals "normal_form" = some (some (.ref f5))) (l5 : K.lookup f5 = some ⟨oc5, od5, .func (PySem.W.fnOf "normal_form" "normal_form" (defArgs s_normal_form) (defBody s_normal_form) (defScope s_normal_form) .none kV5 dc5 pm5 an5 cd5 ct5), sl5⟩) (c5 : PySem.W.codeIn K cd5 "normal_form" = true) (k5 : PySem.W.keepIn K (.ref f5) = true)
    (a6 : PySem.W.nsIn K mainGlobals "normal_pair" = some (some (.ref f6))) (l6 : K.lookup f6 = some ⟨oc6, od6, .func (PySem.W.fnOf "normal_pair" "normal_pair" (defArgs s_normal_pair) (defBody s_normal_pair) (defScope s_normal_pair) .none kV6 dc6 pm6 an6 cd6 ct6), sl6⟩) (c6 : PySem.W.codeIn K cd6 "normal_pair" = true) (k6 : PySem.W.keepIn K (.ref f6) = true)
    (a7 : PySem.W.nsIn K mainGlobals "unary_pair" = some (some (.ref f7))) (l7 : K.lookup f7 = some ⟨oc7, od7, .func (PySem.W.fnOf "unary_pair" "unary_pair" (defArgs s_unary_pair) (defBody s_unary_pair) (defScope s_unary_pair) .none kV7 dc7 pm7 an7 cd7 ct7), sl7⟩) (c7 : PySem.W.codeIn K cd7 "unary_pair" = true) (k7 : PySem.W.keepIn K (.ref f7) = true)
    (a8 : PySem.W.nsIn K mainGlobals "binary_pair" = some (some (.ref f8))) (l8 : K.lookup f8 = some ⟨oc8, od8, .func (PySem.W.fnOf "binary_pair" "binary_pair" (defArgs s_binary_pair) (defBody s_binary_pair) (defScope s_binary_pair) .none kV8 dc8 pm8 an8 cd8 ct8), sl8⟩) (c8 : PySem.W.codeIn K cd8 "binary_pair" = true) (k8 : PySem.W.keepIn K (.ref f8) = true)
    (a9 : PySem.W.nsIn K mainGlobals "_law_draws" = some (some (.ref f9))) (l9 : K.lookup f9 = some ⟨oc9, od9, .func (PySem.W.fnOf "_law_draws" "_law_draws" (defArgs s_law_draws) (defBody s_law_draws) (defScope s_law_draws) .none kV9 dc9 pm9 an9 cd9 ct9), sl9⟩) (c9 : PySem.W.codeIn K cd9 "_law_draws" = true) (k9 : PySem.W.keepIn K (.ref f9) = true)
    (a10 : PySem.W.nsIn K mainGlobals "_law_take" = some (some (.ref f10))) (l10 : K.lookup f10 = some ⟨oc10, od10, .func (PySem.W.fnOf "_law_take" "_law_take" (defArgs s_law_take) (defBody s_law_take) (defScope s_law_take) .none kV10 dc10 pm10 an10 cd10 ct10), sl10⟩) (c10 : PySem.W.codeIn K cd10 "_law_take" = true) (k10 : PySem.W.keepIn K (.ref f10) = true)
    (a11 : PySem.W.nsIn K mainGlobals "_law_is_integer" = some (some (.ref f11))) (l11 : K.lookup f11 = some ⟨oc11, od11, .func (PySem.W.fnOf "_law_is_integer" "_law_is_integer" (defArgs s_law_is_integer) (defBody s_law_is_integer) (defScope s_law_is_integer) .none kV11 dc11 pm11 an11 cd11 ct11), sl11⟩) (c11 : PySem.W.codeIn K cd11 "_law_is_integer" = true) (k11 : PySem.W.keepIn K (.ref f11) = true)
    (a12 : PySem.W.nsIn K mainGlobals "_law_name" = some (some (.ref f12))) (l12 : K.lookup f12 = some ⟨oc12, od12, .func (PySem.W.fnOf "_law_name" "_law_name" (defArgs s_law_name) (defBody s_law_name) (defScope s_law_name) .none kV12 dc12 pm12 an12 cd12 ct12), sl12⟩) (c12 : PySem.W.codeIn K cd12 "_law_name" = true) (k12 : PySem.W.keepIn K (.ref f12) = true)
    (a13 : PySem.W.nsIn K mainGlobals "_law_names" = some (some (.ref f13))) (l13 : K.lookup f13 = some ⟨oc13, od13, .func (PySem.W.fnOf "_law_names" "_law_names" (defArgs s_law_names) (defBody s_law_names) (defScope s_law_names) .none kV13 dc13 pm13 an13 cd13 ct13), sl13⟩) (c13 : PySem.W.codeIn K cd13 "_law_names" = true) (k13 : PySem.W.keepIn K (.ref f13) = true)
    (a14 : PySem.W.nsIn K mainGlobals "_law_leaf" = some (some (.ref f14))) (l14 : K.lookup f14 = some ⟨oc14, od14, .func (PySem.W.fnOf "_law_leaf" "_law_leaf" (defArgs s_law_leaf) (defBody s_law_leaf) (defScope s_law_leaf) .none kV14 dc14 pm14 an14 cd14 ct14), sl14⟩) (c14 : PySem.W.codeIn K cd14 "_law_leaf" = true) (k14 : PySem.W.keepIn K (.ref f14) = true)
    (a15 : PySem.W.nsIn K mainGlobals "_law_formula" = some (some (.ref f15))) (l15 : K.lookup f15 = some ⟨oc15, od15, .func (PySem.W.fnOf "_law_formula" "_law_formula" (defArgs s_law_formula) (defBody s_law_formula) (defScope s_law_formula) .none kV15 dc15 pm15 an15 cd15 ct15), sl15⟩) (c15 : PySem.W.codeIn K cd15 "_law_formula" = true) (k15 : PySem.W.keepIn K (.ref f15) = true)
    (a16 : PySem.W.nsIn K mainGlobals "_law_temporal" = some (some (.ref f16))) (l16 : K.lookup f16 = some ⟨oc16, od16, .func (PySem.W.fnOf "_law_temporal" "_law_temporal" (defArgs s_law_temporal) (defBody s_law_temporal) (defScope s_law_temporal) .none kV16 dc16 pm16 an16 cd16 ct16), sl16⟩) (c16 : PySem.W.codeIn K cd16 "_law_temporal" = true) (k16 : PySem.W.keepIn K (.ref f16) = true)
    (a17 : PySem.W.nsIn K mainGlobals "_law_twins" = some (some (.ref f17))) (l17 : K.lookup f17 = some ⟨oc17, od17, .func (PySem.W.fnOf "_law_twins" "_law_twins" (defArgs s_law_twins) (defBody s_law_twins) (defScope s_law_twins) .none kV17 dc17 pm17 an17 cd17 ct17), sl17⟩) (c17 : PySem.W.codeIn K cd17 "_law_twins" = true) (k17 : PySem.W.keepIn K (.ref f17) = true)
    (a18 : PySem.W.nsIn K mainGlobals "_law_form_two" = some (some (.ref f18))) (l18 : K.lookup f18 = some ⟨oc18, od18, .func (PySem.W.fnOf "_law_form_two" "_law_form_two" (defArgs s_law_form_two) (defBody s_law_form_two) (defScope s_law_form_two) .none kV18 dc18 pm18 an18 cd18 ct18), sl18⟩) (c18 : PySem.W.codeIn K cd18 "_law_form_two" = true) (k18 : PySem.W.keepIn K (.ref f18) = true)
    (a19 : PySem.W.nsIn K mainGlobals "_law_form_one" = some (some (.ref f19))) (l19 : K.lookup f19 = some ⟨oc19, od19, .func (PySem.W.fnOf "_law_form_one" "_law_form_one" (defArgs s_law_form_one) (defBody s_law_form_one) (defScope s_law_form_one) .none kV19 dc19 pm19 an19 cd19 ct19), sl19⟩) (c19 : PySem.W.codeIn K cd19 "_law_form_one" = true) (k19 : PySem.W.keepIn K (.ref f19) = true)
    (a20 : PySem.W.nsIn K mainGlobals "_law_form" = some (some (.ref f20))) (l20 : K.lookup f20 = some ⟨oc20, od20, .func (PySem.W.fnOf "_law_form" "_law_form" (defArgs s_law_form) (defBody s_law_form) (defScope s_law_form) .none kV20 dc20 pm20 an20 cd20 ct20), sl20⟩) (c20 : PySem.W.codeIn K cd20 "_law_form" = true) (k20 : PySem.W.keepIn K (.ref f20) = true)
    (a21 : PySem.W.nsIn K mainGlobals "_law_used" = some (some (.ref f21))) (l21 : K.lookup f21 = some ⟨oc21, od21, .func (PySem.W.fnOf "_law_used" "_law_used" (defArgs s_law_used) (defBody s_law_used) (defScope s_law_used) .none kV21 dc21 pm21 an21 cd21 ct21), sl21⟩) (c21 : PySem.W.codeIn K cd21 "_law_used" = true) (k21 : PySem.W.keepIn K (.ref f21) = true)
    (a22 : PySem.W.nsIn K mainGlobals "law" = some (some (.ref f22))) (l22 : K.lookup f22 = some ⟨oc22, od22, .func (PySem.W.fnOf "law" "law" (defArgs s_law) (defBody s_law) (defScope s_law) .none kV22 dc22 pm22 an22 cd22 ct22), sl22⟩) (c22 : PySem.W.codeIn K cd22 "law" = true) (k22 : PySem.W.keepIn K (.ref f22) = true)
    (z0 : PySem.W.nsIn K mainGlobals "bool" = some none) (z1 : PySem.W.nsIn K mainGlobals "int" = some none) (z2 : PySem.W.nsIn K mainGlobals "isinstance" = some none) (z3 : PySem.W.nsIn K mainGlobals "len" = some none) (z4 : PySem.W.nsIn K mainGlobals "list" = some none) (z5 : PySem.W.nsIn K mainGlobals "range" = some none) (z6 : PySem.W.nsIn K mainGlobals "set" = some none) (z7 : PySem.W.nsIn K mainGlobals "sorted" = some none) (z8 : PySem.W.nsIn K mainGlobals "tuple" = some none) (gFa : PySem.W.nsIn K mainGlobals "FUTURE" = some (some (.ref aF))) (gFb : K.lookup aF = some ⟨.type "tuple", dF, .seq #[.str "next" tF0, .str "eventually" tF1, .str "always" tF2, .str "until" tF3, .str "weak_until" tF4, .str "release" tF5] nF, slF⟩) (gPa : PySem.W.nsIn K mainGlobals "PAST" = some (some (.ref aP))) (gPb : K.lookup aP = some ⟨.type "tuple", dP, .seq #[.str "previous" tP0, .str "weak_previous" tP1, .str "once" tP2, .str "historically" tP3, .str "since" tP4, .str "trigger" tP5] nP, slP⟩) (gTa : PySem.W.nsIn K mainGlobals "TRUE" = some (some (.ref aT))) (gTb : K.lookup aT = some ⟨.type "tuple", dT, .seq #[.str "true" tT0] nT, slT⟩) (gOa : PySem.W.nsIn K mainGlobals "FALSE" = some (some (.ref aO))) (gOb : K.lookup aO = some ⟨.type "tuple", dO, .seq #[.str "false" tO0] nO, slO⟩) (gDa : PySem.W.nsIn K mainGlobals "DUALS" = some (some (.ref aD))) (gDb : K.lookup aD = some ⟨.type "dict", none, .dict esD nD, #[]⟩) (gDk : PySem.W.KeysLit w.params esD.toList) (gDi0 : PySem.W.nsIn K aD "and" = some (some (.str "or" tD0))) (gDi1 : PySem.W.nsIn K aD "or" = some (some (.str "and" tD1))) (gDi2 : PySem.W.nsIn K aD "next" = some (some (.str "next" tD2))) (gDi3 : PySem.W.nsIn K aD "until" = some (some (.str "release" tD3))) (gDi4 : PySem.W.nsIn K aD "release" = some (some (.str "until" tD4))) (gDi5 : PySem.W.nsIn K aD "previous" = some (some (.str "weak_previous" tD5))) (gDi6 : PySem.W.nsIn K aD "weak_previous" = some (some (.str "previous" tD6))) (gDi7 : PySem.W.nsIn K aD "since" = some (some (.str "trigger" tD7))) (gDi8 : PySem.W.nsIn K aD "trigger" = some (some (.str "since" tD8))) (gWa : PySem.W.nsIn K mainGlobals "WRITTEN_OUT" = some (some (.ref aW))) (gWb : K.lookup aW = some ⟨.type "dict", none, .dict esW nW, #[]⟩) (gWk : PySem.W.KeysLit w.params esW.toList) (gWl : (aW == sysModules) = false) (gWi0 : PySem.W.nsIn K aW "eventually" = some (some (.ref bW0))) (gWj0 : K.lookup bW0 = some ⟨.type "tuple", dW0, .seq #[.str "until" tW00, .str "true" tW01, .str "release" tW02, .str "false" tW03] mW0, slW0⟩) (gWi1 : PySem.W.nsIn K aW "always" = some (some (.ref bW1))) (gWj1 : K.lookup bW1 = some ⟨.type "tuple", dW1, .seq #[.str "release" tW10, .str "false" tW11, .str "until" tW12, .str "true" tW13] mW1, slW1⟩) (gWi2 : PySem.W.nsIn K aW "once" = some (some (.ref bW2))) (gWj2 : K.lookup bW2 = some ⟨.type "tuple", dW2, .seq #[.str "since" tW20, .str "true" tW21, .str "trigger" tW22, .str "false" tW23] mW2, slW2⟩) (gWi3 : PySem.W.nsIn K aW "historically" = some (some (.ref bW3))) (gWj3 : K.lookup bW3 = some ⟨.type "tuple", dW3, .seq #[.str "trigger" tW30, .str "false" tW31, .str "since" tW32, .str "true" tW33] mW3, slW3⟩) (gWn0 : PySem.W.nsIn K aW "next" = some none) (gWn1 : PySem.W.nsIn K aW "previous" = some none) (gWn2 : PySem.W.nsIn K aW "weak_previous" = some none) :
    ∃ fd : FuncData, (∀ (s : Shared) (v : Value), BindsTo s fd ⟨[v], []⟩ [("script", v)]) ∧ ∀ base : Heap, K.In base → base.Ns mainGlobals mg → FnOk l.prog w K mg base CX0 24 fa fd ["script"] (spLaw K) := by
  have e := hfa.symm.trans (PySem.W.mg_of X G a22)
  cases e
  have T : Txt K mg w := ⟨⟨f0, _, fun_mk (st := s_operands) l0 c0 k0, PySem.W.mg_of X G a0, (fun_mk (st := s_operands) l0 c0 k0).binds fun _ _ _ _ _ _ us hl => match us, hl with | [_], _ => rfl⟩, ⟨f1, _, fun_mk (st := s_subformulas) l1 c1 k1, PySem.W.mg_of X G a1, (fun_mk (st := s_subformulas) l1 c1 k1).binds fun _ _ _ _ _ _ us hl => match us, hl with | [_], _ => rfl⟩, ⟨f2, _, fun_mk (st := s_count_operators) l2 c2 k2, PySem.W.mg_of X G a2, (fun_mk (st := s_count_operators) l2 c2 k2).binds fun _ _ _ _ _ _ us hl => match us, hl with | [_, _], _ => rfl⟩, ⟨f3, _, fun_mk (st := s_temporal_count) l3 c3 k3, PySem.W.mg_of X G a3, (fun_mk (st := s_temporal_count) l3 c3 k3).binds fun _ _ _ _ _ _ us hl => match us, hl with | [_], _ => rfl⟩, ⟨f4, _, fun_mk (st := s_signal_names) l4 c4 k4, PySem.W.mg_of X G a4, (fun_mk (st := s_signal_names) l4 c4 k4).binds fun _ _ _ _ _ _ us hl => match us, hl with | [_], _ => rfl⟩, ⟨f5, _, fun_mk (st := s_normal_form) l5 c5 k5, PySem.W.mg_of X G a5, (fun_mk (st := s_normal_form) l5 c5 k5).binds fun _ _ _ _ _ _ us hl => match us, hl with | [_], _ => rfl⟩, ⟨f6, _, fun_mk (st := s_normal_pair) l6 c6 k6, PySem.W.mg_of X G a6, (fun_mk (st := s_normal_pair) l6 c6 k6).binds fun _ _ _ _ _ _ us hl => match us, hl with | [_], _ => rfl⟩, ⟨f7, _, fun_mk (st := s_unary_pair) l7 c7 k7, PySem.W.mg_of X G a7, (fun_mk (st := s_unary_pair) l7 c7 k7).binds fun _ _ _ _ _ _ us hl => match us, hl with | [_, _, _], _ => rfl⟩, ⟨f8, _, fun_mk (st := s_binary_pair) l8 c8 k8, PySem.W.mg_of X G a8, (fun_mk (st := s_binary_pair) l8 c8 k8).binds fun _ _ _ _ _ _ us hl => match us, hl with | [_, _, _], _ => rfl⟩, ⟨f9, _, fun_mk (st := s_law_draws) l9 c9 k9, PySem.W.mg_of X G a9, (fun_mk (st := s_law_draws) l9 c9 k9).binds fun _ _ _ _ _ _ us hl => match us, hl with | [_, _], _ => rfl⟩, ⟨f10, _, fun_mk (st := s_law_take) l10 c10 k10, PySem.W.mg_of X G a10, (fun_mk (st := s_law_take) l10 c10 k10).binds fun _ _ _ _ _ _ us hl => match us, hl with | [_, _], _ => rfl⟩, ⟨f11, _, fun_mk (st := s_law_is_integer) l11 c11 k11, PySem.W.mg_of X G a11, (fun_mk (st := s_law_is_integer) l11 c11 k11).binds fun _ _ _ _ _ _ us hl => match us, hl with | [_], _ => rfl⟩, ⟨f12, _, fun_mk (st := s_law_name) l12 c12 k12, PySem.W.mg_of X G a12, (fun_mk (st := s_law_name) l12 c12 k12).binds fun _ _ _ _ _ _ us hl => match us, hl with | [_, _], _ => rfl⟩, ⟨f13, _, fun_mk (st := s_law_names) l13 c13 k13, PySem.W.mg_of X G a13, (fun_mk (st := s_law_names) l13 c13 k13).binds fun _ _ _ _ _ _ us hl => match us, hl with | [_, _], _ => rfl⟩, ⟨f14, _, fun_mk (st := s_law_leaf) l14 c14 k14, PySem.W.mg_of X G a14, (fun_mk (st := s_law_leaf) l14 c14 k14).binds fun _ _ _ _ _ _ us hl => match us, hl with | [_, _], _ => rfl⟩, ⟨f15, _, fun_mk (st := s_law_formula) l15 c15 k15, PySem.W.mg_of X G a15, (fun_mk (st := s_law_formula) l15 c15 k15).binds fun _ _ _ _ _ _ us hl => match us, hl with | [_, _, _, _], _ => rfl⟩, ⟨f16, _, fun_mk (st := s_law_temporal) l16 c16 k16, PySem.W.mg_of X G a16, (fun_mk (st := s_law_temporal) l16 c16 k16).binds fun _ _ _ _ _ _ us hl => match us, hl with | [_], _ => rfl⟩, ⟨f17, _, fun_mk (st := s_law_twins) l17 c17 k17, PySem.W.mg_of X G a17, (fun_mk (st := s_law_twins) l17 c17 k17).binds fun _ _ _ _ _ _ us hl => match us, hl with | [_, _, _, _, _], _ => rfl⟩, ⟨f18, _, fun_mk (st := s_law_form_two) l18 c18 k18, PySem.W.mg_of X G a18, (fun_mk (st := s_law_form_two) l18 c18 k18).binds fun _ _ _ _ _ _ us hl => match us, hl with | [_, _, _, _], _ => rfl⟩, ⟨f19, _, fun_mk (st := s_law_form_one) l19 c19 k19, PySem.W.mg_of X G a19, (fun_mk (st := s_law_form_one) l19 c19 k19).binds fun _ _ _ _ _ _ us hl => match us, hl with | [_, _, _], _ => rfl⟩, ⟨f20, _, fun_mk (st := s_law_form) l20 c20 k20, PySem.W.mg_of X G a20, (fun_mk (st := s_law_form) l20 c20 k20).binds fun _ _ _ _ _ _ us hl => match us, hl with | [_, _], _ => rfl⟩, ⟨f21, _, fun_mk (st := s_law_used) l21 c21 k21, PySem.W.mg_of X G a21, (fun_mk (st := s_law_used) l21 c21 k21).binds fun _ _ _ _ _ _ us hl => match us, hl with | [_, _], _ => rfl⟩, PySem.W.mg_none_of X G z0, PySem.W.mg_none_of X G z1, PySem.W.mg_none_of X G z2, PySem.W.mg_none_of X G z3, PySem.W.mg_none_of X G z4, PySem.W.mg_none_of X G z5, PySem.W.mg_none_of X G z6, PySem.W.mg_none_of X G z7, PySem.W.mg_none_of X G z8, ⟨aF, aP, aT, aO, aD, aW, PySem.W.mg_of X G gDa, PySem.W.mg_of X G gWa, (fun p hp => by
    simp only [List.mem_cons, List.mem_nil_iff, or_false] at hp
    rcases hp with rfl | rfl | rfl | rfl | rfl | rfl | rfl | rfl | rfl
    · exact ⟨_, _, _, gDb, gDk, gDi0, _, rfl⟩
    · exact ⟨_, _, _, gDb, gDk, gDi1, _, rfl⟩
    · exact ⟨_, _, _, gDb, gDk, gDi2, _, rfl⟩
    · exact ⟨_, _, _, gDb, gDk, gDi3, _, rfl⟩
    · exact ⟨_, _, _, gDb, gDk, gDi4, _, rfl⟩
    · exact ⟨_, _, _, gDb, gDk, gDi5, _, rfl⟩
    · exact ⟨_, _, _, gDb, gDk, gDi6, _, rfl⟩
    · exact ⟨_, _, _, gDb, gDk, gDi7, _, rfl⟩
    · exact ⟨_, _, _, gDb, gDk, gDi8, _, rfl⟩), ⟨_, _, ⟨gWb, gWk, gWl⟩⟩, (fun p hp => by
    simp only [List.mem_cons, List.mem_nil_iff, or_false] at hp
    rcases hp with rfl | rfl | rfl | rfl
    · exact ⟨bW0, ⟨_, _, _, gWb, gWk, gWi0, rfl⟩, fun H => .inr ⟨_, _, _, gWj0, rfl, rfl, (show 4 ≤ sizeLine by decide), (.cons ⟨_, rfl⟩ (.cons ⟨_, rfl⟩ (.cons ⟨_, rfl⟩ (.cons ⟨_, rfl⟩ .nil))))⟩⟩
    · exact ⟨bW1, ⟨_, _, _, gWb, gWk, gWi1, rfl⟩, fun H => .inr ⟨_, _, _, gWj1, rfl, rfl, (show 4 ≤ sizeLine by decide), (.cons ⟨_, rfl⟩ (.cons ⟨_, rfl⟩ (.cons ⟨_, rfl⟩ (.cons ⟨_, rfl⟩ .nil))))⟩⟩
    · exact ⟨bW2, ⟨_, _, _, gWb, gWk, gWi2, rfl⟩, fun H => .inr ⟨_, _, _, gWj2, rfl, rfl, (show 4 ≤ sizeLine by decide), (.cons ⟨_, rfl⟩ (.cons ⟨_, rfl⟩ (.cons ⟨_, rfl⟩ (.cons ⟨_, rfl⟩ .nil))))⟩⟩
    · exact ⟨bW3, ⟨_, _, _, gWb, gWk, gWi3, rfl⟩, fun H => .inr ⟨_, _, _, gWj3, rfl, rfl, (show 4 ≤ sizeLine by decide), (.cons ⟨_, rfl⟩ (.cons ⟨_, rfl⟩ (.cons ⟨_, rfl⟩ (.cons ⟨_, rfl⟩ .nil))))⟩⟩), (fun z hz => by
    simp only [List.mem_cons, List.mem_nil_iff, or_false] at hz
    rcases hz with rfl | rfl | rfl
    · exact gWn0
    · exact gWn1
    · exact gWn2), ⟨PySem.W.mg_of X G gFa, fun H => .inr ⟨_, _, _, gFb, rfl, rfl, (show 6 ≤ sizeLine by decide), (.cons ⟨_, rfl⟩ (.cons ⟨_, rfl⟩ (.cons ⟨_, rfl⟩ (.cons ⟨_, rfl⟩ (.cons ⟨_, rfl⟩ (.cons ⟨_, rfl⟩ .nil))))))⟩⟩, ⟨PySem.W.mg_of X G gPa, fun H => .inr ⟨_, _, _, gPb, rfl, rfl, (show 6 ≤ sizeLine by decide), (.cons ⟨_, rfl⟩ (.cons ⟨_, rfl⟩ (.cons ⟨_, rfl⟩ (.cons ⟨_, rfl⟩ (.cons ⟨_, rfl⟩ (.cons ⟨_, rfl⟩ .nil))))))⟩⟩, ⟨PySem.W.mg_of X G gTa, fun H => .inr ⟨_, _, _, gTb, rfl, rfl, (show 1 ≤ sizeLine by decide), (.cons ⟨_, rfl⟩ .nil)⟩⟩, ⟨PySem.W.mg_of X G gOa, fun H => .inr ⟨_, _, _, gOb, rfl, rfl, (show 1 ≤ sizeLine by decide), (.cons ⟨_, rfl⟩ .nil)⟩⟩⟩⟩
  exact ⟨_, fun s v => .of_eq rfl, fun base _ _ => ok_law (fun_mk (st := s_law) l22 c22 k22) T⟩
end My
open PySem PySem.W PyProof.Rows
set_option maxHeartbeats 0 in
theorem PySem.Challenge.cw_reactivesynth_k06_normal_form_holds : PySem.Challenge.rw_reactivesynth_k06_normal_form.Holds := by
  w_on; o_law; k_head; (case hw => w_witness2)
  k_fill
  refine L2.walk_of (l := PySem.Challenge.rw_reactivesynth_k06_normal_form) (n := 63) (k := 24) (x := "script") (CX := fun _ => L2.CX0) (sp := fun w => My.spLaw _) rfl (by decide) rfl ⟨rfl, by decide, by decide⟩ (fun w h Y => PySem.W.kIn_of Y) ?F (fun _ _ a ns hl _ hS => ⟨a, ns, rfl, hS, hl, fun _ => rfl⟩) (fun _ _ _ _ _ h => h)
  case F =>
    intro w mg fa h KX G hmg
    refine' My.all_mk KX G hmg ?a0 ?l0 ?c0 ?k0 ?a1 ?l1 ?c1 ?k1 ?a2 ?l2 ?c2 ?k2 ?a3 ?l3 ?c3 ?k3 ?a4 ?l4 ?c4 ?k4 ?a5 ?l5 ?c5 ?k5 ?a6 ?l6 ?c6 ?k6 ?a7 ?l7 ?c7 ?k7 ?a8 ?l8 ?c8 ?k8 ?a9 ?l9 ?c9 ?k9 ?a10 ?l10 ?c10 ?k10 ?a11 ?l11 ?c11 ?k11 ?a12 ?l12 ?c12 ?k12 ?a13 ?l13 ?c13 ?k13 ?a14 ?l14 ?c14 ?k14 ?a15 ?l15 ?c15 ?k15 ?a16 ?l16 ?c16 ?k16 ?a17 ?l17 ?c17 ?k17 ?a18 ?l18 ?c18 ?k18 ?a19 ?l19 ?c19 ?k19 ?a20 ?l20 ?c20 ?k20 ?a21 ?l21 ?c21 ?k21 ?a22 ?l22 ?c22 ?k22 ?z0 ?z1 ?z2 ?z3 ?z4 ?z5 ?z6 ?z7 ?z8 ?gFa ?gFb ?gPa ?gPb ?gTa ?gTb ?gOa ?gOb ?gDa ?gDb ?gDk ?gDi0 ?gDi1 ?gDi2 ?gDi3 ?gDi4 ?gDi5 ?gDi6 ?gDi7 ?gDi8 ?gWa ?gWb ?gWk ?gWl ?gWi0 ?gWj0 ?gWi1 ?gWj1 ?gWi2 ?gWj2 ?gWi3 ?gWj3 ?gWn0 ?gWn1 ?gWn2
    (case a0 => k_is); (case l0 => k_is); (case c0 => k_is); (case k0 => k_is); (case a1 => k_is); (case l1 => k_is); (case c1 => k_is); (case k1 => k_is); (case a2 => k_is); (case l2 => k_is); (case c2 => k_is); (case k2 => k_is); (case a3 => k_is); (case l3 => k_is); (case c3 => k_is); (case k3 => k_is); (case a4 => k_is); (case l4 => k_is); (case c4 => k_is); (case k4 => k_is); (case a5 => k_is); (case l5 => k_is); (case c5 => k_is); (case k5 => k_is); (case a6 => k_is); (case l6 => k_is); (case c6 => k_is); (case k6 => k_is); (case a7 => k_is); (case l7 => k_is); (case c7 => k_is); (case k7 => k_is); (case a8 => k_is); (case l8 => k_is); (case c8 => k_is); (case k8 => k_is); (case a9 => k_is); (case l9 => k_is); (case c9 => k_is); (case k9 => k_is); (case a10 => k_is); (case l10 => k_is); (case c10 => k_is); (case k10 => k_is); (case a11 => k_is); (case l11 => k_is); (case c11 => k_is); (case k11 => k_is); (case a12 => k_is); (case l12 => k_is); (case c12 => k_is); (case k12 => k_is); (case a13 => k_is); (case l13 => k_is); (case c13 => k_is); (case k13 => k_is); (case a14 => k_is); (case l14 => k_is); (case c14 => k_is); (case k14 => k_is); (case a15 => k_is); (case l15 => k_is); (case c15 => k_is); (case k15 => k_is); (case a16 => k_is); (case l16 => k_is); (case c16 => k_is); (case k16 => k_is); (case a17 => k_is); (case l17 => k_is); (case c17 => k_is); (case k17 => k_is); (case a18 => k_is); (case l18 => k_is); (case c18 => k_is); (case k18 => k_is); (case a19 => k_is); (case l19 => k_is); (case c19 => k_is); (case k19 => k_is); (case a20 => k_is); (case l20 => k_is); (case c20 => k_is); (case k20 => k_is); (case a21 => k_is); (case l21 => k_is); (case c21 => k_is); (case k21 => k_is); (case a22 => k_is); (case l22 => k_is); (case c22 => k_is); (case k22 => k_is); (case z0 => k_is); (case z1 => k_is); (case z2 => k_is); (case z3 => k_is); (case z4 => k_is); (case z5 => k_is); (case z6 => k_is); (case z7 => k_is); (case z8 => k_is); (case gFa => k_is); (case gFb => k_is); (case gPa => k_is); (case gPb => k_is); (case gTa => k_is); (case gTb => k_is); (case gOa => k_is); (case gOb => k_is); (case gDa => k_is); (case gDb => k_is); (case gDk => k_keys); (case gDi0 => k_is); (case gDi1 => k_is); (case gDi2 => k_is); (case gDi3 => k_is); (case gDi4 => k_is); (case gDi5 => k_is); (case gDi6 => k_is); (case gDi7 => k_is); (case gDi8 => k_is); (case gWa => k_is); (case gWb => k_is); (case gWk => k_keys); (case gWl => first | rfl | decide | k_is); (case gWi0 => k_is); (case gWj0 => k_is); (case gWi1 => k_is); (case gWj1 => k_is); (case gWi2 => k_is); (case gWj2 => k_is); (case gWi3 => k_is); (case gWj3 => k_is); (case gWn0 => k_is); (case gWn1 => k_is); (case gWn2 => k_is)
