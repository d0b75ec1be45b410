import PyProof.Rows.All
import Wide.All
import OpenK.AllK
import Wide.FinOn
import HandS.ForMost
import HandS.ForExc
import HandS.ExcIs
import HandS.ExcOwn
import HandS.WordsExc
import HandS.TryMany
import HandS.TryOnly
import HandS.Codes
import HandS.IsInst
import HandS.TupAny
import HandS.TupMul
import HandS.SortKw
import KE.KMinKey
import PyProof.WalksMore
import HandS.Dict
import HandS.Style
import HandS.Conv
import HandS.Walk
import HandS.Zip
import PyProof.AutoSeq1
import HandS.Text
import HandS.More
import HandS.Strs
import HandS.SetFor
import HandS.SetTxt0
import HandS.MakeKwOnly
import HandS.Property
import HandS.Star
import HandS.Defaults
import HandS.AnyAll
import HandS.DictComp
import KE.KRevSl
import HandS.FStr
import HandS.Steps
import HandS.Iter
import HandS.StrMore
import PyProof.StrOps2
import HandS.NoneIn
import HandS.ExcInit
import HandS.ClsMeth
import KE.KExcSuper
import HandS.ExcField
import PySem.Challenge.RW_reactivesynth_k09_syntax_errors
set_option Elab.async false
set_option linter.all false
set_option maxRecDepth 100000
set_option maxHeartbeats 4000000
namespace Wd
/-- m is the length of a proper border of the first k letters -/
def Bd (w : Nat → Int) (k m : Nat) : Prop := m < k ∧ ∀ i, i < m → w i = w (k - m + i)
/-- .. the greatest -/
def Lg (w : Nat → Int) (k m : Nat) : Prop := Bd w k m ∧ ∀ j, Bd w k j → j ≤ m
theorem Bd.zero {w : Nat → Int} {k : Nat} (h : 0 < k) : Bd w k 0 := ⟨h, fun i hi => absurd hi (Nat.not_lt_zero i)⟩
theorem Bd.down {w : Nat → Int} {k m : Nat} (h : Bd w (k + 1) (m + 1)) : Bd w k m ∧ w m = w k := by
  obtain ⟨h1, h2⟩ := h
  refine ⟨⟨by omega, fun i hi => ?_⟩, ?_⟩
  · have := h2 i (by omega)
    rw [this]
    congr 1
    omega
  · have := h2 m (by omega)
    rw [this]
    congr 1
    omega
theorem Bd.up {w : Nat → Int} {k m : Nat} (h : Bd w k m) (e : w m = w k) : Bd w (k + 1) (m + 1) := by
  obtain ⟨h1, h2⟩ := h
  refine ⟨by omega, fun i hi => ?_⟩
  rcases Nat.lt_or_ge i m with c | c
  · rw [h2 i c]
    congr 1
    omega
  · have : i = m := by omega
    subst this
    rw [e]
    congr 1
    omega
theorem Bd.inner {w : Nat → Int} {k b j : Nat} (h : Bd w k b) (g : Bd w k j) (l : j < b) : Bd w b j := by
  obtain ⟨h1, h2⟩ := h
  obtain ⟨g1, g2⟩ := g
  refine ⟨l, fun i hi => ?_⟩
  rw [g2 i hi, h2 (b - j + i) (by omega)]
  congr 1
  omega
theorem Bd.trans {w : Nat → Int} {k b j : Nat} (h : Bd w k b) (g : Bd w b j) : Bd w k j := by
  obtain ⟨h1, h2⟩ := h
  obtain ⟨g1, g2⟩ := g
  refine ⟨by omega, fun i hi => ?_⟩
  rw [g2 i hi, h2 (b - j + i) (by omega)]
  congr 1
  omega
/-- what the inner loop keeps: b is a border of the first k letters, and no border of the first k + 1 is longer than b + 1 -/
def In (w : Nat → Int) (k b : Nat) : Prop := Bd w k b ∧ ∀ j, Bd w (k + 1) (j + 1) → j ≤ b
theorem In.start {w : Nat → Int} {k b : Nat} (h : Lg w k b) : In w k b := ⟨h.1, fun j hj => h.2 j hj.down.1⟩
theorem In.step {w : Nat → Int} {k b c : Nat} (h : In w k b) (hb : 0 < b) (ne : w k ≠ w b) (g : Lg w b c) : In w k c ∧ c < b := by
  refine ⟨⟨h.1.trans g.1, fun j hj => ?_⟩, g.1.1⟩
  have h1 := h.2 j hj
  obtain ⟨h2, h3⟩ := hj.down
  have : j ≠ b := fun z => ne (by rw [← h3, z])
  exact g.2 j (h.1.inner h2 (by omega))
theorem In.found {w : Nat → Int} {k b : Nat} (h : In w k b) (e : w k = w b) : Lg w (k + 1) (b + 1) := by
  refine ⟨h.1.up e.symm, fun j hj => ?_⟩
  cases j with
  | zero => omega
  | succ j => exact Nat.succ_le_succ (h.2 j hj)
theorem In.none {w : Nat → Int} {k : Nat} (h : In w k 0) (ne : w k ≠ w 0) : Lg w (k + 1) 0 := by
  refine ⟨Bd.zero (by omega), fun j hj => ?_⟩
  cases j with
  | zero => omega
  | succ j =>
    have h1 := h.2 j hj
    have : j = 0 := by omega
    subst this
    exact absurd hj.down.2.symm ne
/-! periods -/
/-- the letters of the word without end that repeats the first n letters -/
def cyc (w : Nat → Int) (n i : Nat) : Int := w (i % n)
def Rp (w : Nat → Int) (n p : Nat) : Prop := ∀ i, cyc w n (i + p) = cyc w n i
theorem Rp.mul {w : Nat → Int} {n p : Nat} (h : Rp w n p) : ∀ k i, cyc w n (i + k * p) = cyc w n i
  | 0, i => by rw [Nat.zero_mul, Nat.add_zero]
  | k + 1, i => by
    rw [Nat.succ_mul, ← Nat.add_assoc, h, h.mul k i]
theorem Rp.mod {w : Nat → Int} {n p i : Nat} (h : Rp w n p) : cyc w n i = cyc w n (i % p) := by
  have := h.mul (i / p) (i % p)
  rw [Nat.mul_comm, Nat.mod_add_div] at this
  exact this
theorem cyc_lt {w : Nat → Int} {n i : Nat} (h : i < n) : cyc w n i = w i := by
  unfold cyc
  rw [Nat.mod_eq_of_lt h]
theorem rp_self (w : Nat → Int) (n : Nat) : Rp w n n := fun i => by
  unfold cyc
  rw [Nat.add_mod_right]
/-- a period of the finite word that divides its length is one of the word without end -/
theorem rp_of {w : Nat → Int} {n p : Nat} (hp : 0 < p) (hd : p ∣ n) (hn : 0 < n) (h : ∀ i, i + p < n → w i = w (i + p)) : Rp w n p := by
  have red : ∀ k i, i + k * p < n → w (i + k * p) = w i := by
    intro k
    induction k with
    | zero => intro i _; rw [Nat.zero_mul, Nat.add_zero]
    | succ k ih =>
      intro i hi
      rw [Nat.succ_mul] at hi ⊢
      rw [← Nat.add_assoc, ← h (i + k * p) (by omega)]
      exact ih i (by omega)
  have toMod : ∀ i, cyc w n i = w (i % p) := by
    intro i
    unfold cyc
    have h1 : i % n < n := Nat.mod_lt _ hn
    have e : i % n % p + (i % n / p) * p = i % n := by
      rw [Nat.mul_comm]
      exact Nat.mod_add_div _ _
    have h2 := red (i % n / p) (i % n % p) (by rw [e]; exact h1)
    rw [e] at h2
    rw [h2, Nat.mod_mod_of_dvd _ hd]
  intro i
  rw [toMod, toMod, Nat.add_mod_right]
/-- the least repetition: r divides n, the word repeats its first r letters, and no shorter one does -/
structure Least (w : Nat → Int) (n r : Nat) : Prop where
  pos : 0 < r
  dvd : r ∣ n
  rp : Rp w n r
  min : ∀ p, 0 < p → p ∣ n → Rp w n p → r ≤ p
theorem least_of {w : Nat → Int} {n b : Nat} (hn : 0 < n) (h : Lg w n b) : Least w n (if n % (n - b) = 0 then n - b else n) := by
  obtain ⟨⟨hb, h1⟩, h2⟩ := h
  have hs : 0 < n - b := by omega
  -- n - b is the least period of the finite word
  have per : ∀ i, i + (n - b) < n → w i = w (i + (n - b)) := fun i hi => by
    have := h1 i (by omega)
    rw [this]
    congr 1
    omega
  have low : ∀ p, 0 < p → p ≤ n → (∀ i, i + p < n → w i = w (i + p)) → n - b ≤ p := fun p hp hpn hq => by
    have := h2 (n - p) ⟨by omega, fun i hi => by
      have := hq i (by omega)
      rw [this]
      congr 1
      omega⟩
    omega
  have fin : ∀ p, Rp w n p → ∀ i, i + p < n → w i = w (i + p) := fun p hp i hi => by
    have := hp i
    rw [cyc_lt hi, cyc_lt (by omega)] at this
    exact this.symm
  -- a shorter repetition makes n - b a repetition
  have key : ∀ p, 0 < p → p ∣ n → p < n → Rp w n p → n % (n - b) = 0 ∧ n - b ≤ p := by
    intro p hp hd hlt hr
    have le := low p hp (by omega) (fin p hr)
    obtain ⟨q, hq⟩ := hd
    have hq2 : 2 ≤ q := by
      rcases Nat.lt_or_ge q 2 with c | c
      · have : q = 0 ∨ q = 1 := by omega
        rcases this with z | z
        · rw [z] at hq; omega
        · rw [z] at hq; omega
      · exact c
    have h2p : 2 * p ≤ n := by
      rw [hq, Nat.mul_comm 2 p]
      exact Nat.mul_le_mul_left p hq2
    have rs : Rp w n (n - b) := by
      intro i
      have e1 : cyc w n (i + (n - b)) = cyc w n (i % p + (n - b)) := by
        have := hr.mul (i / p) (i % p + (n - b))
        rw [← this]
        congr 1
        have := Nat.mod_add_div i p
        rw [Nat.mul_comm (i / p) p]
        omega
      have hm : i % p < p := Nat.mod_lt _ hp
      rw [e1, hr.mod (i := i), cyc_lt (show i % p + (n - b) < n by omega), cyc_lt (show i % p < n by omega)]
      exact (per _ (by omega)).symm
    -- p is a multiple of n - b
    have hmod : p % (n - b) = 0 := by
      rcases Nat.eq_zero_or_pos (p % (n - b)) with z | z
      · exact z
      · have lt : p % (n - b) < n - b := Nat.mod_lt _ hs
        have rm : Rp w n (p % (n - b)) := by
          intro i
          have a := rs.mul (p / (n - b)) (i + p % (n - b))
          have e : i + p % (n - b) + p / (n - b) * (n - b) = i + p := by
            rw [Nat.mul_comm, Nat.add_assoc, Nat.mod_add_div]
          rw [e] at a
          rw [← a]
          exact hr i
        have := low _ z (by omega) (fin _ rm)
        omega
    refine ⟨?_, le⟩
    exact Nat.mod_eq_zero_of_dvd (Nat.dvd_trans (Nat.dvd_of_mod_eq_zero hmod) ⟨q, hq⟩)
  by_cases c : n % (n - b) = 0
  · rw [if_pos c]
    refine ⟨hs, Nat.dvd_of_mod_eq_zero c, rp_of hs (Nat.dvd_of_mod_eq_zero c) hn per, fun p hp hd hr => ?_⟩
    exact low p hp (Nat.le_of_dvd hn hd) (fin p hr)
  · rw [if_neg c]
    refine ⟨hn, Nat.dvd_refl n, rp_self w n, fun p hp hd hr => ?_⟩
    have le := Nat.le_of_dvd hn hd
    rcases Nat.lt_or_ge p n with l | l
    · exact absurd (key p hp hd l hr).1 c
    · exact l
end Wd
/-! ### min(xs, default=d) of a list of ints: own rule -/
namespace MinD
open PySem PySem.W PyProof.Rows
def kwD (d : Value) : List (Str × Value) := [(Str.ofString "default", d)]
theorem nameL : (toString "min" ++ toString ".loop" : String) = "min.loop" := by decide
section
variable {prog : Program} {w : World} {A : Around} {R : Result → Shared → Prop} {I S : Addr} {fp wr : List Addr} {n : Nat} {P : Nat → Value → Prop} {St : Nat → Heap → Prop} {d : Value}
theorem loopD (W : Walks prog w A.in1 I fp wr n P St) (bt : Nat → Nat → Bool) (cm : CmpOf prog w A.in1 .Lt P bt) (nf : S ∉ fp) :
    ∀ (m j : Nat) (u : Shared) (best : Value) (c : Nat), n - (j + 1) = m → j + 1 ≤ n → St (j + 1) u.heap → P (argBest bt j) best →
    u.heap.get? S = some { cls := .type "list", dict := none, data := .seq #[best, best] c, slots := #[] } →
    (∀ v g tk, P (argBest bt (n - 1)) v → (∀ b o, b ∉ wr → b ≠ S → u.heap.get? b = some o → g.get? b = some o) → R (.ok (.ret v)) { u with heap := g, toks := tk }) →
    codeAny (model prog w) A (.builtin "min.loop" ⟨[.ref I, .none, .ref S], kwD d⟩) R u := by
  have nw : S ∉ wr := fun q => nf (W.sub _ q)
  intro m
  induction m with
  | zero =>
    intro j u best c em hj st pb gS out
    have ej : j + 1 = n := by omega
    refine codeAny_builtin PySem.F.entry_min_loop ?_
    rw [Around.under_plainId PySem.F.plain_min_loop _]
    show wpAny _ A.in1 (seqItems? (.ref S) >>= _) _ _ u
    refine wpAny_bind (wpAny_seqItems gS rfl ?_)
    show wpAny _ A.in1 (tryCatch (pyNext (.ref I)) _ >>= _) _ _ u
    refine wpAny_bind (wpAny_tryCatch (W.done u _ _ (ej ▸ st) fun g tk keep => ?_))
    have gS2 := keep S _ nw gS
    show wpAny _ A.in1 (updateSeq S (fun _ => #[]) >>= _) _ _ _
    refine wpAny_bind (wpAny_updateSeq gS2 rfl (wpAny_bind (wpAny_letGo (wpAny_pure ?_))))
    exact out best _ tk (by rw [← ej]; exact pb) fun b o hb hS e => (Heap.get?_update_other _ _ (Ne.symm hS)).trans (keep b o hb e)
  | succ m ih =>
    intro j u best c em hj st pb gS out
    have lt : j + 1 < n := by omega
    refine codeAny_builtin PySem.F.entry_min_loop ?_
    rw [Around.under_plainId PySem.F.plain_min_loop _]
    show wpAny _ A.in1 (seqItems? (.ref S) >>= _) _ _ u
    refine wpAny_bind (wpAny_seqItems gS rfl ?_)
    show wpAny _ A.in1 (tryCatch (pyNext (.ref I)) _ >>= _) _ _ u
    refine wpAny_bind (wpAny_tryCatch (W.item (j + 1) u _ _ lt st fun v g tk pv st2 keep => ?_))
    have gS2 := keep S _ nw gS
    show wpAny _ A.in1 (tryCatch (holding [v, v] (richCompare .Lt v best >>= _)) _ >>= _) _ _ _
    refine wpAny_bind (wpAny_tryCatch (wpAny_holding (wpAny_bind (cm (j + 1) (argBest bt j) v best _ _ _ pv pb ?_))))
    refine wpAny_bind (wpAny_holding (wpAny_truthy_bool (wpAny_bind (wpAny_letGo (wpAny_pure ?_)))))
    cases hb : bt (j + 1) (argBest bt j) with
    | true =>
      simp only [if_true]
      refine wpAny_bind (wpAny_updateSeq gS2 rfl (wpAny_bind (wpAny_letGo ?_)))
      rw [nameL]
      refine wpAny_pure ⟨plainId_quiet PySem.F.plain_min_loop _, ih (j + 1) _ v _ (by omega) lt (W.frame _ _ _ st2 fun b bf o e => ?_) (by simp only [argBest, hb, if_true]; exact pv) (Heap.get?_update_self _ gS2 rfl)
        fun v2 g2 tk2 p2 keep2 => ?_⟩
      · exact (Heap.get?_update_other _ _ (fun q : S = b => nf (by rw [q]; exact bf))).trans e
      · exact out v2 g2 tk2 p2 fun b o hw hS e => keep2 b o hw hS ((Heap.get?_update_other _ _ (Ne.symm hS)).trans (keep b o hw e))
    | false =>
      simp only [Bool.false_eq_true, if_false]
      refine wpAny_bind (wpAny_letGo ?_)
      rw [nameL]
      exact wpAny_pure ⟨plainId_quiet PySem.F.plain_min_loop _, ih (j + 1) _ best c (by omega) lt st2 (by simp only [argBest, hb, Bool.false_eq_true, if_false]; exact pb) gS2 fun v2 g2 tk2 p2 keep2 =>
        out v2 g2 tk2 p2 fun b o hw hS e => keep2 b o hw hS (keep b o hw e)⟩
theorem firstD (W : Walks prog w A.in1 I fp wr n P St) (bt : Nat → Nat → Bool) (cm : CmpOf prog w A.in1 .Lt P bt) (nf : S ∉ fp) {u : Shared} {c : Nat} (st : St 0 u.heap)
    (gS : u.heap.get? S = some { cls := .type "list", dict := none, data := .seq #[] c, slots := #[] })
    (out : ∀ v g tk, (0 < n → P (argBest bt (n - 1)) v) → (n = 0 → v = d) → (∀ b o, b ∉ wr → b ≠ S → u.heap.get? b = some o → g.get? b = some o) → R (.ok (.ret v)) { u with heap := g, toks := tk }) :
    codeAny (model prog w) A (.builtin "min.loop" ⟨[.ref I, .none, .ref S], kwD d⟩) R u := by
  have nw : S ∉ wr := fun q => nf (W.sub _ q)
  refine codeAny_builtin PySem.F.entry_min_loop ?_
  rw [Around.under_plainId PySem.F.plain_min_loop _]
  show wpAny _ A.in1 (seqItems? (.ref S) >>= _) _ _ u
  refine wpAny_bind (wpAny_seqItems gS rfl ?_)
  show wpAny _ A.in1 (tryCatch (pyNext (.ref I)) _ >>= _) _ _ u
  by_cases h0 : 0 < n
  · refine wpAny_bind (wpAny_tryCatch (W.item 0 u _ _ h0 st fun v g tk pv st2 keep => ?_))
    have gS2 := keep S _ nw gS
    show wpAny _ A.in1 (updateSeq S (fun _ => #[v, v]) >>= _) _ _ _
    refine wpAny_bind (wpAny_updateSeq gS2 rfl ?_)
    rw [nameL]
    refine wpAny_pure ⟨plainId_quiet PySem.F.plain_min_loop _, loopD W bt cm nf _ 0 _ v _ rfl h0 (W.frame _ _ _ st2 fun b bf o e => ?_) pv (Heap.get?_update_self _ gS2 rfl) fun v2 g2 tk2 p2 keep2 => ?_⟩
    · exact (Heap.get?_update_other _ _ (fun q : S = b => nf (by rw [q]; exact bf))).trans e
    · exact out v2 g2 tk2 (fun _ => p2) (fun z => by omega) fun b o hw hS e => keep2 b o hw hS ((Heap.get?_update_other _ _ (Ne.symm hS)).trans (keep b o hw e))
  · have e0 : n = 0 := by omega
    refine wpAny_bind (wpAny_tryCatch (W.done u _ _ (by rw [e0]; exact st) fun g tk keep => ?_))
    show wpAny _ A.in1 (rule _ >>= _) _ _ _
    refine wpAny_bind (wpAny_rule (wpAny_pure ?_))
    exact out d g tk (fun z => absurd z h0) (fun _ => rfl) fun b o hw _ e => keep b o hw e
end
section
variable {prog : Program} {w : World} {A : Around} {E : Value → Shared → Prop} {s : Shared} {d : Value}
theorem args_d (a v : Value) : argsOk "min" ⟨[a], kwD v⟩ := by
  unfold argsOk
  kernel_rfl
theorem callD {l : Addr} {xs : Array (Int × Tok)} {Q : Value → Shared → Prop} (hh : A.handled = none) (hl : s.heap.IsList l (intItems xs))
    (h : ∀ v g tk, (0 < xs.size → (intItems xs)[argBest (fun i j => decide (numAt xs i < numAt xs j)) (xs.size - 1)]? = some v) → (xs.size = 0 → v = d) → (∀ b o, s.heap.get? b = some o → g.get? b = some o) → Q v { s with heap := g, toks := tk }) :
    wpAny (model prog w) A (call (.builtin "min") [.ref l] (kwD d)) Q E s := by
  refine kmk_tree PySem.F.kind_min PySem.F.plain_min PySem.F.entry_min (args_d _ _) ?_
  show wpAny _ A.in1 (Builtin.Builtins.bindParams "min" ["key", "default"] 0 ⟨[], kwD d⟩ >>= _) _ _ s
  refine wpAny_bind (wpAny_of_eq (show Builtin.Builtins.bindParams "min" ["key", "default"] 0 ⟨[], kwD d⟩ = pure [none, some d] from rfl) ?_)
  refine wpAny_bind (wpAny_pure ?_)
  refine wpAny_bind (iter_intList hl fun u eu st hfp hlI => ?_)
  subst eu
  refine wpAny_bind (wpAny_newObj_type ?_)
  rw [nameL]
  refine wpAny_pure ⟨plainId_quiet PySem.F.plain_min_loop _, firstD (Walks.list (A := A.in1) hh _ l hlI (intItems xs)) _ (CmpOf.ints_lt (numAt xs) (fun _ _ => intItems_at)) (fun hm => Nat.lt_irrefl _ (hfp _ hm)) ?_ (Heap.get?_push_size _ rfl) fun v g tk p1 p2 keep => ?_⟩
  · exact (Walks.list (prog := prog) (w := w) (A := A.in1) hh _ l hlI (intItems xs)).frame _ _ _ st fun b _ o e => Heap.get?_push_of_some _ e
  · have hsz : (intItems xs).size = xs.size := by simp [intItems]
    refine h v g tk (fun z => by have := p1 (by rw [hsz]; exact z); rw [hsz] at this; exact this) (fun z => p2 (by rw [hsz]; exact z)) (old_kept (l := l) fun b o hb e => ?_)
    exact keep b o hb (Nat.ne_of_lt (Heap.lt_size e)) (Heap.get?_push_of_some _ e)
end
theorem rawD {prog : Program} {w : World} {A : Around} {E : Value → Shared → Prop} {s : Shared} {l : Addr} {its : List Value} {ns : List Int} {z : Int} {t : Tok} {Q : Value → Shared → Prop} (hh : A.handled = none) (hl : s.heap.IsList l its.toArray) (hi : IntsAre its ns)
    (h : ∀ (g : Heap) (tk : Nat) (m : Int) (t' : Tok), (∀ b o, s.heap.get? b = some o → g.get? b = some o) → (ns = [] → m = z) → (ns ≠ [] → m ∈ ns ∧ ∀ y ∈ ns, m ≤ y) → Q (.int m t') { s with heap := g, toks := tk }) :
    wpAny (model prog w) A (call (.builtin "min") [.ref l] (kwD (.int z t))) Q E s := by
  obtain ⟨xs, e⟩ := hi.allInts.items
  have hn : numsOf (intItems xs).toList = ns := by rw [← e]; exact hi.numsOf
  rw [PySem.nums_intItems] at hn
  subst hn
  rw [e] at hl
  refine callD hh hl fun v g tk p1 p2 keep => ?_
  by_cases c : 0 < xs.size
  · obtain ⟨u, rfl⟩ := intItems_at (p1 c)
    obtain ⟨a1, a2⟩ := argBest_lt (numAt xs) (xs.size - 1)
    refine h g tk _ u keep (fun z => ?_) fun _ => ⟨?_, fun y hy => ?_⟩
    · have q : xs.size = 0 := by simpa using congrArg List.length z
      omega
    · rw [PySem.numAt_eq]
      refine PySem.getD_mem ?_
      rw [List.length_map, Array.length_toList]
      exact Nat.lt_of_le_of_lt a1 (by omega)
    · obtain ⟨j, hj, rfl⟩ := PySem.mem_getD hy
      rw [List.length_map, Array.length_toList] at hj
      rw [← PySem.numAt_eq]
      exact a2 j (by omega)
  · rw [p2 (by omega)]
    refine h g tk z t keep (fun _ => rfl) fun q => absurd ?_ q
    have : xs = #[] := Array.eq_empty_of_size_eq_zero (by omega)
    rw [this]
    rfl
end MinD
namespace Bx
open PySem PySem.Spec PyProof.Rows L2
def rMinD (K : PySem.W.Frag) : List V → List V → Hp → VK → Prop := fun xs zs H Q => ∃ (a : Addr) (ns : List Int) (z : Int), xs = [.ref a] ∧ zs = [.int z] ∧ SqL K H a (ns.map V.int) ∧
  ∀ m, (ns = [] → m = z) → (ns ≠ [] → m ∈ ns ∧ ∀ y ∈ ns, m ≤ y) → Q (.int m) H
theorem call_minD {X : Cx} {K : PySem.W.Frag} (h : X.K = K) (hc : X.calm = true) : CallRK X (.builtin "min") ["default"] (rMinD K) := by
  subst h
  intro pins s σ H xs zs us ws Q I r r2 hw
  obtain ⟨a, ns, z, rfl, rfl, hs, q⟩ := hw
  obtain ⟨its, rv, hl, _⟩ := I.list hs
  rw [Vals.ref1 r]
  obtain ⟨u, rfl, ru⟩ := vals1 r2
  obtain ⟨t, rfl⟩ := ru
  exact MinD.rawD (I.ok.hd hc) hl.isList rv.ints fun g tk m t' hk h1 h2 => ⟨.int m, H, I.kept hk, ⟨_, rfl⟩, q m h1 h2⟩
end Bx
namespace Bx
open PySem PySem.Spec PyProof.Rows L2
/-! ### rules over the written part by its name -/
section
variable {X : Cx} {K : PySem.W.Frag}
theorem ix_tupK (h : X.K = K) : IxR X (rIxT K) := h ▸ ix_tup
theorem ix_listK (h : X.K = K) : IxR X (rIxL K) := h ▸ ix_list
theorem ix_seqK (h : X.K = K) : IxR X (rIx K) := h ▸ ix_seq
def rLen (K : PySem.W.Frag) : List V → Hp → VK → Prop := fun xs H Q => ∃ (p : Addr) (ys : List V), xs = [.ref p] ∧ (SqL K H p ys ∨ SqT K H p ys) ∧ Q (.int ys.length) H
theorem call_lenK (h : X.K = K) : CallR X (.builtin "len") (rLen K) := by
  subst h
  exact call_len_seq
def rTupOf (K : PySem.W.Frag) : List V → Hp → VK → Prop := fun xs H Q => ∃ (p : Addr) (ys : List V), xs = [.ref p] ∧ ((SqL K H p ys ∧ ∀ l, H l = none → Q (.ref l) (upd H l (.tup ys))) ∨ (SqT K H p ys ∧ Q (.ref p) H))
theorem call_tuple_ofK (h : X.K = K) : CallR X (.type "tuple") (rTupOf K) := by
  subst h
  exact call_tuple_of
def rLstOf (K : PySem.W.Frag) : List V → Hp → VK → Prop := fun xs H Q => ∃ (p : Addr) (ys : List V), xs = [.ref p] ∧ (SqL K H p ys ∨ SqT K H p ys) ∧ ∀ l, H l = none → Q (.ref l) (upd H l (.lst ys))
theorem call_list_ofK (h : X.K = K) : CallR X (.type "list") (rLstOf K) := by
  subst h
  exact call_list_of
end
end Bx
/-! ### heaps: what one list at d may lose, all else as it was -/
namespace Bx
open PySem PySem.Spec PyProof.Rows L2
def Kp (d : Addr) (H H' : Hp) : Prop := ∀ b o, b ≠ d → H b = some o → H' b = some o
theorem Kp.refl (d : Addr) (H : Hp) : Kp d H H := fun _ _ _ h => h
theorem Kp.trans {d : Addr} {H H1 H2 : Hp} (a : Kp d H H1) (b : Kp d H1 H2) : Kp d H H2 := fun c o n h => b c o n (a c o n h)
theorem Same.kp {d : Addr} {H H' : Hp} (s : Same H H') : Kp d H H' := fun b o _ h => s b o h
theorem Kp.own {d : Addr} {H : Hp} {o : HO} : Kp d H (upd H d o) := fun b _ n h => by rw [upd_ne n]; exact h
theorem same_new {H : Hp} {p : Addr} {o : HO} (h : H p = none) : Same H (upd H p o) := fun b x e => by
  rw [upd_ne (ne_of_none e h)]
  exact e
theorem Kp.new {d p : Addr} {H : Hp} {o : HO} (h : H p = none) : Kp d H (upd H p o) := Same.kp (same_new h)
theorem upd_self {H : Hp} {d : Addr} {o : HO} (h : H d = some o) : upd H d o = H := by
  funext b
  by_cases e : b = d
  · rw [e, upd_same, h]
  · rw [upd_ne e]
/-- a list of ints at d -/
def Ints (H : Hp) (d : Addr) (xs : List Int) : Prop := H d = some (.lst (xs.map V.int))
/-- the draws: some list of ints -/
def Drw (H : Hp) (d : Addr) : Prop := ∃ ds : List Int, H d = some (.lst (ds.map V.int))
theorem Drw.new {H : Hp} {d p : Addr} {o : HO} (h : Drw H d) (n : H p = none) : Drw (upd H p o) d := by
  obtain ⟨ds, e⟩ := h
  exact ⟨ds, same_new n _ _ e⟩
theorem Drw.own {H : Hp} {d : Addr} {ds : List Int} : Drw (upd H d (.lst (ds.map V.int))) d := ⟨ds, upd_same⟩
theorem Drw.same {H H' : Hp} {d : Addr} (h : Drw H d) (s : Same H H') : Drw H' d := by
  obtain ⟨ds, e⟩ := h
  exact ⟨ds, s _ _ e⟩
/-- a tuple of ints -/
def TupI (H : Hp) (a : Addr) (xs : List Int) : Prop := H a = some (.tup (xs.map V.int))
theorem Drw.ne_tup {H : Hp} {d a : Addr} {xs : List V} (h : Drw H d) (e : H a = some (.tup xs)) : a ≠ d := by
  obtain ⟨ds, e2⟩ := h
  exact ne_of e e2 (by intro z; cases z)
/-- a lasso: a pair of tuples of ints -/
def Las (H : Hp) (p : Addr) (h l : List Int) : Prop := ∃ a b, H p = some (.tup [.ref a, .ref b]) ∧ H a = some (.tup (h.map V.int)) ∧ H b = some (.tup (l.map V.int))
theorem Las.keep {H H' : Hp} {d p : Addr} {h l : List Int} (k : Kp d H H') (w : Drw H d) (x : Las H p h l) : Las H' p h l := by
  obtain ⟨a, b, e1, e2, e3⟩ := x
  exact ⟨a, b, k _ _ (w.ne_tup e1) e1, k _ _ (w.ne_tup e2) e2, k _ _ (w.ne_tup e3) e3⟩
theorem Las.same {H H' : Hp} {p : Addr} {h l : List Int} (k : Same H H') (x : Las H p h l) : Las H' p h l := by
  obtain ⟨a, b, e1, e2, e3⟩ := x
  exact ⟨a, b, k _ _ e1, k _ _ e2, k _ _ e3⟩
theorem lenI {xs : List Int} (h : xs.length ≤ 1000000) : (xs.map V.int).length < sizeLine := by
  rw [List.length_map]
  exact Nat.lt_of_le_of_lt h (by decide)
theorem ixN_at {n j : Nat} (h : j < n) : ixN n (j : Int) = some j := by
  unfold ixN
  rw [if_pos (by omega), if_pos (by omega)]
  rfl
theorem set_mapI {xs : List Int} {j : Nat} {v : Int} : (xs.map V.int).set j (.int v) = (xs.set j v).map V.int := by rw [List.map_set]
/-- a list or a tuple of ints -/
def SeqI (H : Hp) (a : Addr) (xs : List Int) : Prop := H a = some (.lst (xs.map V.int)) ∨ H a = some (.tup (xs.map V.int))
theorem SeqI.sq {K : PySem.W.Frag} {H : Hp} {a : Addr} {xs : List Int} (h : SeqI H a xs) : SqL K H a (xs.map V.int) ∨ SqT K H a (xs.map V.int) := by
  rcases h with h | h
  · exact .inl (.of h)
  · exact .inr (.of h)
theorem SeqI.same {H H' : Hp} {a : Addr} {xs : List Int} (k : Same H H') (h : SeqI H a xs) : SeqI H' a xs := by
  rcases h with h | h
  · exact .inl (k _ _ h)
  · exact .inr (k _ _ h)
/-- a pair of lists or tuples of ints -/
def Pr (H : Hp) (p : Addr) (h l : List Int) : Prop := ∃ a b, H p = some (.tup [.ref a, .ref b]) ∧ SeqI H a h ∧ SeqI H b l
theorem Las.pr {H : Hp} {p : Addr} {h l : List Int} (x : Las H p h l) : Pr H p h l := by
  obtain ⟨a, b, e1, e2, e3⟩ := x
  exact ⟨a, b, e1, .inr e2, .inr e3⟩
theorem Pr.same {H H' : Hp} {p : Addr} {h l : List Int} (k : Same H H') (x : Pr H p h l) : Pr H' p h l := by
  obtain ⟨a, b, e1, e2, e3⟩ := x
  exact ⟨a, b, k _ _ e1, e2.same k, e3.same k⟩
/-- an item -/
theorem ixq {K : PySem.W.Frag} {H : Hp} {a : Addr} {xs : List Int} {i : Int} {j : Nat} {v : V} {Q : VK} (h : SeqI H a xs) (ei : i = (j : Int)) (e : (xs.map V.int)[j]? = some v) (q : Q v H) : rIx K (.ref a) (.int i) H Q := by
  subst ei
  rcases h with h | h
  · exact .inl ⟨_, _, _, _, rfl, rfl, .of h, atI_nat e, q⟩
  · exact .inr (.inl ⟨_, _, _, _, rfl, rfl, .of h, atI_nat e, q⟩)
theorem ixq_last {K : PySem.W.Frag} {H : Hp} {a : Addr} {xs : List Int} {z : Int} {Q : VK} (h : SeqI H a xs) (e : xs.getLast? = some z) (q : Q (.int z) H) : rIx K (.ref a) (.int (-1)) H Q := by
  obtain ⟨ys, rfl⟩ := List.getLast?_eq_some_iff.mp e
  have g : atI ((ys ++ [z]).map V.int) (-1) = some (.int z) := by
    rw [List.map_append]
    exact atI_last _ _
  rcases h with h | h
  · exact .inl ⟨_, _, _, _, rfl, rfl, .of h, g, q⟩
  · exact .inr (.inl ⟨_, _, _, _, rfl, rfl, .of h, g, q⟩)
theorem at_map {xs : List Int} {j : Nat} (h : j < xs.length) : (xs.map V.int)[j]? = some (.int (xs.getD j 0)) := by
  rw [List.getElem?_map, List.getElem?_eq_getElem h, List.getD_eq_getElem?_getD, List.getElem?_eq_getElem h]
  rfl
/-! slices -/
section
variable {X : Cx} {K : PySem.W.Frag}
def rSlQ (K : PySem.W.Frag) : V → Option Int → Option Int → Hp → VK → Prop := fun x lo hi H Q => rSlL K x lo hi H Q ∨ rSlA K x lo hi H Q
theorem sl_seqK (h : X.K = K) : SlR X (rSlQ K) := by
  subst h
  exact sl_list.or sl_tupA
theorem sl_tupK (h : X.K = K) : SlR X (rSlA K) := by
  subst h
  exact sl_tupA
theorem sl_listK (h : X.K = K) : SlR X (rSlL K) := by
  subst h
  exact sl_list
theorem op_catK (h : X.K = K) : OpR X (binaryOp .Add) (rCatA K) := by
  subst h
  exact op_catA
theorem op_repTK (h : X.K = K) : OpR X (binaryOp .Mult) (rRepT K) := by
  subst h
  exact op_repT
theorem op_eqDK (h : X.K = K) (hu : X.A.units + 64 < cLine) : OpR X (compareOp .Eq) (rEqD K) := by
  subst h
  exact op_eqD hu
theorem op_neDK (h : X.K = K) (hu : X.A.units + 64 < cLine) : OpR X (compareOp .NotEq) (rNeD K) := by
  subst h
  exact op_neD hu
theorem call_minK (h : X.K = K) (hc : X.calm = true) : CallR X (.builtin "min") (rMin K) := by
  subst h
  exact cr_min hc
theorem call_isiK' (h : X.K = K) : CallR X (.builtin "isinstance") (rIsi K) := by
  subst h
  exact call_isi
end
theorem cut_map {xs : List Int} {lo hi : Option Int} : cutV (xs.map V.int) lo hi = ((xs.drop (HT.sIx xs.length 0 lo)).take (HT.sIx xs.length xs.length hi - HT.sIx xs.length 0 lo)).map V.int := by
  unfold cutV
  rw [List.length_map, List.map_take, List.map_drop]
/-- a slice of a tuple -/
theorem slt {K : PySem.W.Frag} {H : Hp} {a : Addr} {xs ys : List Int} {lo hi : Option Int} {Q : VK} (h : TupI H a xs) (e : (xs.drop (HT.sIx xs.length 0 lo)).take (HT.sIx xs.length xs.length hi - HT.sIx xs.length 0 lo) = ys)
    (q : ∀ (H' : Hp) (p : Addr), Same H H' → TupI H' p ys → Q (.ref p) H') : rSlA K (.ref a) lo hi H Q := by
  subst e
  refine ⟨a, _, rfl, .of h, fun w => ?_, fun _ p hp => q _ p (same_new hp) ?_⟩
  · refine q H a (Same.refl H) ?_
    rw [List.length_map] at w
    rw [w.1, w.2, List.drop_zero, Nat.sub_zero, List.take_length]
    exact h
  · unfold TupI
    rw [upd_same, cut_map]
/-- a slice of a list or tuple -/
theorem slq {K : PySem.W.Frag} {H : Hp} {a : Addr} {xs ys : List Int} {lo hi : Option Int} {Q : VK} (h : SeqI H a xs) (e : (xs.drop (HT.sIx xs.length 0 lo)).take (HT.sIx xs.length xs.length hi - HT.sIx xs.length 0 lo) = ys)
    (q : ∀ (H' : Hp) (p : Addr), Same H H' → SeqI H' p ys → Q (.ref p) H') : rSlQ K (.ref a) lo hi H Q := by
  rcases h with h | h
  · subst e
    refine .inl ⟨a, _, rfl, .of h, fun p hp => q _ p (same_new hp) (.inl ?_)⟩
    rw [upd_same, cut_map]
  · exact .inr (slt h e fun H' p s t => q H' p s (.inr t))
theorem cut_to (xs : List Int) (n : Nat) : (xs.drop (HT.sIx xs.length 0 none)).take (HT.sIx xs.length xs.length (some (n : Int)) - HT.sIx xs.length 0 none) = xs.take n := by
  rw [HT.sIx_none, HT.sIx_nat, List.drop_zero, Nat.sub_zero]
  rcases Nat.le_total n xs.length with c | c
  · rw [Nat.min_eq_left c]
  · rw [Nat.min_eq_right c, List.take_length, List.take_of_length_le c]
theorem cut_from (xs : List Int) {n : Nat} (hn : n ≤ xs.length) : (xs.drop (HT.sIx xs.length 0 (some (n : Int)))).take (HT.sIx xs.length xs.length none - HT.sIx xs.length 0 (some (n : Int))) = xs.drop n := by
  rw [HT.sIx_none, HT.sIx_nat, Nat.min_eq_left hn]
  exact List.take_of_length_le (by rw [List.length_drop]; exact Nat.le_refl _)
theorem slt_to {K : PySem.W.Frag} {H : Hp} {a : Addr} {xs : List Int} {k : Int} {n : Nat} {Q : VK} (h : TupI H a xs) (ek : k = (n : Int))
    (q : ∀ (H' : Hp) (p : Addr), Same H H' → TupI H' p (xs.take n) → Q (.ref p) H') : rSlA K (.ref a) none (some k) H Q := by
  subst ek
  exact slt h (cut_to xs n) q
theorem slt_from {K : PySem.W.Frag} {H : Hp} {a : Addr} {xs : List Int} {k : Int} {n : Nat} {Q : VK} (h : TupI H a xs) (ek : k = (n : Int)) (hn : n ≤ xs.length)
    (q : ∀ (H' : Hp) (p : Addr), Same H H' → TupI H' p (xs.drop n) → Q (.ref p) H') : rSlA K (.ref a) (some k) none H Q := by
  subst ek
  exact slt h (cut_from xs hn) q
theorem slq_to {K : PySem.W.Frag} {H : Hp} {a : Addr} {xs : List Int} {k : Int} {n : Nat} {Q : VK} (h : SeqI H a xs) (ek : k = (n : Int))
    (q : ∀ (H' : Hp) (p : Addr), Same H H' → SeqI H' p (xs.take n) → Q (.ref p) H') : rSlQ K (.ref a) none (some k) H Q := by
  subst ek
  exact slq h (cut_to xs n) q
theorem slq_mid {K : PySem.W.Frag} {H : Hp} {a : Addr} {xs : List Int} {k k2 : Int} {n m : Nat} {Q : VK} (h : SeqI H a xs) (ek : k = (n : Int)) (ek2 : k2 = (m : Int)) (hn : n ≤ xs.length) (hm : m ≤ xs.length)
    (q : ∀ (H' : Hp) (p : Addr), Same H H' → SeqI H' p ((xs.drop n).take (m - n)) → Q (.ref p) H') : rSlQ K (.ref a) (some k) (some k2) H Q := by
  subst ek
  subst ek2
  refine slq h ?_ q
  rw [HT.sIx_nat, HT.sIx_nat, Nat.min_eq_left hn, Nat.min_eq_left hm]
/-- tuple(x) -/
theorem tupq {K : PySem.W.Frag} {H : Hp} {a : Addr} {xs : List Int} {Q : VK} (h : SeqI H a xs) (q : ∀ (H' : Hp) (p : Addr), Same H H' → TupI H' p xs → Q (.ref p) H') : rTupOf K [.ref a] H Q := by
  rcases h with h | h
  · exact ⟨a, _, rfl, .inl ⟨.of h, fun p hp => q _ p (same_new hp) upd_same⟩⟩
  · exact ⟨a, _, rfl, .inr ⟨.of h, q H a (Same.refl H) h⟩⟩
/-- x + y of tuples -/
theorem catq {K : PySem.W.Frag} {H : Hp} {a b : Addr} {xs ys : List Int} {Q : VK} (h : TupI H a xs) (g : TupI H b ys) (hl : xs.length + ys.length ≤ 1000000) (q : ∀ (H' : Hp) (p : Addr), Same H H' → TupI H' p (xs ++ ys) → Q (.ref p) H') : rCatA K (.ref a) (.ref b) H Q := by
  refine ⟨a, b, _, _, rfl, rfl, .of h, .of g, ?_, fun z => ?_, fun _ z => ?_, fun _ _ p hp => ?_⟩
  · rw [List.length_map, List.length_map]
    exact Nat.le_trans hl (by decide)
  · have e : xs = [] := List.map_eq_nil_iff.mp z
    refine q H b (Same.refl H) ?_
    rw [e]
    exact g
  · have e : ys = [] := List.map_eq_nil_iff.mp z
    refine q H a (Same.refl H) ?_
    rw [e, List.append_nil]
    exact h
  · refine q _ p (same_new hp) ?_
    unfold TupI
    rw [upd_same, List.map_append]
/-- a slice of a list -/
theorem sll_from {K : PySem.W.Frag} {H : Hp} {a : Addr} {xs : List Int} {k : Int} {n : Nat} {Q : VK} (h : H a = some (.lst (xs.map V.int))) (ek : k = (n : Int)) (hn : n ≤ xs.length)
    (q : ∀ p, H p = none → Q (.ref p) (upd H p (.lst ((xs.drop n).map V.int)))) : rSlL K (.ref a) (some k) none H Q := by
  subst ek
  refine ⟨a, _, rfl, .of h, fun p hp => ?_⟩
  rw [cut_map, cut_from xs hn]
  exact q p hp
theorem sll_to {K : PySem.W.Frag} {H : Hp} {a : Addr} {xs : List Int} {k : Int} {n : Nat} {Q : VK} (h : H a = some (.lst (xs.map V.int))) (ek : k = (n : Int))
    (q : ∀ p, H p = none → Q (.ref p) (upd H p (.lst ((xs.take n).map V.int)))) : rSlL K (.ref a) none (some k) H Q := by
  subst ek
  refine ⟨a, _, rfl, .of h, fun p hp => ?_⟩
  rw [cut_map, cut_to xs n]
  exact q p hp
/-! == of data -/
theorem eqvAll_int : ∀ xs ys : List Int, PyData.eqvAll (xs.map PyData.int) (ys.map PyData.int) = decide (xs = ys)
  | [], [] => by simp [PyData.eqvAll]
  | [], y :: ys => by simp [PyData.eqvAll]
  | x :: xs, [] => by simp [PyData.eqvAll]
  | x :: xs, y :: ys => by
    rw [List.map_cons, List.map_cons, PyData.eqvAll, eqvAll_int xs ys, PyData.eqv]
    by_cases c : x = y
    · by_cases d : xs = ys
      · simp [c, d]
      · simp [c, d]
    · simp [c]
theorem eqv_tup (xs ys : List Int) : PyData.eqv (.tuple (xs.map PyData.int)) (.tuple (ys.map PyData.int)) = decide (xs = ys) := by
  rw [PyData.eqv]
  exact eqvAll_int xs ys
theorem eqv_lst (xs ys : List Int) : PyData.eqv (.list (xs.map PyData.int)) (.list (ys.map PyData.int)) = decide (xs = ys) := by
  rw [PyData.eqv]
  exact eqvAll_int xs ys
theorem layAll : ∀ xs : List Int, PyData.canLayAll0 (xs.map PyData.int) = true
  | [] => rfl
  | x :: xs => by
    rw [List.map_cons, PyData.canLayAll0, layAll xs]
    rfl
theorem depAll : ∀ xs : List Int, PyData.depthAll (xs.map PyData.int) = 0
  | [] => by simp [PyData.depthAll]
  | x :: xs => by
    rw [List.map_cons, PyData.depthAll, depAll xs]
    simp [PyData.depth]
theorem shaped_tup (xs : List Int) : SeqAt.shaped (.tuple (xs.map PyData.int)) = true := by
  unfold SeqAt.shaped
  rw [PyData.canLay0, layAll, PyData.depth, depAll]
  rfl
theorem shaped_lst (xs : List Int) : SeqAt.shaped (.list (xs.map PyData.int)) = true := by
  unfold SeqAt.shaped
  rw [PyData.canLay0, layAll, PyData.depth, depAll]
  rfl
theorem dpAll_int {K : PySem.W.Frag} {H : Hp} : ∀ xs : List Int, DpAll K H (xs.map V.int) (xs.map PyData.int)
  | [] => .nil
  | x :: xs => .cons (.int x) (dpAll_int xs)
theorem dp_lst {K : PySem.W.Frag} {H : Hp} {a : Addr} {xs : List Int} (h : H a = some (.lst (xs.map V.int))) : Dp K H (.ref a) (.list (xs.map PyData.int)) := .lst (.of h) (dpAll_int xs)
theorem dp_tup {K : PySem.W.Frag} {H : Hp} {a : Addr} {xs : List Int} (h : TupI H a xs) : Dp K H (.ref a) (.tuple (xs.map PyData.int)) := .tup (.of h) (dpAll_int xs)
theorem ite_ne {x y : Int} {A B : Prop} (h1 : x ≠ y → A) (h2 : x = y → B) : if (!decide (V.int x = V.int y)) = true then A else B := by
  by_cases c : x = y
  · rw [c, decide_eq_true rfl]
    exact iteF (h2 c)
  · rw [decide_eq_false (fun z => c (V.int.inj z))]
    exact iteT (h1 c)
theorem ite_eq {x y : Int} {A B : Prop} (h1 : x = y → A) (h2 : x ≠ y → B) : if decide (V.int x = V.int y) = true then A else B := by
  by_cases c : x = y
  · rw [c, decide_eq_true rfl]
    exact iteT (h1 c)
  · rw [decide_eq_false (fun z => c (V.int.inj z))]
    exact iteF (h2 c)
theorem ite_lt {x y : Int} {A B : Prop} (h1 : x < y → A) (h2 : y ≤ x → B) : if decide (x < y) = true then A else B := by
  by_cases c : x < y
  · rw [decide_eq_true c]
    exact iteT (h1 c)
  · rw [decide_eq_false c]
    exact iteF (h2 (by omega))
/-! ### the letters of a word -/
def wat (h l : List Int) (t : Nat) : Int := if t < h.length then h.getD t 0 else l.getD ((t - h.length) % l.length) 0
theorem wat_head {h l : List Int} {t : Nat} (c : t < h.length) : (h.map V.int)[t]? = some (.int (wat h l t)) := by
  unfold wat
  rw [if_pos c, List.getElem?_map, List.getElem?_eq_getElem c, List.getD_eq_getElem?_getD, List.getElem?_eq_getElem c]
  rfl
theorem wat_loop {h l : List Int} {t : Nat} (c : ¬ t < h.length) (n : l ≠ []) : (l.map V.int)[(t - h.length) % l.length]? = some (.int (wat h l t)) := by
  have hl : 0 < l.length := List.length_pos_iff.mpr n
  have c2 : (t - h.length) % l.length < l.length := Nat.mod_lt _ hl
  unfold wat
  rw [if_neg c, List.getElem?_map, List.getElem?_eq_getElem c2, List.getD_eq_getElem?_getD, List.getElem?_eq_getElem c2]
  rfl
theorem ix_mod {t n m : Nat} (h : n ≤ t) : ((t : Int) - (n : Int)) % (m : Int) = (((t - n) % m : Nat) : Int) := by
  have e : ((t : Int) - (n : Int)) = ((t - n : Nat) : Int) := by omega
  rw [e]
  rfl
/-! ### promises of the helpers -/
def spTake : Sp := fun vs H Q _ => ∃ (d : Addr) (n : Int), vs = [.ref d, .int n] ∧ Drw H d ∧ 0 < n ∧
  ∀ (r : Int) (ds : List Int), 0 ≤ r → r < n → Q (.int r) (upd H d (.lst (ds.map V.int)))
def spDraws (K : PySem.W.Frag) : Sp := fun vs H Q _ => ∃ (a : Addr) (ns : List Int) (c : Nat), vs = [.ref a, .int c] ∧ SqL K H a (ns.map V.int) ∧ c ≤ 1000 ∧
  ∀ (H' : Hp) (d : Addr), Same H H' → H d = none → Drw H' d → Q (.ref d) H'
def spAt : Sp := fun vs H Q _ => ∃ (p : Addr) (h l : List Int) (t : Nat), vs = [.ref p, .int t] ∧ Pr H p h l ∧ l ≠ [] ∧ Q (.int (wat h l t)) H
def spLasso : Sp := fun vs H Q _ => ∃ (d : Addr) (n : Int) (m : Nat), vs = [.ref d, .int n, .int m] ∧ Drw H d ∧ 0 < n ∧ 0 < m ∧ m ≤ 1000 ∧
  ∀ (H' : Hp) (p : Addr) (h l : List Int), Kp d H H' → Drw H' d → Las H' p h l → h.length ≤ m → l ≠ [] → l.length ≤ m → (∀ x ∈ h, 0 ≤ x ∧ x < n) → (∀ x ∈ l, 0 ≤ x ∧ x < n) → Q (.ref p) H'
/-- v says where f and g first differ below n -/
def IsDiff (f g : Nat → Int) (n : Nat) (v : V) : Prop := (v = .non ∧ ∀ t < n, f t = g t) ∨ ∃ t, t < n ∧ v = .int (t : Nat) ∧ f t ≠ g t ∧ ∀ s < t, f s = g s
theorem IsDiff.uniq {f g : Nat → Int} {n : Nat} {v u : V} (a : IsDiff f g n v) (b : IsDiff f g n u) : v = u := by
  rcases a with ⟨rfl, a⟩ | ⟨t, ht, rfl, a1, a2⟩
  · rcases b with ⟨rfl, b⟩ | ⟨s, hs, rfl, b1, b2⟩
    · rfl
    · exact absurd (a s hs) b1
  · rcases b with ⟨rfl, b⟩ | ⟨s, hs, rfl, b1, b2⟩
    · exact absurd (b t ht) a1
    · rcases Nat.lt_trichotomy t s with c | c | c
      · exact absurd (b2 t c) a1
      · rw [c]
      · exact absurd (a2 s c) b1
theorem IsDiff.swap {f g : Nat → Int} {n : Nat} {v : V} (a : IsDiff f g n v) : IsDiff g f n v := by
  rcases a with ⟨rfl, a⟩ | ⟨t, ht, rfl, a1, a2⟩
  · exact .inl ⟨rfl, fun t h => (a t h).symm⟩
  · exact .inr ⟨t, ht, rfl, a1.symm, fun s h => (a2 s h).symm⟩
def dfn (h1 l1 h2 l2 : List Int) : Nat := max h1.length h2.length + l1.length + l2.length
def spFd : Sp := fun vs H Q _ => ∃ (p q : Addr) (h1 l1 h2 l2 : List Int), vs = [.ref p, .ref q] ∧ Las H p h1 l1 ∧ Las H q h2 l2 ∧ l1 ≠ [] ∧ l2 ≠ [] ∧ dfn h1 l1 h2 l2 ≤ 1000000 ∧
  ∀ v, IsDiff (wat h1 l1) (wat h2 l2) (dfn h1 l1 h2 l2) v → Q v H
theorem max_if (a b : Nat) : (if ((b : Nat) : Int) > (a : Int) then (b : Int) else (a : Int)) = ((max a b : Nat) : Int) := by
  by_cases h : ((b : Nat) : Int) > (a : Int)
  · rw [if_pos h]
    omega
  · rw [if_neg h]
    omega
/-- the letters of a list, by places -/
def lw (l : List Int) : Nat → Int := fun i => l.getD i 0
def spPeriod : Sp := fun vs H Q _ => ∃ (a : Addr) (l : List Int), vs = [.ref a] ∧ SeqI H a l ∧ l ≠ [] ∧ l.length ≤ 1000000 ∧
  ∀ (H' : Hp) (r : Nat), Same H H' → Wd.Least (lw l) l.length r → Q (.int r) H'
/-- the normal form (h', l') of (h, l) -/
structure Short (h l h' l' : List Int) : Prop where
  ne : l' ≠ []
  same : ∀ t, wat h' l' t = wat h l t
  hl : h'.length ≤ h.length
  ll : l'.length ≤ l.length
  last : h' ≠ [] → h'.getLast? ≠ l'.getLast?
  prim : ∀ p, 0 < p → p < l'.length → p ∣ l'.length → ∃ i, i + p < l'.length ∧ lw l' i ≠ lw l' (i + p)
  memH : ∀ x ∈ h', x ∈ h
  memL : ∀ x ∈ l', x ∈ l
/-- the letter of the repeated word at any whole number of turns from where it begins -/
def bk (l : List Int) (r : Nat) (z : Int) : Int := lw l ((z % (r : Int)).toNat)
def rot (l : List Int) (r c : Nat) : List Int := (l.drop c).take (r - c) ++ l.take c
theorem rot_len {l : List Int} {r c : Nat} (hc : c < r) (hr : r ≤ l.length) : (rot l r c).length = r := by
  unfold rot
  rw [List.length_append, List.length_take, List.length_drop, List.length_take]
  omega
theorem lw_get {l : List Int} {i : Nat} (h : i < l.length) : l[i]? = some (lw l i) := by
  unfold lw
  rw [List.getD_eq_getElem?_getD, List.getElem?_eq_getElem h]
  rfl
theorem lw_of {l : List Int} {i : Nat} {x : Int} (h : l[i]? = some x) : lw l i = x := by
  unfold lw
  rw [List.getD_eq_getElem?_getD, h]
  rfl
theorem rot_at {l : List Int} {r c j : Nat} (hc : c < r) (hr : r ≤ l.length) (hj : j < r) : lw (rot l r c) j = lw l ((j + c) % r) := by
  apply lw_of
  unfold rot
  have e1 : ((l.drop c).take (r - c)).length = r - c := by
    rw [List.length_take, List.length_drop]
    omega
  rcases Nat.lt_or_ge j (r - c) with h | h
  · rw [List.getElem?_append_left (by rw [e1]; exact h), List.getElem?_take, if_pos h, List.getElem?_drop, Nat.mod_eq_of_lt (by omega), Nat.add_comm c j]
    exact lw_get (by omega)
  · rw [List.getElem?_append_right (by rw [e1]; exact h), e1, List.getElem?_take, if_pos (by omega)]
    have e2 : (j + c) % r = j - (r - c) := by
      rw [Nat.mod_eq_sub_mod (by omega), Nat.mod_eq_of_lt (by omega)]
      omega
    rw [e2]
    exact lw_get (by omega)
theorem bk_shift {l : List Int} {r : Nat} {a b z : Int} (h : a = b + r * z) : bk l r a = bk l r b := by
  unfold bk
  rw [h, Int.add_mul_emod_self_left]
theorem bk_nat {l : List Int} {r t : Nat} : bk l r (t : Int) = lw l (t % r) := rfl
theorem least_le {w : Nat → Int} {n r : Nat} (hn : 0 < n) (L : Wd.Least w n r) : r ≤ n := Nat.le_of_dvd hn L.dvd
/-- the letters of l repeated, by the least repetition -/
theorem cyc_least {l : List Int} {r : Nat} (hn : 0 < l.length) (L : Wd.Least (lw l) l.length r) (i : Nat) : lw l (i % l.length) = bk l r (i : Int) := by
  have h1 : Wd.cyc (lw l) l.length i = Wd.cyc (lw l) l.length (i % r) := L.rp.mod
  have h2 : Wd.cyc (lw l) l.length (i % r) = lw l (i % r) := Wd.cyc_lt (Nat.lt_of_lt_of_le (Nat.mod_lt _ L.pos) (least_le hn L))
  rw [bk_nat, ← h2, ← h1]
  rfl
theorem cut_lt {r : Nat} (hr : 0 < r) (z : Int) : (z % (r : Int)).toNat < r := by
  have h1 := Int.emod_nonneg z (show (r : Int) ≠ 0 by omega)
  have h2 := Int.emod_lt_of_pos z (show (0 : Int) < (r : Int) by omega)
  omega
theorem cut_int {r : Nat} (hr : 0 < r) (z : Int) : (((z % (r : Int)).toNat : Nat) : Int) = z - r * (z / r) := by
  have h1 := Int.emod_nonneg z (show (r : Int) ≠ 0 by omega)
  rw [Int.toNat_of_nonneg h1, Int.emod_def]
theorem rot_bk {l : List Int} {r : Nat} (hr0 : 0 < r) (hr : r ≤ l.length) (z : Int) (j : Nat) : lw (rot l r (z % (r : Int)).toNat) (j % r) = bk l r ((j : Int) + z) := by
  rw [rot_at (cut_lt hr0 z) hr (Nat.mod_lt _ hr0), Nat.mod_add_mod]
  have h : bk l r (((j + (z % (r : Int)).toNat : Nat)) : Int) = bk l r ((j : Int) + z) := bk_shift (z := -(z / r)) (by
    rw [Int.natCast_add, cut_int hr0, Int.mul_neg]
    omega)
  rw [← h]
  rfl
theorem short_of {h l : List Int} {r k : Nat} (hne : l ≠ []) (L : Wd.Least (lw l) l.length r) (hk : k ≤ h.length)
    (hB : ∀ t, k ≤ t → t < h.length → lw h t = bk l r ((t : Int) - (h.length : Int))) (hX : k = 0 ∨ lw h (k - 1) ≠ bk l r ((k : Int) - 1 - (h.length : Int))) :
    Short h l (h.take k) (rot l r (((k : Int) - (h.length : Int)) % (r : Int)).toNat) := by
  have hn : 0 < l.length := List.length_pos_iff.mpr hne
  have hr0 := L.pos
  have hr := least_le hn L
  have hlen := rot_len (cut_lt hr0 ((k : Int) - (h.length : Int))) hr
  have htk : (h.take k).length = k := by
    rw [List.length_take]
    omega
  refine ⟨fun z => ?_, fun t => ?_, by rw [htk]; exact hk, by rw [hlen]; exact hr, fun hh => ?_, fun p hp hpl hpd => ?_, fun x hx => List.mem_of_mem_take hx, fun x hx => ?_⟩
  · rw [z] at hlen
    have : (0 : Nat) = r := hlen
    omega
  · unfold wat
    rw [htk, hlen]
    by_cases c : t < k
    · rw [if_pos c, if_pos (by omega), List.getD_eq_getElem?_getD, List.getD_eq_getElem?_getD, List.getElem?_take, if_pos c]
    · rw [if_neg c]
      have e1 := rot_bk (l := l) hr0 hr ((k : Int) - (h.length : Int)) (t - k)
      have e2 : ((t - k : Nat) : Int) + ((k : Int) - (h.length : Int)) = (t : Int) - (h.length : Int) := by omega
      rw [e2] at e1
      show lw _ _ = _
      rw [e1]
      by_cases d : t < h.length
      · rw [if_pos d]
        exact (hB t (by omega) d).symm
      · rw [if_neg d]
        have e3 : (t : Int) - (h.length : Int) = ((t - h.length : Nat) : Int) := by omega
        rw [e3]
        exact (cyc_least hn L _).symm
  · have hk0 : k ≠ 0 := fun z => hh (by rw [z]; rfl)
    rcases hX with z | z
    · exact absurd z hk0
    · rw [List.getLast?_eq_getElem?, List.getLast?_eq_getElem?, htk, hlen]
      rw [List.getElem?_take, if_pos (by omega), lw_get (show k - 1 < h.length by omega), lw_get (show r - 1 < (rot l r _).length by rw [hlen]; omega)]
      intro q
      refine z ?_
      rw [Option.some.inj q]
      have e1 := rot_bk (l := l) hr0 hr ((k : Int) - (h.length : Int)) (r - 1)
      rw [Nat.mod_eq_of_lt (show r - 1 < r by omega)] at e1
      rw [e1]
      exact bk_shift (z := 1) (by omega)
  · rw [hlen] at hpl hpd ⊢
    apply Classical.byContradiction
    intro hno
    have hall : ∀ i, i + p < r → lw (rot l r (((k : Int) - (h.length : Int)) % (r : Int)).toNat) i = lw (rot l r (((k : Int) - (h.length : Int)) % (r : Int)).toNat) (i + p) := fun i hi =>
      Classical.byContradiction fun q => hno ⟨i, hi, q⟩
    have hrp := Wd.rp_of hp hpd hr0 hall
    have key : ∀ i, Wd.cyc (lw l) l.length i = Wd.cyc (lw (rot l r (((k : Int) - (h.length : Int)) % (r : Int)).toNat)) r (i + (r - (((k : Int) - (h.length : Int)) % (r : Int)).toNat)) := by
      intro i
      have hc := cut_lt hr0 ((k : Int) - (h.length : Int))
      have a1 : Wd.cyc (lw l) l.length i = bk l r (i : Int) := cyc_least hn L i
      have a2 := rot_at hc hr (Nat.mod_lt (i + (r - (((k : Int) - (h.length : Int)) % (r : Int)).toNat)) hr0)
      rw [a1]
      show _ = lw _ (_ % r)
      rw [a2, Nat.mod_add_mod, show i + (r - (((k : Int) - (h.length : Int)) % (r : Int)).toNat) + (((k : Int) - (h.length : Int)) % (r : Int)).toNat = i + r by omega, Nat.add_mod_right]
      rfl
    have hR : Wd.Rp (lw l) l.length p := fun i => by
      rw [key, key, Nat.add_right_comm]
      exact hrp _
    have := L.min p hp (Nat.dvd_trans hpd L.dvd) hR
    omega
  · unfold rot at hx
    rcases List.mem_append.mp hx with z | z
    · exact List.mem_of_mem_drop (List.mem_of_mem_take z)
    · exact List.mem_of_mem_take z
theorem rp_mod {w : Nat → Int} {n p q : Nat} (hp : Wd.Rp w n p) (hq : Wd.Rp w n q) : Wd.Rp w n (q % p) := fun i => by
  have a := hp.mul (q / p) (i + q % p)
  rw [Nat.mul_comm, Nat.add_assoc, Nat.mod_add_div] at a
  rw [← a]
  exact hq i
theorem rp_gcd {w : Nat → Int} {n : Nat} (p q : Nat) : Wd.Rp w n p → Wd.Rp w n q → Wd.Rp w n (Nat.gcd p q) := by
  induction p, q using Nat.gcd.induction with
  | H0 q => intro _ hq; rw [Nat.gcd_zero_left]; exact hq
  | H1 p q hp ih => intro h1 h2; rw [Nat.gcd_rec]; exact ih (rp_mod h1 h2) h1
/-- the normal form -/
structure Nrm (h l : List Int) : Prop where
  ne : l ≠ []
  last : h ≠ [] → h.getLast? ≠ l.getLast?
  prim : ∀ p, 0 < p → p < l.length → p ∣ l.length → ∃ i, i + p < l.length ∧ lw l i ≠ lw l (i + p)
theorem Short.nrm {h l h' l' : List Int} (s : Short h l h' l') : Nrm h' l' := ⟨s.ne, s.last, s.prim⟩
theorem Nrm.pos {h l : List Int} (N : Nrm h l) : 0 < l.length := List.length_pos_iff.mpr N.ne
theorem wat_cyc {h l : List Int} {t : Nat} (c : h.length ≤ t) : wat h l t = Wd.cyc (lw l) l.length (t - h.length) := by
  unfold wat
  rw [if_neg (by omega)]
  rfl
/-- every period that the word has from some turn on is a multiple of the loop's length -/
theorem Nrm.dvd {h l : List Int} (N : Nrm h l) {p M : Nat} (hP : ∀ t, M ≤ t → wat h l (t + p) = wat h l t) : l.length ∣ p := by
  have hr := N.pos
  have hRp : Wd.Rp (lw l) l.length p := fun i => by
    have self := Wd.rp_self (lw l) l.length
    have e1 := self.mul M i
    have e2 := self.mul M (i + p)
    have hM : M ≤ M * l.length := Nat.le_mul_of_pos_right M hr
    have q := hP (h.length + (i + M * l.length)) (by omega)
    rw [wat_cyc (by omega), wat_cyc (by omega)] at q
    rw [show h.length + (i + M * l.length) + p - h.length = i + p + M * l.length by omega, show h.length + (i + M * l.length) - h.length = i + M * l.length by omega, e1, e2] at q
    exact q
  have hg := rp_gcd p l.length hRp (Wd.rp_self (lw l) l.length)
  have gd : Nat.gcd p l.length ∣ l.length := Nat.gcd_dvd_right p l.length
  have gp : 0 < Nat.gcd p l.length := Nat.gcd_pos_of_pos_right p hr
  have gl := Nat.le_of_dvd hr gd
  rcases Nat.lt_or_ge (Nat.gcd p l.length) l.length with c | c
  · obtain ⟨i, hi, hne⟩ := N.prim _ gp c gd
    refine absurd ?_ hne
    have := hg i
    rw [Wd.cyc_lt hi, Wd.cyc_lt (by omega)] at this
    exact this.symm
  · have e : Nat.gcd p l.length = l.length := by omega
    rw [← e]
    exact Nat.gcd_dvd_left p l.length
theorem wat_per {h l : List Int} {t : Nat} (c : h.length ≤ t) : wat h l (t + l.length) = wat h l t := by
  rw [wat_cyc c, wat_cyc (by omega), show t + l.length - h.length = (t - h.length) + l.length by omega]
  exact Wd.rp_self (lw l) l.length _
theorem last_at {l : List Int} (n : l ≠ []) : l.getLast? = some (lw l (l.length - 1)) := by
  have := List.length_pos_iff.mpr n
  rw [List.getLast?_eq_getElem?]
  exact lw_get (by omega)
theorem Nrm.head_le {h l g m : List Int} (N : Nrm h l) (hs : ∀ t, wat h l t = wat g m t) (e : l.length = m.length) : h.length ≤ g.length := by
  rcases Nat.lt_or_ge g.length h.length with c | c
  · exfalso
    have hne : h ≠ [] := List.length_pos_iff.mp (by omega)
    refine N.last hne ?_
    rw [last_at hne, last_at N.ne]
    congr 1
    have hp := N.pos
    have a1 : wat h l (h.length - 1) = lw h (h.length - 1) := by
      unfold wat
      rw [if_pos (by omega)]
      rfl
    have a2 : wat h l (h.length - 1 + l.length) = lw l (l.length - 1) := by
      rw [wat_cyc (by omega), show h.length - 1 + l.length - h.length = l.length - 1 by omega, Wd.cyc_lt (by omega)]
    rw [← a1, ← a2, hs, hs, e]
    exact (wat_per (by omega)).symm
  · exact c
theorem Nrm.uniq {h l g m : List Int} (N : Nrm h l) (M : Nrm g m) (hs : ∀ t, wat h l t = wat g m t) : h = g ∧ l = m := by
  have d1 : l.length ∣ m.length := N.dvd (M := g.length) fun t ht => by
    rw [hs, hs]
    exact wat_per ht
  have d2 : m.length ∣ l.length := M.dvd (M := h.length) fun t ht => by
    rw [← hs, ← hs]
    exact wat_per ht
  have e : l.length = m.length := Nat.dvd_antisymm d1 d2
  have e2 : h.length = g.length := Nat.le_antisymm (N.head_le hs e) (M.head_le (fun t => (hs t).symm) e.symm)
  refine ⟨List.ext_getElem e2 fun i h1 h2 => ?_, List.ext_getElem e fun i h1 h2 => ?_⟩
  · have := hs i
    unfold wat at this
    rw [if_pos h1, if_pos h2, List.getD_eq_getElem?_getD, List.getD_eq_getElem?_getD, List.getElem?_eq_getElem h1, List.getElem?_eq_getElem h2] at this
    exact this
  · have := hs (h.length + i)
    rw [wat_cyc (by omega), wat_cyc (by omega), show h.length + i - h.length = i by omega, show h.length + i - g.length = i by omega, Wd.cyc_lt h1, Wd.cyc_lt h2] at this
    have a1 := lw_get h1
    have a2 := lw_get h2
    rw [List.getElem?_eq_getElem h1] at a1
    rw [List.getElem?_eq_getElem h2] at a2
    rw [Option.some.inj a1, Option.some.inj a2, this]
theorem at_last {l : List Int} (n : l ≠ []) : atI (l.map V.int) (-1) = some (.int (lw l (l.length - 1))) := by
  have hp := List.length_pos_iff.mpr n
  have e : l.map V.int = (l.dropLast.map V.int) ++ [.int (l.getLast n)] := by
    rw [← List.map_singleton, ← List.map_append, List.dropLast_concat_getLast]
  rw [e, atI_last]
  have q := last_at n
  rw [List.getLast?_eq_getLast n] at q
  rw [Option.some.inj q]
/-! repetition of a text -/
theorem flat_at {w : List Int} : ∀ (k i : Nat), i < k * w.length → (List.replicate k w).flatten[i]? = w[i % w.length]?
  | 0, i, h => by
    rw [Nat.zero_mul] at h
    exact absurd h (Nat.not_lt_zero i)
  | k + 1, i, h => by
    rw [List.replicate_succ, List.flatten_cons]
    rcases Nat.lt_or_ge i w.length with c | c
    · rw [List.getElem?_append_left c, Nat.mod_eq_of_lt c]
    · rw [List.getElem?_append_right c, flat_at k (i - w.length) (by rw [Nat.succ_mul] at h; omega), ← Nat.mod_eq_sub_mod c]
theorem flat_per {l : List Int} {p k : Nat} (hp : 0 < p) (hpl : p ≤ l.length) (e : l = (List.replicate k (l.take p)).flatten) (hk : k * p = l.length) : ∀ i, i + p < l.length → lw l i = lw l (i + p) := by
  intro i hi
  have el : (l.take p).length = p := by
    rw [List.length_take]
    omega
  have at_ : ∀ j, j < l.length → l[j]? = (l.take p)[j % p]? := fun j hj => by
    have h0 := flat_at (w := l.take p) k j (by rw [el, hk]; exact hj)
    rw [← e, el] at h0
    exact h0
  have h1 := at_ i (by omega)
  have h2 := at_ (i + p) hi
  rw [Nat.add_mod_right, ← h1, lw_get hi, lw_get (show i < l.length by omega)] at h2
  exact (Option.some.inj h2).symm
def spShort : Sp := fun vs H Q _ => ∃ (a b : Addr) (h l : List Int), vs = [.ref a, .ref b] ∧ SeqI H a h ∧ SeqI H b l ∧ l ≠ [] ∧ h.length ≤ 100000 ∧ l.length ≤ 100000 ∧
  ∀ (H' : Hp) (p : Addr) (h' l' : List Int), Same H H' → Las H' p h' l' → Short h l h' l' → Q (.ref p) H'
/-- what suffix hands back -/
def Suf (h l : List Int) (t : Nat) (h' l' : List Int) : Prop := Nrm h' l' ∧ (∀ i, wat h' l' i = wat h l (t + i)) ∧ h'.length ≤ h.length ∧ l'.length ≤ l.length ∧ (∀ x ∈ h', x ∈ h ∨ x ∈ l) ∧ ∀ x ∈ l', x ∈ l
def spSuffix : Sp := fun vs H Q _ => ∃ (p : Addr) (h l : List Int) (t : Nat), vs = [.ref p, .int t] ∧ Las H p h l ∧ l ≠ [] ∧ h.length ≤ 50000 ∧ l.length ≤ 50000 ∧
  ∀ (H' : Hp) (p' : Addr) (h' l' : List Int), Same H H' → Las H' p' h' l' → Suf h l t h' l' → Q (.ref p') H'
def spMake : Sp := fun vs H Q _ => ∃ (a b : Addr) (h l : List Int), vs = [.ref a, .ref b] ∧ H a = some (.lst (h.map V.int)) ∧ H b = some (.lst (l.map V.int)) ∧ l ≠ [] ∧ h.length ≤ 100000 ∧ l.length ≤ 100000 ∧ (∀ x ∈ h, 0 ≤ x) ∧ (∀ x ∈ l, 0 ≤ x) ∧
  ∀ (H' : Hp) (p : Addr) (h' l' : List Int), Same H H' → Las H' p h' l' → Short h l h' l' → Q (.ref p) H'
theorem suf_drop {h l : List Int} {t : Nat} (c : t < h.length) (i : Nat) : wat (h.drop t) l i = wat h l (t + i) := by
  unfold wat
  rw [List.length_drop]
  by_cases d : t + i < h.length
  · rw [if_pos d, if_pos (by omega), List.getD_eq_getElem?_getD, List.getD_eq_getElem?_getD, List.getElem?_drop]
  · rw [if_neg d, if_neg (by omega), show t + i - h.length = i - (h.length - t) by omega]
theorem suf_turn {h l : List Int} {t : Nat} (hn : l ≠ []) (c : h.length ≤ t) (i : Nat) : wat [] (l.drop ((t - h.length) % l.length) ++ l.take ((t - h.length) % l.length)) i = wat h l (t + i) := by
  have hp : 0 < l.length := List.length_pos_iff.mpr hn
  have hc := Nat.mod_lt (t - h.length) hp
  have e : l.drop ((t - h.length) % l.length) ++ l.take ((t - h.length) % l.length) = rot l l.length ((t - h.length) % l.length) := by
    have e3 : (l.drop ((t - h.length) % l.length)).take (l.length - (t - h.length) % l.length) = l.drop ((t - h.length) % l.length) := List.take_of_length_le (by rw [List.length_drop]; exact Nat.le_refl _)
    unfold rot
    rw [e3]
  rw [e, wat_cyc (Nat.zero_le _), wat_cyc (show h.length ≤ t + i by omega), rot_len hc (Nat.le_refl _)]
  show lw _ (_ % _) = lw _ (_ % _)
  rw [rot_at hc (Nat.le_refl _) (Nat.mod_lt _ hp), Nat.mod_add_mod, Nat.add_mod_mod]
  congr 2
  show i - 0 + _ = _
  omega
def spInts : Sp := fun vs H Q _ => ∃ (a : Addr) (xs : List Int) (lo hi : Int), vs = [.ref a, .int lo, .int hi] ∧ TupI H a xs ∧ (∀ x ∈ xs, lo ≤ x ∧ x < hi) ∧ Q (.bl true) H
def spNormal : Sp := fun vs H Q _ => ∃ (p : Addr) (h l : List Int), vs = [.ref p] ∧ Las H p h l ∧ Nrm h l ∧ l.length ≤ 1000 ∧ ∀ H', Same H H' → Q (.bl true) H'
def spIsLasso : Sp := fun vs H Q _ => ∃ (p : Addr) (h l : List Int) (n : Int), vs = [.ref p, .int n] ∧ Las H p h l ∧ Nrm h l ∧ l.length ≤ 1000 ∧ (∀ x ∈ h, 0 ≤ x ∧ x < n) ∧ (∀ x ∈ l, 0 ≤ x ∧ x < n) ∧ ∀ H', Same H H' → Q (.bl true) H'
/-! the same word in other forms -/
theorem wat_mem {h l : List Int} (n : l ≠ []) (t : Nat) : wat h l t ∈ h ∨ wat h l t ∈ l := by
  have hl : 0 < l.length := List.length_pos_iff.mpr n
  unfold wat
  by_cases c : t < h.length
  · rw [if_pos c, List.getD_eq_getElem?_getD, List.getElem?_eq_getElem c]
    exact .inl (List.getElem_mem c)
  · have c2 := Nat.mod_lt (t - h.length) hl
    rw [if_neg c, List.getD_eq_getElem?_getD, List.getElem?_eq_getElem c2]
    exact .inr (List.getElem_mem c2)
theorem range_getD {f : Nat → Int} {n t : Nat} (c : t < n) : ((List.range n).map f).getD t 0 = f t := by
  rw [List.getD_eq_getElem?_getD, List.getElem?_map, List.getElem?_range c]
  rfl
theorem wat_form {h l : List Int} {m k : Nat} (n : l ≠ []) (hk : 0 < k) (t : Nat) :
    wat ((List.range (h.length + m)).map (wat h l)) ((List.range (k * l.length)).map fun t => wat h l (h.length + m + t)) t = wat h l t := by
  have hl : 0 < l.length := List.length_pos_iff.mpr n
  have hkl : 0 < k * l.length := Nat.mul_pos hk hl
  rw [show wat ((List.range (h.length + m)).map (wat h l)) ((List.range (k * l.length)).map fun t => wat h l (h.length + m + t)) t
      = if t < ((List.range (h.length + m)).map (wat h l)).length then ((List.range (h.length + m)).map (wat h l)).getD t 0 else ((List.range (k * l.length)).map fun t => wat h l (h.length + m + t)).getD ((t - ((List.range (h.length + m)).map (wat h l)).length) % ((List.range (k * l.length)).map fun t => wat h l (h.length + m + t)).length) 0 from rfl]
  rw [List.length_map, List.length_range, List.length_map, List.length_range]
  by_cases c : t < h.length + m
  · rw [if_pos c, range_getD c]
  · rw [if_neg c, range_getD (Nat.mod_lt _ hkl), wat_cyc (by omega), wat_cyc (by omega)]
    show lw l (_ % _) = lw l (_ % _)
    congr 1
    have e1 : h.length + m + (t - (h.length + m)) % (k * l.length) - h.length = m + (t - (h.length + m)) % (k * l.length) := by omega
    have e2 : t - h.length = m + (t - (h.length + m)) := by omega
    rw [e1, e2, ← Nat.add_mod_mod, Nat.mod_mod_of_dvd _ ⟨k, Nat.mul_comm k l.length⟩, Nat.add_mod_mod]
theorem wat_front (f h l : List Int) (i : Nat) : wat (f ++ h) l (f.length + i) = wat h l i := by
  unfold wat
  rw [List.length_append]
  by_cases c : i < h.length
  · rw [if_pos c, if_pos (by omega), List.getD_eq_getElem?_getD, List.getD_eq_getElem?_getD, List.getElem?_append_right (by omega), Nat.add_sub_cancel_left]
  · rw [if_neg c, if_neg (by omega), show f.length + i - (f.length + h.length) = i - h.length by omega]
def dLas (h l : List Int) : PyData := .tuple [.tuple (h.map PyData.int), .tuple (l.map PyData.int)]
theorem dp_las {K : PySem.W.Frag} {H : Hp} {p : Addr} {h l : List Int} (x : Las H p h l) : Dp K H (.ref p) (dLas h l) := by
  obtain ⟨a, b, e1, e2, e3⟩ := x
  exact .tup (.of e1) (.cons (dp_tup e2) (.cons (dp_tup e3) .nil))
theorem shaped_las (h l : List Int) : SeqAt.shaped (dLas h l) = true := by
  unfold SeqAt.shaped dLas
  rw [PyData.canLay0, PyData.canLayAll0, PyData.canLayAll0, PyData.canLayAll0, PyData.canLay0, layAll, PyData.canLay0, layAll, PyData.depth, PyData.depthAll, PyData.depthAll, PyData.depthAll, PyData.depth, depAll, PyData.depth, depAll]
  rfl
theorem eqv_las (h l : List Int) : PyData.eqv (dLas h l) (dLas h l) = true := by
  unfold dLas
  rw [PyData.eqv, PyData.eqvAll, PyData.eqvAll, PyData.eqvAll, eqv_tup, eqv_tup]
  simp
def spCell (K : PySem.W.Frag) : Sp := fun vs H Q _ => ∃ (a : Addr) (ns : List Int) (k : Nat), vs = [.ref a, .int k] ∧ SqL K H a (ns.map V.int) ∧ ∀ v : Int, Q (.int v) H
def spNegX (C : Addr) : Sp := fun vs H _ E => ∃ (p : Addr) (t : Int), vs = [.ref p, .int t] ∧ t < 0 ∧ E (.ref C) none H
def spRefuses : Sp := fun vs H Q _ => ∃ (p : Addr) (t : Int), vs = [.ref p, .int t] ∧ t < 0 ∧ Q (.bl true) H
def spSame : Sp := fun vs H Q _ => ∃ (p q : Addr) (h l h2 l2 : List Int), vs = [.ref p, .ref q] ∧ Pr H p h l ∧ Pr H q h2 l2 ∧ l ≠ [] ∧ l2 ≠ [] ∧ dfn h l h2 l2 ≤ 1000000 ∧ (∀ t, wat h l t = wat h2 l2 t) ∧ Q (.bl true) H
def spMakeX (cE cL : Addr) : Sp := fun vs H Q E => ∃ (a b : Addr) (h l : List Int), vs = [.ref a, .ref b] ∧ H a = some (.lst (h.map V.int)) ∧ H b = some (.lst (l.map V.int)) ∧ h.length ≤ 100000 ∧ l.length ≤ 100000 ∧
  (l = [] → E (.ref cE) none H) ∧ (l ≠ [] → (∃ x, (x ∈ h ∨ x ∈ l) ∧ x < 0) → E (.ref cL) none H) ∧
  (l ≠ [] → (∀ x, x ∈ h ∨ x ∈ l → 0 ≤ x) → ∀ (H' : Hp) (p : Addr) (h' l' : List Int), Same H H' → Las H' p h' l' → Short h l h' l' → Q (.ref p) H')
def spOut : Sp := fun vs H Q _ => ∃ (a b : Addr) (h l : List Int), vs = [.ref a, .ref b] ∧ H a = some (.lst (h.map V.int)) ∧ H b = some (.lst (l.map V.int)) ∧ h.length ≤ 100000 ∧ l.length ≤ 100000 ∧
  (l = [] → ∀ (H' : Hp) (p : Addr), Same H H' → H' p = some (.tup [.str "empty", .bl true]) → Q (.ref p) H') ∧
  (l ≠ [] → (∃ x, (x ∈ h ∨ x ∈ l) ∧ x < 0) → ∀ (H' : Hp) (p : Addr), Same H H' → H' p = some (.tup [.str "letter", .bl true]) → Q (.ref p) H') ∧
  (l ≠ [] → (∀ x, x ∈ h ∨ x ∈ l → 0 ≤ x) → ∀ (H' : Hp) (p q : Addr) (h' l' : List Int), Same H H' → H' p = some (.tup [.str "lasso", .ref q]) → Las H' q h' l' → Short h l h' l' → Q (.ref p) H')
theorem neg_cases (h l : List Int) : (∃ x, (x ∈ h ∨ x ∈ l) ∧ x < 0) ∨ ∀ x, x ∈ h ∨ x ∈ l → 0 ≤ x := by
  by_cases c : ∃ x, (x ∈ h ∨ x ∈ l) ∧ x < 0
  · exact .inl c
  · exact .inr fun x hx => by
      rcases Int.lt_or_le x 0 with z | z
      · exact absurd ⟨x, hx, z⟩ c
      · exact z
def spIsInt : Sp := fun vs H Q _ => ∃ (i : Int), vs = [.int i] ∧ Q (.bl true) H
end Bx
/-! ### own errors, two levels below ValueError -/
namespace Bx
open PySem PySem.Spec PyProof.Rows L2
abbrev veB : List Value := [.type "ValueError", .type "Exception", .type "BaseException", .type "object"]
structure ErrC (K : PySem.W.Frag) (mg : Str → Option Value) (x : Str) (C : Addr) : Prop where
  g : mg x = some (.ref C)
  ex : PySem.W.excIn K C veB "ValueError.__new__" = true
  kp : PySem.W.keepIn K (.ref C) = true
  ty : PySem.W.typeIn K (.ref C) = some (.type "type")
  sf : PySem.W.subIn K (.ref C) (.ref C) = some true
  ec : ExcC K C
theorem ErrC.exm {K : PySem.W.Frag} {mg : Str → Option Value} {x : Str} {C : Addr} {cls : Value} {b : Bool} (e : ErrC K mg x C) (h : PySem.W.subIn K cls (.ref C) = some b) : PySem.W.exmOne K cls (.ref C) = some b := PySem.W.exm_ref e.ec.hs e.ec.hd e.ty h
theorem ErrC.me {K : PySem.W.Frag} {mg : Str → Option Value} {x : Str} {C : Addr} (e : ErrC K mg x C) : PySem.W.exmOne K (.ref C) (.ref C) = some true := e.exm e.sf
/-- raise X('..') -/
theorem ErrC.made {X : Cx} {C : Addr} {x m : Str} {j : Nat} {p p2 pos : Pos} (e : ErrC X.K X.mg x C) (hg : Gl X x) (hd : (x == ("__debug__" : Str)) = false := by decide) : PMk X (.Call (.Name x p) [.Constant (.str m) j p2] [] pos) (fun _ H Q => Q (.ref C) none H) :=
  pmk_own PySem.F.excBase_ValueError e.ex e.g e.kp (raises_own e.ec.hs e.ty) hg hd
/-- isinstance(e, c), e the exception that the suite holds -/
def rIsEx (K : PySem.W.Frag) (a : Addr) (cls : Value) (d : Option Addr) : List V → Hp → VK → Prop := fun xs H Q => ∃ D : Addr, cls = .ref D ∧ d = none ∧ ExcC K D ∧ rIsE K D a xs H Q
theorem call_isEx {X : Cx} {K : PySem.W.Frag} {a : Addr} {cls : Value} {d : Option Addr} {oe : Obj} {pn : List (Addr × Obj)} (h : X.K = K) (hz : Zc cls d oe) (hf : ∃ vs, oe.data = .fields vs) : CallR (X.suite a ((a, oe) :: pn)) (.builtin "isinstance") (rIsEx K a cls d) := by
  subst h
  intro pins s σ H xs us Q I r hw
  obtain ⟨D, rfl, rfl, C, hw⟩ := hw
  exact call_isE C hz hf pins s σ H xs us Q I r hw
/-- a def that may raise, by its name -/
structure CalX (P : Program) (w : World) (K : PySem.W.Frag) (mg : Str → Option Value) (base : Heap) (k : Nat) (x : Str) (sp : Sp) : Prop where
  ex : ∃ (f : Addr) (fd : FuncData) (ps : List Str), FnOk P w K mg base (L2.CX P w) k f fd ps sp ∧ mg x = some (.ref f) ∧ PySem.W.keepIn K (.ref f) = true ∧ Binds K fd ps []
theorem pe_cx {X : Cx} {k j : Nat} {x : Str} {sp : Sp} {W : WX} {p pos : Pos} {e : Expr} {es : List Expr} {t : TA} (c : CalX X.prog X.w X.K X.mg X.base k x sp) (hr : Room j X.A) (hk : k ≤ j) (tk : Takes X W) (hg : Gl X x) (ha : PA X (e :: es) t)
    (hdb : (x == ("__debug__" : Str)) = false := by decide) (he : starEach (e :: es) X.env = (false, eval e X.env) :: starEach es X.env := by rfl) (hpl : (backTo pos (starEach es X.env)).any (·.1) = false := by rfl) :
    PE X (.Call (.Name x p) (e :: es) [] pos) (tCallS sp (WE W) t) := by
  obtain ⟨f, fd, ps, F, hm, kp, b⟩ := c.ex
  exact pe_callS F (hr.mono hk) hg hm kp b (fun σ => passAt tk σ) ha hdb he hpl
end Bx
/-! ### several clauses, each with its name: own rule -/
namespace Bx
open PySem PySem.Spec PyProof.Rows L2
/-- what the clauses wish, one after the other: (class, the name's slot, the suite's reading) -/
def wAll (K : PySem.W.Frag) (Wo : WX) (D : Ends) : List (Value × Nat × (Addr → Value → Option Addr → TS)) → WX
  | [] => Wo
  | (c, i, ts) :: r => fun cls d σ H => ∃ b, PySem.W.exmOne K cls c = some b ∧
    (b = true → ∀ a, H a = none → ts a cls d { nx := fun σ' H' => D.nx (σ'.set i none) H', rt := D.rt, bk := fun σ' H' => D.bk (σ'.set i none) H', ct := fun σ' H' => D.ct (σ'.set i none) H' } (σ.set i (some (.ref a))) H) ∧
    (b = false → wAll K Wo D r cls d σ H)
inductive Clauses (Y : Cx) : List ExceptHandler → List (Value × Nat × (Addr → Value → Option Addr → TS)) → Prop
  | nil : Clauses Y [] []
  | cons {x n : Str} {c : Value} {i : Nat} {ts : Addr → Value → Option Addr → TS} {b0 : Stmt} {suite : List Stmt} {p p' : Pos} {cs : List ExceptHandler} {l : List (Value × Nat × (Addr → Value → Option Addr → TS))}
      (hc : Names Y x c) (hi : Y.N[i]? = some n) (hl : Y.env.kindOf n = some .local)
      (su : ∀ (a : Addr) (oe : Obj) (cls : Value) (d : Option Addr) (pn : List (Addr × Obj)), Zc cls d oe → (∃ vs, oe.data = .fields vs) → PSs (Y.suite a ((a, oe) :: pn)) (b0 :: suite) (ts a cls d)) (r : Clauses Y cs l) :
      Clauses Y (.ExceptHandler (some (.Name x p)) (some n) (b0 :: suite) p' :: cs) ((c, i, ts) :: l)
theorem ps_try_all {Y : Cx} {body : List Stmt} {c0 : ExceptHandler} {cs : List ExceptHandler} {l : List (Value × Nat × (Addr → Value → Option Addr → TS))} {pos : Pos} {tb : WX → TS} {Wo : WX}
    (ks : Y.stack = Y.env :: Y.outer) (kf : Y.env.frame = some Y.env.locals) (kN : Y.N.Nodup) (tk : Takes Y Wo)
    (kb : ∀ (W : WX) (pn : List (Addr × Obj)) (xe : Value → Shared → Prop), Takes (Y.tr pn xe) W → PassesOwn (model Y.prog Y.w) Y.A Y.env xe → PSs (Y.tr pn xe) body (tb W))
    (kh : Clauses Y (c0 :: cs) l) : PS Y (.Try body (c0 :: cs) [] [] pos) (fun D σ H => tb (wAll Y.K Wo D l) D σ H) := by
  refine ⟨fun pins u σ H D I hw => ?_⟩
  have okY := I.ok
  have fr := okY.frames
  rw [ks] at fr
  refine wpAny_Try_except ?_
  refine wpAny_mono ((kb (wAll Y.K Wo D l) (Y.pn ++ pins) (fun e u1 => wpAny (model Y.prog Y.w) Y.A (noteFrame e Y.env) (fun _ u2 => wpAny (model Y.prog Y.w) Y.A (setFlight e none) (fun _ u3 =>
    wpAny (model Y.prog Y.w) Y.A (handleBy e Y.env (c0 :: cs)) (SP Y pins D) Y.xe u3) Y.xe u2) Y.xe u1) (fun v g xx => ?_) PassesOwn.looking).run [] u σ H D (I.toTry _) hw) (fun f u1 q => ?_) (fun e u1 q => q)
  · obtain ⟨a, B, sI, pins1, σ1, H1, cls, d, rfl, Jt, nb, up, sk, na, os, ag, w⟩ := xx
    have J : Inv Y pins σ1 H1 sI := Jt.ofTry okY
    have sk1 : Sky B (Y.env :: Y.outer) a (Zc cls d) Y.env.locals g.heap := by rw [← ks]; exact sk
    show wpAny (model Y.prog Y.w) Y.A (noteFrame (.ref a) Y.env) _ _ _
    refine Sky.land Zc.steady fr kf sk1 fun g3 f3 u3 => ?_
    have I3 : Inv Y pins σ1 H1 { g with heap := g3 } := J.landed nb f3.1 (up.trans u3) os ag
    obtain ⟨o3, w3, at3, z3, dt3⟩ := f3.there
    have apart : ∀ {t : Heap} {o : Obj} {vs : Array Value}, t.FunFrames B (Y.env :: Y.outer) → t.get? a = some o → o.data = .fields vs → a ∉ frs (Y.env :: Y.outer) := fun {t o vs} ff e dd hm => by
      obtain ⟨_, o2, e2, q2⟩ := ff.mem hm
      rw [e] at e2
      cases e2
      exact q2 _ dd
    have n0 := apart f3.2.2.1 at3 dt3
    have nL : a ≠ Y.env.locals := fun z => n0 (List.mem_filterMap.mpr ⟨Y.env, List.mem_cons_self, by rw [kf, z]⟩)
    have nF : a ∉ Y.fs := fun hm => by
      obtain ⟨e, he, q⟩ := List.mem_filterMap.mp hm
      exact n0 (List.mem_filterMap.mpr ⟨e, List.mem_cons_of_mem _ he, q⟩)
    have T3 := I3.suite at3 dt3 na nL nF
    have all : ∀ {cs2 : List ExceptHandler} {l2 : List (Value × Nat × (Addr → Value → Option Addr → TS))}, Clauses Y cs2 l2 → wAll Y.K Wo D l2 cls d σ1 H1 →
        wpAny (model Y.prog Y.w) Y.A (handleBy (.ref a) Y.env cs2) (SP Y pins D) Y.xe { g with heap := g3 } := by
      intro cs2 l2 hk
      induction hk with
      | nil =>
        intro w
        refine wpAny_handleBy_nil ?_
        obtain ⟨_, _, _, oe, vs, T, oT, t2, he, hz, hd, h1, _⟩ := id f3
        unfold PySem.passOn
        refine wpAny_bind (wpAny_field he hd h1 ?_)
        rw [if_neg (show ¬ ((Value.ref T == Value.none) = true) from by simp)]
        have away : wpAny (model Y.prog Y.w) Y.A (setFlight (.ref a) Y.env.frame) (fun _ u4 => wpAny (model Y.prog Y.w) Y.A (throw (.ref a) : Sem Flow) (SP Y pins D) Y.xe u4) Y.xe { g with heap := g3 } := by
          rw [kf]
          refine HandSPX.setFlight_upZ f3 fun g4 q4 u4 => wpAny_throw (tk _ _ ?_)
          exact ⟨a, B, sI, pins, σ1, H1, cls, d, rfl, J, nb, (up.trans u3).trans u4, .inr (.inr (by rw [ks]; exact q4)), na, os, ag, w⟩
        first
          | exact wpAny_bind (wpAny_pure (wpAny_bind away))
          | exact wpAny_bind away
      | @cons x n c i ts b0 suite p p' cs3 l3 hc hi hl su r ih =>
        intro w
        obtain ⟨b, e1, yes, no⟩ := w
        refine wpAny_handleBy_cons (codeAny_handlers_test ?_) (by intro q; cases q)
        have LT : PySem.W.Looks (model Y.prog Y.w) g3 (typeOf (.ref a)) cls := fun A Q E s k q => wpAny_typeOf_ref (k _ _ at3) (by rw [z3.1]; exact q)
        have LM := PySem.W.exm_one (M := model Y.prog Y.w) (I3.kIn) LT e1
        have test : ∀ {Q : Value → Shared → Prop} {E : Value → Shared → Prop}, Q c { g with heap := g3 } → wpAny (model Y.prog Y.w) (Y.A.mark (some (.ref a))) (eval (.Name x p) Y.env) Q E { g with heap := g3 } := fun {Q E} q => by
          obtain ⟨hg, hdb, hm | ⟨hm, hv, hnn⟩⟩ := hc
          · exact ld_glob (X := Y.suite a ((a, o3) :: (Y.pn ++ pins))) T3 hg hm q hdb
          · exact ld_blt (X := Y.suite a ((a, o3) :: (Y.pn ++ pins))) T3 hg hm hv q hnn hdb
        refine test (LM.here ?_)
        cases b with
        | true =>
          refine codeAny_handlers_suite_as ?_
          refine HandSPX.lands_againZ f3 fun g4 f4 u4 => ?_
          have I4 : Inv Y pins σ1 H1 { g with heap := g4 } := J.landed nb f4.1 ((up.trans u3).trans u4) os ag
          obtain ⟨o4, w4, at4, z4, dt4⟩ := f4.there
          have T4 := I4.suite at4 dt4 na nL nF
          refine store_ok (X := Y.suite a ((a, o4) :: (Y.pn ++ pins))) (v := .ref a) T4 kN hi (.inl hl) rfl (fun u5 T5 => ?_) (.inr hl)
          refine wpAny_mono ((su a o4 cls d (Y.pn ++ pins) z4 ⟨_, dt4⟩).run [] u5 _ H1 _ T5 (yes rfl a na)) (fun f u6 q => ?_) (fun _ _ z => False.elim z)
          have fin : ∀ {σ6 : L2.St} {H6 : Hp} {Q : Shared → Prop}, Inv (Y.suite a ((a, o4) :: (Y.pn ++ pins))) [] σ6 H6 u6 → (∀ u7, Inv Y pins (σ6.set i none) H6 u7 → Q u7) →
              wpAny (model Y.prog Y.w) Y.A (do bindName Y.env n .none; unbindBehindTheSuite Y.env n p') (fun _ u7 => Q u7) Y.xe u6 := fun {σ6 H6 Q} T6 hq => gone_ok (T6.unsuite okY) kN hi hl hq
          cases f with
          | next =>
            obtain ⟨_, _, T6, q6⟩ := q
            exact fin T6 fun _ I7 => ⟨_, _, I7, q6⟩
          | brk =>
            obtain ⟨_, _, T6, q6⟩ := q
            exact fin T6 fun _ I7 => ⟨_, _, I7, q6⟩
          | cont =>
            obtain ⟨_, _, T6, q6⟩ := q
            exact fin T6 fun _ I7 => ⟨_, _, I7, q6⟩
          | ret v =>
            obtain ⟨_, _, _, T6, r6, q6⟩ := q
            exact fin T6 fun _ I7 => ⟨_, _, _, I7, r6, q6⟩
        | false =>
          show wpAny _ Y.A (handleBy (.ref a) Y.env cs3) _ _ _
          exact ih (no rfl)
    exact all kh w
  · cases f with
    | next =>
      obtain ⟨_, _, J1, q1⟩ := q
      exact wpAny_execs_nil ⟨_, _, J1.ofTry okY, q1⟩
    | brk =>
      obtain ⟨_, _, J1, q1⟩ := q
      exact ⟨_, _, J1.ofTry okY, q1⟩
    | cont =>
      obtain ⟨_, _, J1, q1⟩ := q
      exact ⟨_, _, J1.ofTry okY, q1⟩
    | ret v =>
      obtain ⟨_, _, _, J1, r1, q1⟩ := q
      exact ⟨_, _, _, J1.ofTry okY, r1, q1⟩
end Bx
/-! ### max of a tuple of ints, lcm: own rules -/
namespace MaxT
open PySem PySem.W PyProof.Rows
section
variable {prog : Program} {w : World} {A : Around} {E : Value → Shared → Prop} {s : Shared}
theorem walkT {l : Addr} {xs : Array (Int × Tok)} {Q : Value → Shared → Prop} (hh : A.handled = none) (ht : s.heap.IsTuple l (intItems xs)) (hne : 0 < xs.size)
    (h : ∀ v g tk, (intItems xs)[argBest (fun i j => decide (numAt xs i > numAt xs j)) (xs.size - 1)]? = some v → (∀ b o, s.heap.get? b = some o → g.get? b = some o) → Q v { s with heap := g, toks := tk }) :
    wpAny (model prog w) A (call (.builtin "max") [.ref l]) Q E s := by
  have ll : l < s.heap.objs.size := by
    obtain ⟨_, e, _⟩ := ht
    exact Heap.lt_size e
  refine call_max_walk (wpAny_pyIter_tuple ht ?_)
  refine ⟨_, _, _, _, _, _, _, rfl, Walks.tuple (A := A.in1) hh _ l (Nat.ne_of_lt ll) (intItems xs), ⟨⟨_, Heap.get?_push_size _ rfl, rfl, rfl⟩, ht.push _⟩, fun c hc => ?_, by simpa [intItems] using hne, CmpOf.ints_gt (numAt xs) (fun _ _ => intItems_at), fun v g tk hP hk => ?_⟩
  · show c < (s.heap.push _).objs.size
    rw [Heap.size_push]
    rcases List.mem_cons.mp hc with rfl | hc
    · exact Nat.lt_succ_self _
    · rcases List.mem_cons.mp hc with rfl | hc
      · exact Nat.lt_succ_of_lt ll
      · cases hc
  · refine h v g tk (by simpa [intItems] using hP) fun b o e => hk b o (fun hm => ?_) (Heap.get?_push_of_some _ e)
    have e1 : b = s.heap.objs.size := List.mem_singleton.mp hm
    rw [e1] at e
    exact absurd (Heap.lt_size e) (Nat.lt_irrefl _)
theorem rawT {l : Addr} {its : List Value} {ns : List Int} {Q : Value → Shared → Prop} (hh : A.handled = none) (hl : IsTup s.heap l its.toArray) (hi : IntsAre its ns) (hne : ns ≠ [])
    (h : ∀ (g : Heap) (tk : Nat) (m : Int) (t' : Tok), (∀ b o, s.heap.get? b = some o → g.get? b = some o) → m ∈ ns → (∀ y ∈ ns, y ≤ m) → Q (.int m t') { s with heap := g, toks := tk }) :
    wpAny (model prog w) A (call (.builtin "max") [.ref l]) Q E s := by
  obtain ⟨xs, e⟩ := hi.allInts.items
  have hn : numsOf (intItems xs).toList = ns := by rw [← e]; exact hi.numsOf
  rw [PySem.nums_intItems] at hn
  subst hn
  rw [e] at hl
  have c : 0 < xs.size := by
    rcases Nat.eq_zero_or_pos xs.size with z | z
    · refine absurd ?_ hne
      have : xs = #[] := Array.eq_empty_of_size_eq_zero z
      rw [this]
      rfl
    · exact z
  refine walkT hh hl c fun v g tk p1 keep => ?_
  obtain ⟨u, rfl⟩ := intItems_at p1
  obtain ⟨a1, a2⟩ := argBest_gt (numAt xs) (xs.size - 1)
  refine h g tk _ u keep ?_ fun y hy => ?_
  · rw [PySem.numAt_eq]
    refine PySem.getD_mem ?_
    rw [List.length_map, Array.length_toList]
    exact Nat.lt_of_le_of_lt a1 (by omega)
  · obtain ⟨j, hj, rfl⟩ := PySem.mem_getD hy
    rw [List.length_map, Array.length_toList] at hj
    rw [← PySem.numAt_eq]
    exact a2 j (by omega)
end
end MaxT
namespace Bx
open PySem PySem.Spec PyProof.Rows L2
def rMaxT (K : PySem.W.Frag) : List V → Hp → VK → Prop := fun xs H Q => ∃ (a : Addr) (ns : List Int), xs = [.ref a] ∧ SqT K H a (ns.map V.int) ∧ ns ≠ [] ∧ ∀ m, m ∈ ns → (∀ y ∈ ns, y ≤ m) → Q (.int m) H
theorem call_maxT {X : Cx} {K : PySem.W.Frag} (h : X.K = K) (hc : X.calm = true) : CallR X (.builtin "max") (rMaxT K) := by
  subst h
  intro pins s σ H xs us Q I r hw
  obtain ⟨a, ns, rfl, hs, hne, q⟩ := hw
  obtain ⟨its, rv, ht, _⟩ := I.tuple hs
  rw [Vals.ref1 r]
  exact MaxT.rawT (I.ok.hd hc) ht rv.ints hne fun g tk m t' hk h1 h2 => ⟨.int m, H, I.kept hk, ⟨_, rfl⟩, q m h1 h2⟩
theorem call_maxK {X : Cx} {K : PySem.W.Frag} (h : X.K = K) (hc : X.calm = true) : CallR X (.builtin "max") (rMax K) := by
  subst h
  exact cr_max hc
def spCheckX (cL : Addr) : Sp := fun vs H Q E => ∃ (p : Addr) (h l : List Int) (n : Int), vs = [.ref p, .int n] ∧ Las H p h l ∧ l ≠ [] ∧ h.length ≤ 1000 ∧ l.length ≤ 1000 ∧
  ((∃ x, (x ∈ h ∨ x ∈ l) ∧ n ≤ x) → ∀ H', Same H H' → E (.ref cL) none H') ∧ ((∀ x, x ∈ h ∨ x ∈ l → x < n) → ∀ H', Same H H' → Q .non H')
end Bx
/-! ### lists of lists, instances made in a try: own rules -/
namespace Bx
open PySem PySem.Spec PyProof.Rows L2
section
variable {X : Cx}
theorem pi_or {tg iter : Expr} {w1 w2 : TI} (h1 : PI X tg iter w1) (h2 : PI X tg iter w2) : PI X tg iter (fun σ H R => w1 σ H R ∨ w2 σ H R) := ⟨fun pins s σ H R I h => by
  rcases h with h | h
  · exact h1.run pins s σ H R I h
  · exact h2.run pins s σ H R I h⟩
theorem passF {P : Program} {w : World} : Passes (L2.CX P w) X (fun _ _ _ => False) := fun _ _ _ _ _ _ _ h => by
  obtain ⟨_, _, _, _, _, _, _, _, _, _, _, _, z⟩ := h
  exact z.elim
/-- a new instance of an own class whose __init__ may raise -/
structure MakX (P : Program) (w : World) (K : PySem.W.Frag) (mg : Str → Option Value) (base : Heap) (k : Nat) (x : Str) (C : Addr) (sp : Sp) : Prop where
  ex : ∃ (f : Addr) (fd : FuncData) (ps : List Str), Mk K C f ∧ FnOk P w K mg base (L2.CX P w) k f fd ps sp ∧ mg x = some (.ref C) ∧ Binds K fd ps []
def tMakX (C : Addr) (sp : Sp) (E : L2.St → XK) (t : TA) : TE := fun σ H Q => t σ H fun vs H1 => ∀ x dx, H1 x = none → H1 dx = none → dx ≠ x → sp (.ref x :: vs) (upd (upd H1 dx (.own x)) x (.ins C dx [])) (fun v H2 => v = .non ∧ Q (.ref x) H2) (E σ)
theorem made_at {k : Nat} {f C : Addr} {fd : FuncData} {ps : List Str} {sp : Sp} {E : XK} {pins : List (Addr × Obj)} {σ : L2.St} {H : Hp} {u : Shared} {Q : VK} {us : List Value} {vs : List V} (M : Mk X.K C f) (F : FnOk X.prog X.w X.K X.mg X.base (L2.CX X.prog X.w) k f fd ps sp) (hr : Room (k + 1) X.A) (hb : Binds X.K fd ps [])
    (hx : PassesAt (L2.CX X.prog X.w) X σ E) (I : Inv X pins σ H u) (r : Vals vs us)
    (h : ∀ x dx, H x = none → H dx = none → dx ≠ x → sp (.ref x :: vs) (upd (upd H dx (.own x)) x (.ins C dx [])) (fun v H2 => v = .non ∧ Q (.ref x) H2) E) :
    wpAny (model X.prog X.w) X.A (call (.ref C) us) (EP X pins σ Q) X.xe u := by
  have q0 := h (u.heap.objs.size + 1) u.heap.objs.size (I.hok.fresh (Nat.le_succ _)) (I.hok.fresh (Nat.le_refl _)) (Nat.ne_of_lt (Nat.lt_succ_self _))
  have J := Inv.made (C := C) I
  have r2 : Vals (V.ref (u.heap.objs.size + 1) :: vs) (Value.ref (u.heap.objs.size + 1) :: us) := .cons rfl r
  have hl : (Value.ref (u.heap.objs.size + 1) :: us ++ []).length = ps.length := by
    have e := r2.length
    rw [F.len _ _ _ _ q0] at e
    rw [List.append_nil]
    exact e.symm
  refine wpAny_call (make_map (f := f) I.kIn M.makes M.init (beq_iff_eq.mp M.fn) (codeAny_mono (F.run _ X.stack _ _ ⟨Value.ref (u.heap.objs.size + 1) :: us, []⟩ (Value.ref (u.heap.objs.size + 1) :: us) _ _ E (hr.make C us [])
    (J.env0.make C us []) (by have q := hb _ (Value.ref (u.heap.objs.size + 1) :: us) J.kIn hl; rw [List.append_nil] at q; exact q) r2 q0) fun r u' hq => ?_))
  cases r with
  | error e => exact hx pins _ _ e u' J hq
  | ok fl =>
    cases fl with
    | ret v =>
      obtain ⟨y, G, J3, ry, ey, qy⟩ := J.after hq
      subst ey
      exact ⟨ry, ⟨V.ref (u.heap.objs.size + 1), G, J3, rfl, qy⟩⟩
    | next => exact False.elim hq
    | brk => exact False.elim hq
    | cont => exact False.elim hq
theorem pe_makeX {k j : Nat} {C : Addr} {x : Str} {sp : Sp} {W : WX} {p pos : Pos} {e : Expr} {es : List Expr} {t : TA} (c : MakX X.prog X.w X.K X.mg X.base k x C sp) (hr : Room j X.A) (hk : k + 1 ≤ j) (tk : Takes X W) (hg : Gl X x) (ha : PA X (e :: es) t)
    (hdb : (x == ("__debug__" : Str)) = false := by decide) (he : starEach (e :: es) X.env = (false, eval e X.env) :: starEach es X.env := by rfl) (hpl : (backTo pos (starEach es X.env)).any (·.1) = false := by rfl) :
    PE X (.Call (.Name x p) (e :: es) [] pos) (tMakX C sp (WE W) t) := by
  obtain ⟨f, fd, ps, M, F, hm, b⟩ := c.ex
  refine ⟨fun pins u σ H Q I hw => ?_⟩
  refine wpAny_Call_Name_kw (ld_glob I hg hm ?_ hdb)
  refine PySem.W.callWith_K (h₀ := X.base) I.ok.mod.kin M.kp (thn (ha.run pos pins u σ H _ I hw) fun us u1 ⟨vs, H1, I1, rv, qv⟩ => ⟨I1.kIn, ?_⟩) he hpl
  exact made_at M F (hr.mono hk) b (passAt tk σ) I1 rv qv
theorem pe_makeN {k j : Nat} {C : Addr} {x : Str} {sp : Sp} {p pos : Pos} {e : Expr} {es : List Expr} {t : TA} (c : MakX X.prog X.w X.K X.mg X.base k x C sp) (hr : Room j X.A) (hk : k + 1 ≤ j) (hg : Gl X x) (ha : PA X (e :: es) t)
    (hdb : (x == ("__debug__" : Str)) = false := by decide) (he : starEach (e :: es) X.env = (false, eval e X.env) :: starEach es X.env := by rfl) (hpl : (backTo pos (starEach es X.env)).any (·.1) = false := by rfl) :
    PE X (.Call (.Name x p) (e :: es) [] pos) (tMakX C sp (fun _ => fun _ _ _ => False) t) := by
  obtain ⟨f, fd, ps, M, F, hm, b⟩ := c.ex
  refine ⟨fun pins u σ H Q I hw => ?_⟩
  refine wpAny_Call_Name_kw (ld_glob I hg hm ?_ hdb)
  refine PySem.W.callWith_K (h₀ := X.base) I.ok.mod.kin M.kp (thn (ha.run pos pins u σ H _ I hw) fun us u1 ⟨vs, H1, I1, rv, qv⟩ => ⟨I1.kIn, ?_⟩) he hpl
  exact made_at M F (hr.mono hk) b (fun pins G v e v' J q => passF pins σ G v e v' J q) I1 rv qv
end
/-! rows of ints -/
def RowsA (mk : List V → HO) (H : Hp) : List Addr → List (List Int) → Prop
  | [], [] => True
  | a :: as, r :: rs => H a = some (mk (r.map V.int)) ∧ RowsA mk H as rs
  | _, _ => False
def RowsQ (H : Hp) : List Addr → List (List Int) → Prop
  | [], [] => True
  | a :: as, r :: rs => SeqI H a r ∧ RowsQ H as rs
  | _, _ => False
theorem RowsA.keep {mk : List V → HO} {H H' : Hp} : ∀ {as : List Addr} {rs : List (List Int)}, (∀ b o, b ∈ as → H b = some o → H' b = some o) → RowsA mk H as rs → RowsA mk H' as rs
  | [], [], _, _ => True.intro
  | a :: as, r :: rs, k, h => ⟨k a _ List.mem_cons_self h.1, RowsA.keep (fun b o hb => k b o (List.mem_cons_of_mem _ hb)) h.2⟩
  | [], _ :: _, _, h => h.elim
  | _ :: _, [], _, h => h.elim
theorem RowsA.same {mk : List V → HO} {H H' : Hp} {as : List Addr} {rs : List (List Int)} (k : Same H H') (h : RowsA mk H as rs) : RowsA mk H' as rs := h.keep fun b o _ e => k b o e
theorem RowsA.len {mk : List V → HO} {H : Hp} : ∀ {as : List Addr} {rs : List (List Int)}, RowsA mk H as rs → as.length = rs.length
  | [], [], _ => rfl
  | a :: as, r :: rs, h => congrArg (· + 1) h.2.len
  | [], _ :: _, h => h.elim
  | _ :: _, [], h => h.elim
theorem RowsA.snoc {mk : List V → HO} {H : Hp} {a : Addr} {r : List Int} (ha : H a = some (mk (r.map V.int))) : ∀ {as : List Addr} {rs : List (List Int)}, RowsA mk H as rs → RowsA mk H (as ++ [a]) (rs ++ [r])
  | [], [], _ => ⟨ha, True.intro⟩
  | b :: as, q :: rs, h => ⟨h.1, h.2.snoc ha⟩
  | [], _ :: _, h => h.elim
  | _ :: _, [], h => h.elim
theorem RowsA.get {mk : List V → HO} {H : Hp} : ∀ {as : List Addr} {rs : List (List Int)} {i : Nat} {a : Addr}, RowsA mk H as rs → as[i]? = some a → ∃ r, rs[i]? = some r ∧ H a = some (mk (r.map V.int))
  | [], _, _, _, _, e => by simp at e
  | b :: as, [], _, _, h, _ => h.elim
  | b :: as, q :: rs, 0, a, h, e => by
    have : b = a := Option.some.inj e
    subst this
    exact ⟨q, rfl, h.1⟩
  | b :: as, q :: rs, i + 1, a, h, e => RowsA.get (i := i) h.2 e
theorem RowsA.q1 {H : Hp} : ∀ {as : List Addr} {rs : List (List Int)}, RowsA .lst H as rs → RowsQ H as rs
  | [], [], _ => True.intro
  | a :: as, r :: rs, h => ⟨.inl h.1, h.2.q1⟩
  | [], _ :: _, h => h.elim
  | _ :: _, [], h => h.elim
theorem RowsA.q2 {H : Hp} : ∀ {as : List Addr} {rs : List (List Int)}, RowsA .tup H as rs → RowsQ H as rs
  | [], [], _ => True.intro
  | a :: as, r :: rs, h => ⟨.inr h.1, h.2.q2⟩
  | [], _ :: _, h => h.elim
  | _ :: _, [], h => h.elim
theorem RowsQ.same {H H' : Hp} (k : Same H H') : ∀ {as : List Addr} {rs : List (List Int)}, RowsQ H as rs → RowsQ H' as rs
  | [], [], _ => True.intro
  | a :: as, r :: rs, h => ⟨h.1.same k, h.2.same k⟩
  | [], _ :: _, h => h.elim
  | _ :: _, [], h => h.elim
theorem RowsQ.len {H : Hp} : ∀ {as : List Addr} {rs : List (List Int)}, RowsQ H as rs → as.length = rs.length
  | [], [], _ => rfl
  | a :: as, r :: rs, h => congrArg (· + 1) h.2.len
  | [], _ :: _, h => h.elim
  | _ :: _, [], h => h.elim
theorem RowsQ.get {H : Hp} : ∀ {as : List Addr} {rs : List (List Int)} {i : Nat} {a : Addr}, RowsQ H as rs → as[i]? = some a → ∃ r, rs[i]? = some r ∧ SeqI H a r
  | [], _, _, _, _, e => by simp at e
  | b :: as, [], _, _, h, _ => h.elim
  | b :: as, q :: rs, 0, a, h, e => by
    have : b = a := Option.some.inj e
    subst this
    exact ⟨q, rfl, h.1⟩
  | b :: as, q :: rs, i + 1, a, h, e => RowsQ.get (i := i) h.2 e
/-- a list or a tuple of any values -/
def SeqV (H : Hp) (a : Addr) (xs : List V) : Prop := H a = some (.lst xs) ∨ H a = some (.tup xs)
theorem SeqV.same {H H' : Hp} {a : Addr} {xs : List V} (k : Same H H') (h : SeqV H a xs) : SeqV H' a xs := by
  rcases h with h | h
  · exact .inl (k _ _ h)
  · exact .inr (k _ _ h)
theorem SeqV.sq {K : PySem.W.Frag} {H : Hp} {a : Addr} {xs : List V} (h : SeqV H a xs) : SqL K H a xs ∨ SqT K H a xs := by
  rcases h with h | h
  · exact .inl (.of h)
  · exact .inr (.of h)
def iSeq (K : PySem.W.Frag) (te : TE) : TI := fun σ H R => iList K te σ H R ∨ iTup K te σ H R
theorem pi_seq {X : Cx} {K : PySem.W.Frag} {tg e : Expr} {te : TE} (h : X.K = K) (he : PE X e te) : PI X tg e (iSeq K te) := by
  subst h
  exact pi_or (pi_list he) (pi_tup he)
theorem for_seq {K : PySem.W.Frag} {i : Nat} {a : Addr} {xs : List V} {g : TG} {tb : TS} {D : Ends} {σ : L2.St} {H : Hp} (hv : σ[i]? = some (some (.ref a))) (hq : SeqV H a xs) (Pv : Nat → L2.St → Hp → Prop) (h0 : Pv 0 σ H) (hS : ∀ i σ' H', Pv i σ' H' → Same H H')
    (hs : ∀ i x σ H, xs[i]? = some x → Pv i σ H → g x σ H fun σ2 H2 => tb { D with nx := Pv (i + 1), ct := Pv (i + 1), bk := D.nx } σ2 H2) (hd : ∀ σ H, Pv xs.length σ H → D.nx σ H) : tFor (iSeq K (tVar i)) g tb D σ H := by
  rcases hq with h | h
  · exact .inl ⟨_, hv, a, rfl, ⟨_, .of h⟩, for_list Pv h0 (fun i σ' H' _ p => .of (hS i σ' H' p _ _ h)) hs hd⟩
  · exact .inr ⟨_, hv, a, rfl, ⟨_, .of h⟩, for_tup Pv h0 (fun i σ' H' _ p => .of (hS i σ' H' p _ _ h)) hs hd⟩
/-- a list of lists of ints -/
def LL (H : Hp) (r : Addr) (as : List Addr) (rows : List (List Int)) : Prop := H r = some (.lst (as.map V.ref)) ∧ RowsA .lst H as rows
def Vld (L s : Int) (ps : List Int) (rows : List (List Int)) : Prop := 1 ≤ L ∧ rows ≠ [] ∧ ps.length = rows.length ∧ (0 ≤ s ∧ s < (rows.length : Int)) ∧ (∀ r ∈ rows, (r.length : Int) = L ∧ ∀ x ∈ r, 0 ≤ x ∧ x < (rows.length : Int)) ∧ ∀ p ∈ ps, 0 ≤ p
/-- the fields of a parity automaton, as they are stored -/
def pf (L s : Int) (pt rt : Addr) : List (Str × V) := putF "rows" (.ref rt) (putF "priorities" (.ref pt) (putF "start" (.int s) (putF "letters" (.int L) [])))
theorem putF_len (f : Str) (v : V) : ∀ fs : List (Str × V), (putF f v fs).length ≤ fs.length + 1
  | [] => Nat.le_refl _
  | (g, x) :: r => by
    unfold putF
    by_cases c : g = f
    · rw [if_pos c]
      exact Nat.le_succ _
    · rw [if_neg c]
      exact Nat.succ_le_succ (putF_len f v r)
theorem pf_L (L s : Int) (pt rt : Addr) : (pf L s pt rt).lookup ("letters" : Str) = some (.int L) := by
  unfold pf
  rw [lookup_putF, if_neg (by decide +kernel), lookup_putF, if_neg (by decide +kernel), lookup_putF, if_neg (by decide +kernel), lookup_putF, if_pos rfl]
theorem pf_s (L s : Int) (pt rt : Addr) : (pf L s pt rt).lookup ("start" : Str) = some (.int s) := by
  unfold pf
  rw [lookup_putF, if_neg (by decide +kernel), lookup_putF, if_neg (by decide +kernel), lookup_putF, if_pos rfl]
theorem pf_p (L s : Int) (pt rt : Addr) : (pf L s pt rt).lookup ("priorities" : Str) = some (.ref pt) := by
  unfold pf
  rw [lookup_putF, if_neg (by decide +kernel), lookup_putF, if_pos rfl]
theorem pf_r (L s : Int) (pt rt : Addr) : (pf L s pt rt).lookup ("rows" : Str) = some (.ref rt) := by
  unfold pf
  rw [lookup_putF, if_pos rfl]
/-- a parity automaton at x -/
def ParAt (C : Addr) (H : Hp) (x : Addr) (L s : Int) (ps : List Int) (rows : List (List Int)) : Prop := ∃ (dx pt rt : Addr) (as : List Addr), H x = some (.ins C dx (pf L s pt rt)) ∧ TupI H pt ps ∧ H rt = some (.tup (as.map V.ref)) ∧ RowsA .tup H as rows
theorem ParAt.same {C : Addr} {H H' : Hp} {x : Addr} {L s : Int} {ps : List Int} {rows : List (List Int)} (k : Same H H') (h : ParAt C H x L s ps rows) : ParAt C H' x L s ps rows := by
  obtain ⟨dx, pt, rt, as, e1, e2, e3, e4⟩ := h
  exact ⟨dx, pt, rt, as, k _ _ e1, k _ _ e2, k _ _ e3, e4.same k⟩
/-- what the class has -/
structure ParC (K : PySem.W.Frag) (C : Addr) : Prop where
  cl : Cls K C
  nL : NoAttr K C "letters"
  nS : NoAttr K C "start"
  nP : NoAttr K C "priorities"
  nR : NoAttr K C "rows"
def spCheckS (cI : Addr) : Sp := fun vs H Q E => ∃ (z n : Int), vs = [.int z, .int n] ∧ (¬ (0 ≤ z ∧ z < n) → E (.ref cI) none H) ∧ ((0 ≤ z ∧ z < n) → Q .non H)
def spInitP (C cI : Addr) : Sp := fun vs H Q E => ∃ (x p r dx : Addr) (L s : Int) (ps : List Int) (as : List Addr) (rows : List (List Int)), vs = [.ref x, .int L, .int s, .ref p, .ref r] ∧ H x = some (.ins C dx []) ∧ H p = some (.lst (ps.map V.int)) ∧ SeqV H r (as.map V.ref) ∧ RowsQ H as rows ∧
  rows.length ≤ 1000 ∧ ps.length ≤ 1000 ∧ (∀ q ∈ rows, q.length ≤ 1000) ∧ (¬ Vld L s ps rows → E (.ref cI) none H) ∧ (Vld L s ps rows → ∀ H', Kp x H H' → ParAt C H' x L s ps rows → Q .non H')
end Bx

/-! ### own rules: a list extended by a tuple; a tuple's slice with a step -/
namespace Tx
open PySem PySem.Spec PyProof.Rows L2
section
variable {prog : Program} {w : World} {A : Around} {E : Value → Shared → Prop} {s : Shared}
set_option maxRecDepth 8000 in
theorem ext_tup (l b : Addr) (xs ys : Array Value) (n m : Nat) (dd : Option Addr) (sl : Array (Option Value)) (h0 : ¬(!xs.isEmpty && Builtin.List.listTooLong (xs.size + ys.size)) = true) (h1 : xs.size ≤ sizeLine) (h2 : xs.size + ys.size ≤ sizeLine + 1) :
    Meets (Builtin.«list.extend» ⟨[.ref l, .ref b], []⟩) (fun _ R s => s.heap.get? l = some { cls := .type "list", data := .seq xs n } ∧ s.heap.get? b = some { cls := .type "tuple", dict := dd, data := .seq ys m, slots := sl } ∧
      R (.ok (.ret Value.none)) { s with heap := s.heap.update l (Obj.mapSeq fun x => x ++ ys), toks := s.toks }) := .of_wp fun prog w A R s h => by
  obtain ⟨hp, g, d, tk, os⟩ := s
  obtain ⟨hl, hb, h⟩ := h
  have q1 := AutoSeq1.idx_int
  have q2 := AutoSeq1.sub_tuple_tuple
  have q3 := AutoSeq1.sub_list_list
  have q4 := AutoSeq1.sub_tuple_list
  have q5 := AutoSeq1.sub_list_tuple
  have hz : (xs ++ ys).size ≤ sizeLine + 1 := by
    rw [Array.size_append]
    exact h2
  wp_walk using (wpAny_updateSeq hl rfl (hz := h1) (_hz' := hz)), AutoSeq1.wpAny_loadPart' hl, AutoSeq1.wpAny_loadPart' hb
  exact ⟨_, rfl, h⟩
end
section
variable {X : Cx} {K : PySem.W.Frag}
def rExtT (K : PySem.W.Frag) : V → List V → Hp → VK → Prop := fun x vs H Q => ∃ l b xs zs, x = .ref l ∧ vs = [.ref b] ∧ H l = some (.lst xs) ∧ SqT K H b zs ∧ xs.length + zs.length ≤ sizeLine ∧ Q .non (upd H l (.lst (xs ++ zs)))
theorem mt_extT (hK : X.K = K) : MtM X "list.extend" (rExtT K) := by
  subst hK
  intro pins s σ H x vs v us Q I rx rv ⟨l, b, xs, zs, ex, ev, hH, hB, hz, q⟩
  subst ex
  subst ev
  cases rx
  obtain ⟨u, rfl, ru⟩ := rv.one
  cases ru
  obtain ⟨z, its, n, r, hl, e⟩ := I.lstM hH
  obtain ⟨its2, r2, ⟨⟨oc, od, ob, os⟩, e2, ec, m, eb⟩, z2⟩ := I.tuple hB
  have hl2 := r2.length
  dsimp only at ec eb
  subst ec
  subst eb
  have hs : its.toArray.size + its2.toArray.size ≤ sizeLine := by
    rw [List.size_toArray, List.size_toArray]
    omega
  refine call_meets F.slot_list_extend ⟨_, e, rfl⟩ F.entry_list_extend (F.args_list_extend_2 _ _) (ext_tup l b its.toArray its2.toArray n m od os (fun c => ?_) (by omega) (by omega)) ⟨e, e2, ?_⟩
  · rw [notLongL hs, Bool.and_false] at c
    cases c
  · refine ⟨.non, _, I.lset (its' := its ++ its2) hH e (by simp) (r.append r2) ?_, rfl, q⟩
    rw [List.length_append]
    omega
/-- the items that a slice with a step picks -/
def pk3 {α : Type} (xs : List α) (lo hi : Option Int) (c : Int) : List α :=
  (List.range (Builtin.Slice.slicePlaces (Builtin.Slice.sliceAdjust lo hi c xs.length).1 (Builtin.Slice.sliceAdjust lo hi c xs.length).2 c)).filterMap fun (k : Nat) => xs[((Builtin.Slice.sliceAdjust lo hi c xs.length).1 + (k : Int) * c).toNat]?
theorem pk3_vals {xs : List V} {us : List Value} (r : Vals xs us) (lo hi : Option Int) (c : Int) : Vals (pk3 xs lo hi c) (pk3 us lo hi c) := by
  unfold pk3
  rw [r.length]
  generalize List.range (Builtin.Slice.slicePlaces (Builtin.Slice.sliceAdjust lo hi c us.length).1 (Builtin.Slice.sliceAdjust lo hi c us.length).2 c) = ks
  generalize (Builtin.Slice.sliceAdjust lo hi c us.length).1 = b
  induction ks with
  | nil => exact .nil
  | cons k ks ih =>
    rw [List.filterMap_cons, List.filterMap_cons]
    cases e : xs[(b + (k : Int) * c).toNat]? with
    | none =>
      have : us[(b + (k : Int) * c).toNat]? = none := by
        rw [List.getElem?_eq_none_iff] at e ⊢
        rw [← r.length]
        exact e
      rw [this]
      exact ih
    | some x =>
      obtain ⟨u, e2, ru⟩ := Vals.get r e
      rw [e2]
      exact .cons ru ih
theorem pk3_len {α : Type} (xs : List α) (lo hi : Option Int) (c : Int) : (pk3 xs lo hi c).length ≤ Builtin.Slice.slicePlaces (Builtin.Slice.sliceAdjust lo hi c xs.length).1 (Builtin.Slice.sliceAdjust lo hi c xs.length).2 c := by
  unfold pk3
  refine Nat.le_trans (List.length_filterMap_le _ _) ?_
  rw [List.length_range]
  exact Nat.le_refl _
end
section
variable {prog : Program} {w : World} {A : Around} {E : Value → Shared → Prop} {s : Shared}
theorem applied3 {sl : Addr} {vl vu vs : Value} {lo hi : Option Int} {c : Int} {n : Nat} {Q : Int × Int × Nat → Shared → Prop} (hs : s.heap.IsSliceOf sl vl vu vs) (pl : IsPart vl lo) (pu : IsPart vu hi) (ps : IsPart vs (some c)) (hc : c ≠ 0)
    (h : Q ((Builtin.Slice.sliceAdjust lo hi c n).1, c, Builtin.Slice.slicePlaces (Builtin.Slice.sliceAdjust lo hi c n).1 (Builtin.Slice.sliceAdjust lo hi c n).2 c) s) :
    wpAny (model prog w) A (Builtin.Slice.sliceApplied (.ref sl) (pure (n : Int))) Q E s := by
  obtain ⟨ob, g1, _, g3⟩ := id hs
  unfold Builtin.Slice.sliceApplied Builtin.Slice.sliceFields
  refine wpAny_bind (wpAny_bind (wpAny_field g1 g3 (x := vl) rfl (wpAny_bind (wpAny_field g1 g3 (x := vu) rfl (wpAny_bind (wpAny_field g1 g3 (x := vs) rfl (wpAny_pure ?_)))))))
  refine wpAny_bind (HT.slicePart_ ps ?_)
  show wpAny _ _ (if (c == 0) = true then _ else _) _ _ s
  rw [if_neg (by simpa using hc)]
  refine wpAny_bind (HT.slicePart_ pl (wpAny_bind (HT.slicePart_ pu (wpAny_bind (wpAny_pure ?_)))))
  show wpAny _ _ (match Builtin.Slice.sliceAdjust lo hi c (n : Int) with | (lo, hi) => pure (lo, c, Builtin.Slice.slicePlaces lo hi c)) _ _ s
  exact wpAny_pure h
theorem item3 {t sl : Addr} {items : List Value} {vl vu vs : Value} {lo hi : Option Int} {c : Int} {Q : Value → Shared → Prop} (ht : IsTup s.heap t items.toArray) (hs : s.heap.IsSliceOf sl vl vu vs) (pl : IsPart vl lo) (pu : IsPart vu hi) (ps : IsPart vs (some c)) (hc : c ≠ 0)
    (h1 : c ≠ 1) (h : Q (.ref s.heap.objs.size) { s with heap := s.heap.push { cls := .type "tuple", data := .seq (pk3 items lo hi c).toArray } }) (hz : (pk3 items lo hi c).length ≤ sizeLine) :
    wpAny (model prog w) A (getItem (.ref t) (.ref sl)) Q E s := by
  have fits : sizeOk (.seq (pk3 items lo hi c).toArray) := by
    show (pk3 items lo hi c).toArray.size ≤ sizeLine
    rw [List.size_toArray]
    exact hz
  have isl : s.TypeIs (.ref sl) "slice" := by
    obtain ⟨ob, g1, g2, _⟩ := id hs
    exact ⟨ob, g1, g2⟩
  unfold getItem
  try with_reducible refine wpAny_holding ?_
  first | refine wpAny_bind (wpAny_pure ?_) | skip
  refine wpAny_bind (wpAny_sequenceKey ht.typeIs (by decide) (wpAny_bind (wpAny_callSpecial?_slot (name := Str.ofString "__getitem__") ht.typeIs slot_tuple_getitem (wpAny_call_entry slot_tuple_getitem ht.typeIs entry_tuple_getitem ?_ (args_tuple_getitem _ _)))))
  show wpAny _ _ (Builtin.Tuple.tupleItemsOf (.ref t) >>= _) _ _ s
  refine wpAny_bind (tupleItemsOf_ ht (wpAny_bind (wpAny_typeOf isl ?_)))
  rw [if_pos (by decide)]
  refine wpAny_bind (applied3 hs pl pu ps hc ?_)
  have no : ¬ (((Builtin.Slice.sliceAdjust lo hi c items.toArray.size).1 == 0 && c == 1 && (Builtin.Slice.slicePlaces (Builtin.Slice.sliceAdjust lo hi c items.toArray.size).1 (Builtin.Slice.sliceAdjust lo hi c items.toArray.size).2 c) == items.toArray.size) = true) := fun q => by
    rw [Bool.and_eq_true, Bool.and_eq_true] at q
    exact h1 (eq_of_beq q.1.2)
  have e : ((List.range (Builtin.Slice.slicePlaces (Builtin.Slice.sliceAdjust lo hi c items.toArray.size).1 (Builtin.Slice.sliceAdjust lo hi c items.toArray.size).2 c)).filterMap fun (k : Nat) => items.toArray[((Builtin.Slice.sliceAdjust lo hi c items.toArray.size).1 + (k : Int) * c).toNat]?) = pk3 items lo hi c := by
    unfold pk3
    rw [List.size_toArray]
    simp only [List.getElem?_toArray]
  show wpAny _ _ (if ((Builtin.Slice.sliceAdjust lo hi c items.toArray.size).1 == 0 && c == 1 && (Builtin.Slice.slicePlaces (Builtin.Slice.sliceAdjust lo hi c items.toArray.size).1 (Builtin.Slice.sliceAdjust lo hi c items.toArray.size).2 c) == items.toArray.size) = true then _ else _) _ _ s
  rw [if_neg no, e]
  first
    | exact wpAny_bind (m := Builtin.Tuple.tupleExact _) (wpAny_newObj_type (wpAny_pure ⟨_, rfl, wpAny_pure h⟩) fits)
    | exact wpAny_bind (m := Builtin.Tuple.tupleExact _) (wpAny_newObj_type (wpAny_bind (wpAny_pure (wpAny_pure ⟨_, rfl, wpAny_pure h⟩))) fits)
    | exact wpAny_bind (wpAny_bind (m := Builtin.Tuple.tupleExact _) (wpAny_newObj_type (wpAny_pure (wpAny_pure ⟨_, rfl, wpAny_pure h⟩)) fits))
    | exact wpAny_bind (wpAny_bind (m := Builtin.Tuple.tupleExact _) (wpAny_newObj_type (wpAny_pure ⟨_, rfl, wpAny_pure h⟩) fits))
end
section
variable {X : Cx} {K : PySem.W.Frag} {e s3 : Expr} {lo hi : Option Expr} {te : TE} {tl th t3 : TO} {p3 pos : Pos}
def tSl3 (K : PySem.W.Frag) (te : TE) (tl th t3 : TO) : TE := fun σ H Q => te σ H fun x H1 => tl σ H1 fun l H2 => th σ H2 fun u H3 => t3 σ H3 fun c H4 => ∃ a xs k, x = .ref a ∧ c = some k ∧ SqT K H4 a xs ∧ k ≠ 0 ∧ k ≠ 1 ∧ (pk3 xs l u k).length ≤ sizeLine ∧
  ∀ p, H4 p = none → Q (.ref p) (upd H4 p (.tup (pk3 xs l u k)))
theorem pe_sl3 (hK : X.K = K) (he : PE X e te) (hl : PO X lo tl) (hu : PO X hi th) (h3 : PO X (some s3) t3) (ho : ∀ a b : Addr, ∃ ops, subscripted (Expr.Slice lo hi (some s3) p3) false (.ref a) (.ref b) = operate ops (getItem (.ref a) (.ref b)) := by exact fun _ _ => ⟨_, rfl⟩) : PE X (.Subscript e (.Slice lo hi (some s3) p3) pos) (tSl3 K te tl th t3) := by
  subst hK
  refine ⟨fun pins s σ H Q I h => Subscript_ (thn (he.run pins s σ H _ I h) fun v s1 ⟨x, H1, I1, r1, q1⟩ => wpAny_Slice (thn (hl.run pins s1 σ H1 _ I1 q1) fun vl s2 ⟨l, H2, I2, pl, q2⟩ => thn (hu.run pins s2 σ H2 _ I2 q2) fun vu s4 ⟨u, H3, I3, pu, q3⟩ =>
    thn (h3.run pins s4 σ H3 _ I3 q3) fun vc s5 ⟨c, H4, I4, pc, q4⟩ => ?_))⟩
  obtain ⟨a, xs, k, ex, ec, hx, k0, k1, hz, q⟩ := q4
  subst ex
  subst ec
  cases r1
  have I5 : Inv X pins σ H4 { s5 with heap := s5.heap.push { cls := .type "slice", data := .fields #[vl, vu, vc] } } := I4.kept (t' := s5.toks) fun b ob q => Heap.get?_push_of_some _ q
  obtain ⟨its, r, ht, _⟩ := I5.tuple hx
  have rv := pk3_vals r l u k
  show wpAny (model X.prog X.w) X.A (subscriptTail e (.Slice lo hi (some s3) p3) (.ref a) (.ref s5.heap.objs.size)) (EP X pins σ Q) X.xe { s5 with heap := s5.heap.push { cls := .type "slice", data := .fields #[vl, vu, vc] } }
  obtain ⟨ops, hops⟩ := ho a s5.heap.objs.size
  refine tail_any (ops := ops) ht.typeIs (slot_tuple_getitem.lookup) ?_ hops
  refine item3 ht (Heap.IsSliceOf.new _ vl vu vc) pl pu pc k0 k1 ?_ (by rw [← rv.length]; exact hz)
  refine ⟨.ref _, _, I5.laid (t' := s5.toks) (o := .tup (pk3 xs l u k)) (fun b ob q => Heap.get?_push_of_some _ q) (Nat.le_refl _) ?_, rfl, q _ (I5.hok.fresh (Nat.le_refl _))⟩
  exact ⟨hz, _, rv, IsTup.new _ _⟩
end
end Tx
/-! truth over a word without end: one step x ↦ B or (A and x), forwards and backwards -/
namespace Tr
/-- n steps back from s + n to s -/
def bk (A B : Nat → Bool) : Nat → Nat → Bool → Bool
  | _, 0, x => x
  | s, n + 1, x => B s || (A s && bk A B (s + 1) n x)
theorem bk_add (A B : Nat → Bool) (m : Nat) (x : Bool) : ∀ (n s : Nat), bk A B s (n + m) x = bk A B s n (bk A B (s + n) m x)
  | 0, s => by rw [Nat.zero_add]; rfl
  | n + 1, s => by
    have e : n + 1 + m = (n + m) + 1 := by omega
    rw [e]
    show (B s || (A s && bk A B (s + 1) (n + m) x)) = (B s || (A s && bk A B (s + 1) n (bk A B (s + (n + 1)) m x)))
    rw [bk_add A B m x n (s + 1), show s + 1 + n = s + (n + 1) by omega]
theorem bk_form (A B : Nat → Bool) : ∀ (n s : Nat), ∃ P Q : Bool, ∀ x, bk A B s n x = (P || (Q && x))
  | 0, s => ⟨false, true, fun x => by simp [bk]⟩
  | n + 1, s => by
    obtain ⟨P, Q, h⟩ := bk_form A B n (s + 1)
    refine ⟨B s || (A s && P), A s && Q, fun x => ?_⟩
    show (B s || (A s && bk A B (s + 1) n x)) = _
    rw [h]
    cases B s <;> cases A s <;> cases P <;> cases Q <;> cases x <;> rfl
theorem bk_mono {A B : Nat → Bool} {n s : Nat} (h : bk A B s n false = true) (x : Bool) : bk A B s n x = true := by
  obtain ⟨P, Q, e⟩ := bk_form A B n s
  rw [e] at h ⊢
  cases P <;> cases Q <;> cases x <;> simp_all
theorem bk_twice (A B : Nat → Bool) (n s : Nat) (x : Bool) : bk A B s n (bk A B s n x) = bk A B s n x := by
  obtain ⟨P, Q, e⟩ := bk_form A B n s
  rw [e, e]
  cases P <;> cases Q <;> cases x <;> rfl
theorem bk_congr {A B A' B' : Nat → Bool} (x : Bool) : ∀ (n s s' : Nat), (∀ i, i < n → A (s + i) = A' (s' + i) ∧ B (s + i) = B' (s' + i)) → bk A B s n x = bk A' B' s' n x
  | 0, _, _, _ => rfl
  | n + 1, s, s', h => by
    have h0 := h 0 (Nat.succ_pos n)
    have ih := bk_congr x n (s + 1) (s' + 1) fun i hi => by
      have := h (i + 1) (by omega)
      rwa [show s + (i + 1) = s + 1 + i by omega, show s' + (i + 1) = s' + 1 + i by omega] at this
    show (B s || (A s && bk A B (s + 1) n x)) = (B' s' || (A' s' && bk A' B' (s' + 1) n x))
    rw [ih, show A s = A' s' from h0.1, show B s = B' s' from h0.2]
/-- from m on of period L -/
def Pd (f : Nat → Bool) (m L : Nat) : Prop := ∀ t, m ≤ t → f (t + L) = f t
theorem Pd.up {f : Nat → Bool} {m n L : Nat} (h : Pd f m L) (k : m ≤ n) : Pd f n L := fun t ht => h t (Nat.le_trans k ht)
theorem Pd.mul {f : Nat → Bool} {m L : Nat} (h : Pd f m L) : ∀ k t, m ≤ t → f (t + k * L) = f t
  | 0, t, _ => by rw [Nat.zero_mul]; rfl
  | k + 1, t, ht => by
    rw [Nat.succ_mul, ← Nat.add_assoc, h _ (by omega), h.mul k t ht]
open Classical in
/-- the future's limit: from the start value i -/
noncomputable def lim (i : Bool) (A B : Nat → Bool) (t : Nat) : Bool :=
  if i = true then decide (∀ n, bk A B t n true = true) else decide (∃ n, bk A B t n false = true)
theorem lim_t {A B : Nat → Bool} {t : Nat} : lim true A B t = true ↔ ∀ n, bk A B t n true = true := by
  unfold lim
  simp
theorem lim_f {A B : Nat → Bool} {t : Nat} : lim false A B t = true ↔ ∃ n, bk A B t n false = true := by
  unfold lim
  simp
theorem bool_ext {a b : Bool} (h : a = true ↔ b = true) : a = b := by
  cases a <;> cases b <;> simp_all
theorem lim_step (i : Bool) (A B : Nat → Bool) (t : Nat) : lim i A B t = (B t || (A t && lim i A B (t + 1))) := by
  apply bool_ext
  cases i with
  | true =>
    rw [lim_t]
    constructor
    · intro h
      cases hb : B t with
      | true => rfl
      | false =>
        cases ha : A t with
        | false =>
          have := h 1
          rw [show bk A B t 1 true = (B t || (A t && true)) from rfl, hb, ha] at this
          cases this
        | true =>
          rw [Bool.false_or, Bool.true_and, lim_t]
          intro n
          have := h (n + 1)
          rw [show bk A B t (n + 1) true = (B t || (A t && bk A B (t + 1) n true)) from rfl, hb, ha] at this
          simpa using this
    · intro h n
      cases n with
      | zero => rfl
      | succ n =>
        show (B t || (A t && bk A B (t + 1) n true)) = true
        rw [Bool.or_eq_true, Bool.and_eq_true] at h ⊢
        rcases h with h | ⟨h1, h2⟩
        · exact .inl h
        · exact .inr ⟨h1, lim_t.mp h2 n⟩
  | false =>
    rw [lim_f]
    constructor
    · rintro ⟨n, h⟩
      cases n with
      | zero => cases h
      | succ n =>
        rw [show bk A B t (n + 1) false = (B t || (A t && bk A B (t + 1) n false)) from rfl] at h
        rw [Bool.or_eq_true, Bool.and_eq_true] at h ⊢
        rcases h with h | ⟨h1, h2⟩
        · exact .inl h
        · exact .inr ⟨h1, lim_f.mpr ⟨n, h2⟩⟩
    · intro h
      rw [Bool.or_eq_true, Bool.and_eq_true] at h
      rcases h with h | ⟨h1, h2⟩
      · exact ⟨1, by show (B t || _) = true; rw [h]; rfl⟩
      · obtain ⟨n, hn⟩ := lim_f.mp h2
        exact ⟨n + 1, by show (B t || (A t && bk A B (t + 1) n false)) = true; rw [hn, h1, Bool.and_true, Bool.or_true]⟩
theorem lim_bk (i : Bool) (A B : Nat → Bool) : ∀ n t, lim i A B t = bk A B t n (lim i A B (t + n))
  | 0, t => rfl
  | n + 1, t => by
    rw [lim_step, lim_bk i A B n (t + 1), show t + 1 + n = t + (n + 1) by omega]
    rfl
theorem lim_pd {i : Bool} {A B : Nat → Bool} {m L : Nat} (ha : Pd A m L) (hb : Pd B m L) : Pd (lim i A B) m L := fun t ht => by
  have e : ∀ n x, bk A B (t + L) n x = bk A B t n x := fun n x => bk_congr x n _ _ fun j _ => by
    rw [show t + L + j = t + j + L by omega]
    exact ⟨ha _ (by omega), hb _ (by omega)⟩
  apply bool_ext
  cases i with
  | true => rw [lim_t, lim_t]; simp only [e]
  | false => rw [lim_f, lim_f]; simp only [e]
theorem bk_round {A B : Nat → Bool} {m L : Nat} (ha : Pd A m L) (hb : Pd B m L) : ∀ k y, bk A B m ((k + 1) * L) y = bk A B m L y
  | 0, y => by rw [Nat.zero_add, Nat.one_mul]
  | k + 1, y => by
    rw [Nat.succ_mul (k + 1), bk_add]
    have e : bk A B (m + (k + 1) * L) L y = bk A B m L y := bk_congr y L _ _ fun j _ => by
      rw [show m + (k + 1) * L + j = (m + j) + (k + 1) * L by omega]
      exact ⟨ha.mul _ _ (by omega), hb.mul _ _ (by omega)⟩
    rw [e, bk_round ha hb k, bk_twice]
theorem bk_le_t {A B : Nat → Bool} {n s : Nat} {x : Bool} (h : bk A B s n x = true) : bk A B s n true = true := by
  obtain ⟨P, Q, e⟩ := bk_form A B n s
  rw [e] at h ⊢
  cases P <;> cases Q <;> cases x <;> simp_all
/-- once round the loop from the start value is the limit -/
theorem lim_loop {i : Bool} {A B : Nat → Bool} {m L : Nat} (hL : 0 < L) (ha : Pd A m L) (hb : Pd B m L) : lim i A B m = bk A B m L i := by
  apply bool_ext
  cases i with
  | true =>
    rw [lim_t]
    refine ⟨fun h => h L, fun h n => ?_⟩
    have h2 := bk_round ha hb n true
    rw [h] at h2
    have le : n ≤ (n + 1) * L := Nat.le_trans (Nat.le_succ n) (Nat.le_mul_of_pos_right _ hL)
    obtain ⟨j, hj⟩ := Nat.exists_eq_add_of_le le
    rw [hj, bk_add] at h2
    exact bk_le_t h2
  | false =>
    rw [lim_f]
    refine ⟨fun ⟨n, h⟩ => ?_, fun h => ⟨L, h⟩⟩
    have h2 := bk_round ha hb n false
    have le : n ≤ (n + 1) * L := Nat.le_trans (Nat.le_succ n) (Nat.le_mul_of_pos_right _ hL)
    obtain ⟨j, hj⟩ := Nat.exists_eq_add_of_le le
    rw [hj, bk_add, bk_mono h] at h2
    exact h2.symm
/-! forwards -/
def fw (i : Bool) (A B : Nat → Bool) : Nat → Bool
  | 0 => B 0 || (A 0 && i)
  | t + 1 => B (t + 1) || (A (t + 1) && fw i A B t)
/-- n steps on from a value -/
def st (A B : Nat → Bool) : Nat → Nat → Bool → Bool
  | _, 0, x => x
  | s, n + 1, x => B (s + n) || (A (s + n) && st A B s n x)
theorem st_form (A B : Nat → Bool) : ∀ (n s : Nat), ∃ P Q : Bool, ∀ x, st A B s n x = (P || (Q && x))
  | 0, s => ⟨false, true, fun x => by simp [st]⟩
  | n + 1, s => by
    obtain ⟨P, Q, h⟩ := st_form A B n s
    refine ⟨B (s + n) || (A (s + n) && P), A (s + n) && Q, fun x => ?_⟩
    show (B (s + n) || (A (s + n) && st A B s n x)) = _
    rw [h]
    cases B (s + n) <;> cases A (s + n) <;> cases P <;> cases Q <;> cases x <;> rfl
theorem st_congr {A B A' B' : Nat → Bool} (x : Bool) : ∀ (n s s' : Nat), (∀ i, i < n → A (s + i) = A' (s' + i) ∧ B (s + i) = B' (s' + i)) → st A B s n x = st A' B' s' n x
  | 0, _, _, _ => rfl
  | n + 1, s, s', h => by
    have h0 := h n (Nat.lt_succ_self n)
    have ih := st_congr x n s s' fun i hi => h i (by omega)
    show (B (s + n) || (A (s + n) && st A B s n x)) = (B' (s' + n) || (A' (s' + n) && st A' B' s' n x))
    rw [ih, h0.1, h0.2]
theorem fw_st (i : Bool) (A B : Nat → Bool) (t : Nat) : ∀ n, fw i A B (t + n) = st A B (t + 1) n (fw i A B t)
  | 0 => rfl
  | n + 1 => by
    show (B (t + n + 1) || (A (t + n + 1) && fw i A B (t + n))) = (B (t + 1 + n) || (A (t + 1 + n) && st A B (t + 1) n (fw i A B t)))
    rw [fw_st i A B t n, show t + n + 1 = t + 1 + n by omega]
/-- one round more -/
theorem fw_pd {i : Bool} {A B : Nat → Bool} {m L : Nat} (hL : 0 < L) (ha : Pd A m L) (hb : Pd B m L) : Pd (fw i A B) (m + L) L := fun t ht => by
  obtain ⟨r, rfl⟩ := Nat.exists_eq_add_of_le (show L ≤ t by omega)
  rw [Nat.add_comm L r] at ht ⊢
  have e : ∀ x, st A B (r + L + 1) L x = st A B (r + 1) L x := fun x => st_congr x L _ _ fun j _ => by
    rw [show r + L + 1 + j = r + 1 + j + L by omega]
    exact ⟨ha _ (by omega), hb _ (by omega)⟩
  rw [fw_st i A B (r + L) L, e, fw_st i A B r L]
  obtain ⟨P, Q, h⟩ := st_form A B L (r + 1)
  rw [h, h]
  cases P <;> cases Q <;> cases fw i A B r <;> rfl
end Tr

namespace Tr
open PySem
/-! formulas, what each sign does, their truth along a word -/
inductive Fm where
  | c0 (k : Str)
  | sg (s : Str)
  | un (k : Str) (f : Fm)
  | bin (k : Str) (f g : Fm)
abbrev sSig : Str := "signal"
def steps : List Str := ["next", "previous", "weak_previous"]
def past : List Str := ["previous", "weak_previous", "once", "historically", "since", "trigger"]
def future : List Str := ["next", "eventually", "always", "until", "weak_until", "release"]
def beyond : List Str := ["weak_previous", "historically", "trigger", "always", "release", "weak_until"]
def plB (k : Str) (a b : Bool) : Bool :=
  if k = "not" then !a else if k = "and" then a && b else if k = "or" then a || b else if k = "implies" then !a || b else if k = "iff" then a == b else decide (k = "true")
def tofB (k : Str) (a b c : Bool) : Bool :=
  if k ∈ steps then c else if k ∈ (["eventually", "once"] : List Str) then a || c else if k ∈ (["always", "historically"] : List Str) then a && c
  else if k ∈ (["release", "trigger"] : List Str) then b && (a || c) else if k ∈ (["until", "weak_until", "since"] : List Str) then b || (a && c) else plB k a b
theorem tofB_form (k : Str) (a b c : Bool) : tofB k a b c = (tofB k a b false || (tofB k a b true && c)) := by
  unfold tofB
  split
  · cases c <;> rfl
  · split
    · cases a <;> cases c <;> rfl
    · split
      · cases a <;> cases c <;> rfl
      · split
        · cases a <;> cases b <;> cases c <;> rfl
        · split
          · cases a <;> cases b <;> cases c <;> rfl
          · cases plB k a b <;> cases c <;> rfl
theorem tofB_step {k : Str} (h : k ∈ steps) (a b c : Bool) : tofB k a b c = c := by
  unfold tofB
  rw [if_pos h]
def ini (k : Str) : Bool := decide (k ∈ beyond)
section
variable (k : Str) (a b : Nat → Bool)
def stA : Nat → Bool := fun t => tofB k (a t) (b t) true
def stB : Nat → Bool := fun t => tofB k (a t) (b t) false
/-- what the turn ahead hands back -/
noncomputable def carF (t : Nat) : Bool := if k ∈ steps then a t else lim (ini k) (stA k a b) (stB k a b) t
/-- what the turn behind hands on -/
def carP : Nat → Bool
  | 0 => ini k
  | t + 1 => if k ∈ steps then a t else fw (ini k) (stA k a b) (stB k a b) t
noncomputable def sq (t : Nat) : Bool := tofB k (a t) (b t) (if k ∈ past then carP k a b t else if k ∈ future then carF k a b (t + 1) else false)
end
theorem tof_st (k : Str) (a b : Nat → Bool) (t : Nat) (c : Bool) : tofB k (a t) (b t) c = (stB k a b t || (stA k a b t && c)) := tofB_form k (a t) (b t) c
theorem sq_past {k : Str} (h : k ∈ past) (a b : Nat → Bool) (t : Nat) : sq k a b t = tofB k (a t) (b t) (carP k a b t) := by
  unfold sq
  rw [if_pos h]
theorem sq_fut {k : Str} (h0 : ¬ k ∈ past) (h : k ∈ future) (a b : Nat → Bool) (t : Nat) : sq k a b t = tofB k (a t) (b t) (carF k a b (t + 1)) := by
  unfold sq
  rw [if_neg h0, if_pos h]
theorem sq_pl {k : Str} (h0 : ¬ k ∈ past) (h : ¬ k ∈ future) (a b : Nat → Bool) (t : Nat) : sq k a b t = tofB k (a t) (b t) false := by
  unfold sq
  rw [if_neg h0, if_neg h]
theorem carP_next {k : Str} (h : k ∈ past) (a b : Nat → Bool) (t : Nat) : carP k a b (t + 1) = if k ∈ steps then a t else sq k a b t := by
  show (if k ∈ steps then a t else fw (ini k) (stA k a b) (stB k a b) t) = _
  split
  · rfl
  · rename_i hs
    rw [sq_past h, tof_st]
    cases t with
    | zero => rfl
    | succ t =>
      show _ = (stB k a b (t + 1) || (stA k a b (t + 1) && (if k ∈ steps then a t else fw (ini k) (stA k a b) (stB k a b) t)))
      rw [if_neg hs]
      rfl
theorem carF_sq {k : Str} (h0 : ¬ k ∈ past) (h : k ∈ future) (a b : Nat → Bool) (t : Nat) : carF k a b t = if k ∈ steps then a t else sq k a b t := by
  unfold carF
  split
  · rfl
  · rename_i hs
    rw [sq_fut h0 h, tof_st, carF, if_neg hs]
    exact lim_step _ _ _ _
def tb (k : Str) : Nat := if k ∈ past then 1 else 0
theorem st_pd {k : Str} {a b : Nat → Bool} {m L : Nat} (ha : Pd a m L) (hb : Pd b m L) : Pd (stA k a b) m L ∧ Pd (stB k a b) m L :=
  ⟨fun t ht => by unfold stA; rw [ha t ht, hb t ht], fun t ht => by unfold stB; rw [ha t ht, hb t ht]⟩
theorem carF_pd {k : Str} {a b : Nat → Bool} {m L : Nat} (ha : Pd a m L) (hb : Pd b m L) : Pd (carF k a b) m L := by
  intro t ht
  unfold carF
  split
  · exact ha t ht
  · exact lim_pd (st_pd ha hb).1 (st_pd ha hb).2 t ht
theorem sq_fw {k : Str} (h : k ∈ past) (hs : ¬ k ∈ steps) (a b : Nat → Bool) (t : Nat) : sq k a b t = fw (ini k) (stA k a b) (stB k a b) t := by
  have q := carP_next h a b t
  rw [if_neg hs] at q
  rw [← q]
  show (if k ∈ steps then a t else fw (ini k) (stA k a b) (stB k a b) t) = _
  rw [if_neg hs]
theorem sq_pd {k : Str} {a b : Nat → Bool} {m L : Nat} (hL : 0 < L) (ha : Pd a m L) (hb : Pd b m L) : Pd (sq k a b) (m + tb k * L) L := by
  intro t ht
  unfold tb at ht
  by_cases hp : k ∈ past
  · rw [if_pos hp, Nat.one_mul] at ht
    by_cases hs : k ∈ steps
    · rw [sq_past hp, sq_past hp, tofB_step hs, tofB_step hs]
      obtain ⟨u, rfl⟩ : ∃ u, t = u + 1 := ⟨t - 1, by omega⟩
      rw [show u + 1 + L = u + L + 1 by omega, carP_next hp, carP_next hp, if_pos hs, if_pos hs]
      exact ha u (by omega)
    · rw [sq_fw hp hs, sq_fw hp hs]
      exact fw_pd hL (st_pd ha hb).1 (st_pd ha hb).2 t ht
  · rw [if_neg hp, Nat.zero_mul] at ht
    by_cases hf : k ∈ future
    · rw [sq_fut hp hf, sq_fut hp hf, ha t ht, hb t ht, show t + L + 1 = t + 1 + L by omega, carF_pd ha hb (t + 1) (by omega)]
    · rw [sq_pl hp hf, sq_pl hp hf, ha t ht, hb t ht]
/-- the future's value handed back at the word's end is the one at the loop's start after one round -/
def rndF (k : Str) (a b : Nat → Bool) (N : Nat) : Nat → Bool
  | 0 => ini k
  | j + 1 => if k ∈ steps then a (N - (j + 1)) else tofB k (a (N - (j + 1))) (b (N - (j + 1))) (rndF k a b N j)
theorem rndF_bk {k : Str} {a b : Nat → Bool} {N : Nat} (hs : ¬ k ∈ steps) : ∀ j, j ≤ N → rndF k a b N j = bk (stA k a b) (stB k a b) (N - j) j (ini k)
  | 0, _ => rfl
  | j + 1, h => by
    show (if k ∈ steps then a (N - (j + 1)) else tofB k (a (N - (j + 1))) (b (N - (j + 1))) (rndF k a b N j)) = _
    rw [if_neg hs, rndF_bk hs j (by omega), tof_st]
    show _ = (stB k a b (N - (j + 1)) || (stA k a b (N - (j + 1)) && bk (stA k a b) (stB k a b) (N - (j + 1) + 1) j (ini k)))
    rw [show N - (j + 1) + 1 = N - j by omega]
theorem rndF_end {k : Str} {a b : Nat → Bool} {m L : Nat} (hL : 0 < L) (ha : Pd a m L) (hb : Pd b m L) : rndF k a b (m + L) L = carF k a b (m + L) := by
  rw [carF_pd ha hb m (Nat.le_refl _)]
  unfold carF
  by_cases hs : k ∈ steps
  · obtain ⟨j, rfl⟩ : ∃ j, L = j + 1 := ⟨L - 1, by omega⟩
    show (if k ∈ steps then a (m + (j + 1) - (j + 1)) else _) = _
    rw [if_pos hs, if_pos hs, Nat.add_sub_cancel]
  · rw [if_neg hs, rndF_bk hs L (by omega), Nat.add_sub_cancel, lim_loop hL (st_pd ha hb).1 (st_pd ha hb).2]
/-! a formula's truth -/
def bitI (z : Int) (i : Nat) : Bool := decide (z / 2 ^ i % 2 = 1)
noncomputable def sem (nm : List Str) (x : Nat → Int) : Fm → Nat → Bool
  | .c0 k => sq k (fun _ => false) (fun _ => false)
  | .sg s => fun t => bitI (x t) (nm.idxOf s)
  | .un k f => sq k (sem nm x f) (fun _ => false)
  | .bin k f g => sq k (sem nm x f) (sem nm x g)
def pd : Fm → Nat
  | .c0 k => tb k
  | .sg _ => 0
  | .un k f => pd f + tb k
  | .bin k f g => max (pd f) (pd g) + tb k
theorem pd_c (m L : Nat) (c : Bool) : Pd (fun _ => c) m L := fun _ _ => rfl
theorem sem_pd {nm : List Str} {x : Nat → Int} {h L : Nat} (hL : 0 < L) (hx : ∀ t, h ≤ t → x (t + L) = x t) : ∀ f : Fm, Pd (sem nm x f) (h + pd f * L) L
  | .c0 k => sq_pd hL (pd_c h L false) (pd_c h L false)
  | .sg s => fun t ht => by
    show bitI (x (t + L)) _ = bitI (x t) _
    rw [hx t (by have : h ≤ h + pd (.sg s) * L := Nat.le_add_right _ _; omega)]
  | .un k f => by
    have q := sq_pd (k := k) hL (sem_pd (nm := nm) hL hx f) (pd_c _ L false)
    rw [Nat.add_assoc, ← Nat.add_mul] at q
    exact q
  | .bin k f g => by
    have e1 : h + pd f * L ≤ h + max (pd f) (pd g) * L := Nat.add_le_add_left (Nat.mul_le_mul_right L (Nat.le_max_left _ _)) h
    have e2 : h + pd g * L ≤ h + max (pd f) (pd g) * L := Nat.add_le_add_left (Nat.mul_le_mul_right L (Nat.le_max_right _ _)) h
    have q := sq_pd (k := k) hL ((sem_pd (nm := nm) hL hx f).up e1) ((sem_pd (nm := nm) hL hx g).up e2)
    rw [Nat.add_assoc, ← Nat.add_mul] at q
    exact q
/-! the parts -/
abbrev Pt := Str × Int × Int
def kids : Fm → List Fm
  | .c0 _ => []
  | .sg _ => []
  | .un _ f => [f]
  | .bin _ f g => [f, g]
def kd : Fm → Str
  | .c0 k => k
  | .sg _ => sSig
  | .un k _ => k
  | .bin k _ _ => k
def sz : Fm → Nat
  | .c0 _ => 1
  | .sg _ => 1
  | .un _ f => sz f + 1
  | .bin _ f g => sz f + sz g + 1
def pre : Fm → List Fm
  | .c0 k => [.c0 k]
  | .sg s => [.sg s]
  | .un k f => .un k f :: pre f
  | .bin k f g => .bin k f g :: (pre f ++ pre g)
theorem pre_kids (f : Fm) : pre f = f :: ((kids f).map pre).flatten := by
  cases f <;> simp [pre, kids]
theorem pre_len : ∀ f : Fm, (pre f).length = sz f
  | .c0 _ => rfl
  | .sg _ => rfl
  | .un k f => by
    show (pre f).length + 1 = sz f + 1
    rw [pre_len f]
  | .bin k f g => by
    show (pre f ++ pre g).length + 1 = sz f + sz g + 1
    rw [List.length_append, pre_len f, pre_len g]
theorem sz_pos (f : Fm) : 0 < sz f := by cases f <;> exact Nat.succ_pos _
/-- what stands in the formula is no sign of another kind, and its signals are named -/
def Wf (nm : List Str) : Fm → Prop
  | .c0 k => k ≠ sSig
  | .sg s => s ∈ nm
  | .un k f => k ≠ sSig ∧ Wf nm f
  | .bin k f g => k ≠ sSig ∧ Wf nm f ∧ Wf nm g
/-- the stack S, fed with the rest of the row, ends as the root alone -/
def Vl (root : Fm) : List Fm → List Fm → Prop
  | S, [] => S = [root]
  | S, g :: R => ∃ S', S = kids g ++ S' ∧ Vl root (g :: S') R
theorem vl_pre (root : Fm) : ∀ (f : Fm) (S R : List Fm), Vl root (f :: S) R → Vl root S ((pre f).reverse ++ R)
  | .c0 k, S, R, h => ⟨S, rfl, h⟩
  | .sg s, S, R, h => ⟨S, rfl, h⟩
  | .un k f, S, R, h => by
    show Vl root S ((Fm.un k f :: pre f).reverse ++ R)
    rw [List.reverse_cons, List.append_assoc]
    exact vl_pre root f S _ ⟨S, rfl, h⟩
  | .bin k f g, S, R, h => by
    show Vl root S ((Fm.bin k f g :: (pre f ++ pre g)).reverse ++ R)
    rw [List.reverse_cons, List.reverse_append, List.append_assoc, List.append_assoc]
    exact vl_pre root g S _ (vl_pre root f (g :: S) _ ⟨S, rfl, h⟩)
theorem vl_root (f : Fm) : Vl f [] (pre f).reverse := by
  have q := vl_pre f f [] [] rfl
  rwa [List.append_nil] at q
def Node (nm : List Str) (Fs : List Fm) (k : Nat) : Fm → Pt → Prop
  | .c0 c, p => c ≠ sSig ∧ p = (c, -1, -1)
  | .sg s, p => s ∈ nm ∧ p = (sSig, ((nm.idxOf s : Nat) : Int), -1)
  | .un c f, p => c ≠ sSig ∧ ∃ i : Nat, i < k ∧ Fs[i]? = some f ∧ p = (c, (i : Int), -1)
  | .bin c f g, p => c ≠ sSig ∧ ∃ i j : Nat, i < k ∧ j < k ∧ Fs[i]? = some f ∧ Fs[j]? = some g ∧ p = (c, (i : Int), (j : Int))
structure Good (nm : List Str) (P : List Pt) (Fs : List Fm) : Prop where
  len : P.length = Fs.length
  nd : ∀ k f p, Fs[k]? = some f → P[k]? = some p → Node nm Fs k f p
theorem Node.up {nm : List Str} {Fs : List Fm} {k k' : Nat} {f g : Fm} {p : Pt} (h : Node nm Fs k f p) (hk : k ≤ k') (hl : k ≤ Fs.length) : Node nm (Fs ++ [g]) k' f p := by
  cases f with
  | c0 c => exact h
  | sg s => exact h
  | un c f =>
    obtain ⟨h1, i, h2, h3, h4⟩ := h
    exact ⟨h1, i, by omega, by rw [List.getElem?_append_left (by omega)]; exact h3, h4⟩
  | bin c f f2 =>
    obtain ⟨h1, i, j, h2, h3, h4, h5, h6⟩ := h
    exact ⟨h1, i, j, by omega, by omega, by rw [List.getElem?_append_left (by omega)]; exact h4, by rw [List.getElem?_append_left (by omega)]; exact h5, h6⟩
theorem Good.snoc {nm : List Str} {P : List Pt} {Fs : List Fm} {f : Fm} {p : Pt} (h : Good nm P Fs) (n : Node nm Fs P.length f p) : Good nm (P ++ [p]) (Fs ++ [f]) := by
  refine ⟨by rw [List.length_append, List.length_append, h.len]; rfl, fun k g q hg hq => ?_⟩
  have e := h.len
  rcases Nat.lt_or_ge k P.length with c | c
  · rw [List.getElem?_append_left (by omega)] at hg
    rw [List.getElem?_append_left c] at hq
    exact (h.nd k g q hg hq).up (Nat.le_refl _) (by omega)
  · rw [List.getElem?_append_right (by omega)] at hg
    rw [List.getElem?_append_right c] at hq
    have hk : k = P.length := by
      rcases Nat.eq_or_lt_of_le c with z | z
      · exact z.symm
      · rw [List.getElem?_eq_none (by simp; omega)] at hq
        cases hq
    rw [hk, Nat.sub_self] at hq
    rw [hk, e, Nat.sub_self] at hg
    cases hg
    cases hq
    rw [hk]
    exact n.up (Nat.le_refl _) (by omega)
theorem node_uniq {nm : List Str} {Fs : List Fm} {k k' : Nat} {f g : Fm} {p : Pt} (h : Node nm Fs k f p) (h' : Node nm Fs k' g p) : f = g := by
  cases f with
  | c0 c =>
    obtain ⟨h1, rfl⟩ := h
    cases g with
    | c0 c' => obtain ⟨_, e⟩ := h'; cases e; rfl
    | sg s => obtain ⟨_, e⟩ := h'; injection e with e _; exact absurd e h1
    | un c' f => obtain ⟨_, i, _, _, e⟩ := h'; injection e with _ e; injection e with e _; omega
    | bin c' f f2 => obtain ⟨_, i, j, _, _, _, _, e⟩ := h'; injection e with _ e; injection e with e _; omega
  | sg s =>
    obtain ⟨h1, rfl⟩ := h
    cases g with
    | c0 c' => obtain ⟨h2, e⟩ := h'; injection e with e _; exact absurd e.symm h2
    | sg s' =>
      obtain ⟨h2, e⟩ := h'
      injection e with _ e
      injection e with e _
      have e : nm.idxOf s = nm.idxOf s' := by omega
      have a1 := List.getElem_idxOf (List.idxOf_lt_length_of_mem h1)
      have a2 := List.getElem_idxOf (List.idxOf_lt_length_of_mem h2)
      rw [← a1, ← a2]
      simp only [e]
    | un c' f => obtain ⟨h2, i, _, _, e⟩ := h'; injection e with e _; exact absurd e.symm h2
    | bin c' f f2 => obtain ⟨h2, i, j, _, _, _, _, e⟩ := h'; injection e with e _; first | exact absurd e.symm h2 | exact absurd e h2
  | un c f =>
    obtain ⟨h1, i, _, h3, rfl⟩ := h
    cases g with
    | c0 c' => obtain ⟨_, e⟩ := h'; injection e with _ e; injection e with e _; omega
    | sg s => obtain ⟨_, e⟩ := h'; injection e with e _; exact absurd e h1
    | un c' f' =>
      obtain ⟨_, i', _, h4, e⟩ := h'
      injection e with e1 e
      injection e with e2 _
      have e2 : i = i' := by omega
      rw [e2, h4] at h3
      cases h3
      rw [e1]
    | bin c' f' f2 => obtain ⟨_, i', j, _, _, _, _, e⟩ := h'; injection e with _ e; injection e with _ e; omega
  | bin c f f2 =>
    obtain ⟨h1, i, j, _, _, h3, h4, rfl⟩ := h
    cases g with
    | c0 c' => obtain ⟨_, e⟩ := h'; injection e with _ e; injection e with e _; omega
    | sg s => obtain ⟨_, e⟩ := h'; injection e with e _; exact absurd e h1
    | un c' f' => obtain ⟨_, i', _, _, e⟩ := h'; injection e with _ e; injection e with _ e; omega
    | bin c' f' f2' =>
      obtain ⟨_, i', j', _, _, h5, h6, e⟩ := h'
      injection e with e1 e
      injection e with e2 e3
      have e2 : i = i' := by omega
      have e3 : j = j' := by omega
      rw [e2, h5] at h3
      rw [e3, h6] at h4
      cases h3
      cases h4
      rw [e1]
def pc (P : List Pt) : Nat := (P.filter fun p => decide (p.1 ∈ past)).length
theorem pc_take {P : List Pt} {k : Nat} {p : Pt} (h : P[k]? = some p) : pc (P.take (k + 1)) = pc (P.take k) + tb p.1 := by
  unfold pc tb
  rw [List.take_succ, h, List.filter_append, List.length_append]
  rw [Option.toList_some, List.filter_cons, List.filter_nil]
  by_cases c : p.1 ∈ past
  · rw [if_pos c, if_pos (decide_eq_true c)]
    rfl
  · rw [if_neg c, if_neg (by rw [decide_eq_true_eq]; exact c)]
    rfl
theorem pc_mono {P : List Pt} {i j : Nat} (h : i ≤ j) : pc (P.take i) ≤ pc (P.take j) := by
  unfold pc
  rw [← List.countP_eq_length_filter, ← List.countP_eq_length_filter]
  exact (List.take_sublist_take_left h).countP_le
theorem pd_pc {nm : List Str} {P : List Pt} {Fs : List Fm} (G : Good nm P Fs) : ∀ k f, Fs[k]? = some f → pd f ≤ pc (P.take (k + 1)) := by
  intro k
  induction k using Nat.strongRecOn with
  | _ k ih =>
    intro f hf
    have hk : k < P.length := by
      rw [G.len]
      exact (List.getElem?_eq_some_iff.mp hf).1
    have hp : P[k]? = some P[k] := List.getElem?_eq_getElem hk
    have n := G.nd k f _ hf hp
    rw [pc_take hp]
    generalize P[k] = p at n
    cases f with
    | c0 c => obtain ⟨_, rfl⟩ := n; exact Nat.le_add_left _ _
    | sg s => exact Nat.zero_le _
    | un c f =>
      obtain ⟨_, i, hi, h3, rfl⟩ := n
      have := ih i hi f h3
      have := pc_mono (P := P) (show i + 1 ≤ k by omega)
      show pd f + tb c ≤ _ + tb c
      omega
    | bin c f g =>
      obtain ⟨_, i, j, hi, hj, h3, h4, rfl⟩ := n
      have := ih i hi f h3
      have := ih j hj g h4
      have := pc_mono (P := P) (show i + 1 ≤ k by omega)
      have := pc_mono (P := P) (show j + 1 ≤ k by omega)
      show max (pd f) (pd g) + tb c ≤ _ + tb c
      omega
end Tr
namespace Bx
open PySem PySem.Spec PyProof.Rows L2 Tr Tx
section
variable {X : Cx} {K : PySem.W.Frag}
theorem op_inK (h : X.K = K) : OpR X (compareOp .In) (rIn K false) := by
  subst h
  exact op_in_seq
theorem op_notInK (h : X.K = K) : OpR X (compareOp .NotIn) (rIn K true) := by
  subst h
  exact op_notIn_seq
theorem mt_indexK (h : X.K = K) : MtR X "list.index" (rIndex K) := by
  subst h
  exact mt_index
theorem pe_revLK {e : Expr} {te : TE} {k : Nat} {p1 p2 p3 pos : Pos} (h : X.K = K) (he : PE X e te) : PE X (.Subscript e (.Slice none none (some (.UnaryOp .USub (.Constant (.int 1) k p1) p2)) p3) pos) (tRevL K te) := by
  subst h
  exact pe_revL he
end
theorem in_strs (k : Str) : ∀ ss : List Str, inV (.str k) (ss.map V.str) = decide (k ∈ ss)
  | [] => by simp [inV]
  | s :: ss => by
    have ih := in_strs k ss
    unfold inV at ih ⊢
    rw [List.map_cons, List.any_cons, ih]
    show ((s == k) || _) = _
    by_cases c : s = k
    · subst c
      simp
    · have c2 : k ≠ s := fun z => c z.symm
      simp [c, c2]
theorem flat_strs : ∀ ss : List Str, (ss.map V.str).all flatV = true
  | [] => rfl
  | _ :: ss => by
    rw [List.map_cons, List.all_cons, flat_strs ss]
    rfl
theorem inq {K : PySem.W.Frag} {H : Hp} {p : Addr} {ss : List Str} {k : Str} {Q : VK} (h : SqT K H p (ss.map V.str)) (q : Q (.bl (decide (k ∈ ss))) H) : rIn K false (.str k) (.ref p) H Q :=
  ⟨p, _, rfl, .inr h, rfl, flat_strs ss, by rw [in_strs]; exact q⟩
theorem rev0 : pk3 ([] : List V) none none (-1) = [] := by simp [pk3, Builtin.Slice.slicePlaces, Builtin.Slice.sliceAdjust]
theorem rev1 (x : V) : pk3 [x] none none (-1) = [x] := by
  have e : Builtin.Slice.slicePlaces (Builtin.Slice.sliceAdjust none none (-1) ((1 : Nat) : Int)).1 (Builtin.Slice.sliceAdjust none none (-1) ((1 : Nat) : Int)).2 (-1) = 1 := by decide
  unfold pk3
  rw [show [x].length = 1 from rfl, e]
  rfl
theorem rev2 (x y : V) : pk3 [x, y] none none (-1) = [y, x] := by
  have e : Builtin.Slice.slicePlaces (Builtin.Slice.sliceAdjust none none (-1) ((2 : Nat) : Int)).1 (Builtin.Slice.sliceAdjust none none (-1) ((2 : Nat) : Int)).2 (-1) = 2 := by decide
  unfold pk3
  rw [show [x, y].length = 2 from rfl, e]
  rfl
/-! ### formulas in the heap -/
theorem sqt_same {K : PySem.W.Frag} {H H' : Hp} {a : Addr} {xs : List V} (e : Same H H') (h : SqT K H a xs) : SqT K H' a xs := by
  rcases h with (h | ⟨o, h⟩) | h
  · exact .inl (.inl (e _ _ h))
  · exact .inl (.inr ⟨o, e _ _ h⟩)
  · exact .inr h
theorem sqt_kp {K : PySem.W.Frag} {H H' : Hp} {d a : Addr} {xs : List V} {ys : List V} (hd : H d = some (.lst ys)) (e : Kp d H H') (h : SqT K H a xs) : SqT K H' a xs := by
  rcases h with (h | ⟨o, h⟩) | h
  · exact .inl (.inl (e _ _ (ne_of h hd (by intro z; cases z)) h))
  · exact .inl (.inr ⟨o, e _ _ (ne_of h hd (by intro z; cases z)) h⟩)
  · exact .inr h
def FmAt (K : PySem.W.Frag) (H : Hp) : V → Fm → Prop
  | v, .c0 k => ∃ a, v = .ref a ∧ SqT K H a [.str k]
  | v, .sg s => ∃ a, v = .ref a ∧ SqT K H a [.str sSig, .str s]
  | v, .un k f => ∃ a x, v = .ref a ∧ SqT K H a [.str k, x] ∧ FmAt K H x f
  | v, .bin k f g => ∃ a x y, v = .ref a ∧ SqT K H a [.str k, x, y] ∧ FmAt K H x f ∧ FmAt K H y g
theorem FmAt.same {K : PySem.W.Frag} {H H' : Hp} (e : Same H H') : ∀ {f : Fm} {v : V}, FmAt K H v f → FmAt K H' v f
  | .c0 _, _, ⟨a, h1, h2⟩ => ⟨a, h1, sqt_same e h2⟩
  | .sg _, _, ⟨a, h1, h2⟩ => ⟨a, h1, sqt_same e h2⟩
  | .un _ _, _, ⟨a, x, h1, h2, h3⟩ => ⟨a, x, h1, sqt_same e h2, h3.same e⟩
  | .bin _ _ _, _, ⟨a, x, y, h1, h2, h3, h4⟩ => ⟨a, x, y, h1, sqt_same e h2, h3.same e, h4.same e⟩
theorem FmAt.kp {K : PySem.W.Frag} {H H' : Hp} {d : Addr} {ys : List V} (hd : H d = some (.lst ys)) (e : Kp d H H') : ∀ {f : Fm} {v : V}, FmAt K H v f → FmAt K H' v f
  | .c0 _, _, ⟨a, h1, h2⟩ => ⟨a, h1, sqt_kp hd e h2⟩
  | .sg _, _, ⟨a, h1, h2⟩ => ⟨a, h1, sqt_kp hd e h2⟩
  | .un _ _, _, ⟨a, x, h1, h2, h3⟩ => ⟨a, x, h1, sqt_kp hd e h2, h3.kp hd e⟩
  | .bin _ _ _, _, ⟨a, x, y, h1, h2, h3, h4⟩ => ⟨a, x, y, h1, sqt_kp hd e h2, h3.kp hd e, h4.kp hd e⟩
/-- its sign -/
theorem FmAt.tup {K : PySem.W.Frag} {H : Hp} : ∀ {f : Fm} {v : V}, FmAt K H v f → ∃ a xs, v = .ref a ∧ SqT K H a (.str (kd f) :: xs)
  | .c0 _, _, ⟨a, h1, h2⟩ => ⟨a, _, h1, h2⟩
  | .sg _, _, ⟨a, h1, h2⟩ => ⟨a, _, h1, h2⟩
  | .un _ _, _, ⟨a, x, h1, h2, h3⟩ => ⟨a, _, h1, h2⟩
  | .bin _ _ _, _, ⟨a, x, y, h1, h2, h3, h4⟩ => ⟨a, _, h1, h2⟩
def FmsAt (K : PySem.W.Frag) (H : Hp) : List V → List Fm → Prop
  | [], [] => True
  | v :: vs, f :: fs => FmAt K H v f ∧ FmsAt K H vs fs
  | _, _ => False
theorem FmsAt.same {K : PySem.W.Frag} {H H' : Hp} (e : Same H H') : ∀ {vs : List V} {fs : List Fm}, FmsAt K H vs fs → FmsAt K H' vs fs
  | [], [], _ => trivial
  | _ :: _, _ :: _, h => ⟨h.1.same e, h.2.same e⟩
theorem FmsAt.kp {K : PySem.W.Frag} {H H' : Hp} {d : Addr} {ys : List V} (hd : H d = some (.lst ys)) (e : Kp d H H') : ∀ {vs : List V} {fs : List Fm}, FmsAt K H vs fs → FmsAt K H' vs fs
  | [], [], _ => trivial
  | _ :: _, _ :: _, h => ⟨h.1.kp hd e, h.2.kp hd e⟩
theorem FmsAt.len {K : PySem.W.Frag} {H : Hp} : ∀ {vs : List V} {fs : List Fm}, FmsAt K H vs fs → vs.length = fs.length
  | [], [], _ => rfl
  | _ :: _, _ :: _, h => congrArg (· + 1) h.2.len
theorem FmsAt.app {K : PySem.W.Frag} {H : Hp} : ∀ {vs us : List V} {fs gs : List Fm}, FmsAt K H vs fs → FmsAt K H us gs → FmsAt K H (vs ++ us) (fs ++ gs)
  | [], _, [], _, _, h => h
  | _ :: _, _, _ :: _, _, h, h' => ⟨h.1, h.2.app h'⟩
theorem FmsAt.rev {K : PySem.W.Frag} {H : Hp} : ∀ {vs : List V} {fs : List Fm}, FmsAt K H vs fs → FmsAt K H vs.reverse fs.reverse
  | [], [], _ => trivial
  | v :: vs, f :: fs, h => by
    rw [List.reverse_cons, List.reverse_cons]
    exact h.2.rev.app ⟨h.1, trivial⟩
theorem FmsAt.get {K : PySem.W.Frag} {H : Hp} : ∀ {vs : List V} {fs : List Fm} {i : Nat} {v : V}, FmsAt K H vs fs → vs[i]? = some v → ∃ f, fs[i]? = some f ∧ FmAt K H v f
  | [], [], _, _, _, e => by simp at e
  | v :: vs, f :: fs, 0, _, h, e => ⟨f, rfl, by cases e; exact h.1⟩
  | _ :: vs, _ :: fs, i + 1, _, h, e => by
    rw [List.getElem?_cons_succ] at e ⊢
    exact h.2.get e
/-! ### promises -/
def bi (b : Bool) : Int := if b = true then 1 else 0
/-- a module's tuple of texts -/
structure GloT (K : PySem.W.Frag) (mg : Str → Option Value) (x : Str) (ss : List Str) (a : Addr) : Prop where
  g : mg x = some (.ref a)
  q : ∀ H, SqT K H a (ss.map V.str)
def spOpers (K : PySem.W.Frag) : Sp := fun vs H Q _ => ∃ (v : V) (f : Fm) (nm : List Str), vs = [v] ∧ FmAt K H v f ∧ Wf nm f ∧
  ∀ (H' : Hp) (p : Addr) (xs : List V), Same H H' → H' p = some (.tup xs) → FmsAt K H' xs (kids f) → Q (.ref p) H'
def spSubs (K : PySem.W.Frag) : Sp := fun vs H Q _ => ∃ (v : V) (f : Fm) (nm : List Str), vs = [v] ∧ FmAt K H v f ∧ Wf nm f ∧ sz f ≤ 1000 ∧
  ∀ (H' : Hp) (p : Addr) (xs : List V), Same H H' → H' p = some (.lst xs) → FmsAt K H' xs (pre f) → Q (.ref p) H'
def PtsAt (H : Hp) : List Addr → List Pt → Prop
  | [], [] => True
  | a :: as, p :: ps => H a = some (.tup [.str p.1, .int p.2.1, .int p.2.2]) ∧ PtsAt H as ps
  | _, _ => False
def spParts (K : PySem.W.Frag) : Sp := fun vs H Q _ => ∃ (v : V) (n : Addr) (f : Fm) (nm : List Str), vs = [v, .ref n] ∧ FmAt K H v f ∧ SqL K H n (nm.map V.str) ∧ Wf nm f ∧ sz f ≤ 1000 ∧
  ∀ (H' : Hp) (p : Addr) (as : List Addr) (P : List Pt) (Fs : List Fm), Same H H' → H' p = some (.lst (as.map V.ref)) → PtsAt H' as P → Good nm P Fs → Fs.getLast? = some f → P.length ≤ 1000 → Q (.ref p) H'
def spTof : Sp := fun vs H Q _ => ∃ (k : Str) (a b c : Bool), vs = [.str k, .int (bi a), .int (bi b), .int (bi c), .int 1] ∧ ∀ H', Same H H' → Q (.int (bi (tofB k a b c))) H'
def spPl : Sp := fun vs H Q _ => ∃ (k : Str) (a b : Bool), vs = [.str k, .int (bi a), .int (bi b), .int 1] ∧ ∀ H', Same H H' → Q (.int (bi (plB k a b))) H'
def Arr (H : Hp) (a : Addr) (N : Nat) (s : Nat → Bool) : Prop := H a = some (.lst ((List.range N).map fun t => V.int (bi (s t))))
def spPast : Sp := fun vs H Q _ => ∃ (k : Str) (l r : Addr) (N : Nat) (a b : Nat → Bool), vs = [.str k, .ref l, .ref r] ∧ k ∈ past ∧ Arr H l N a ∧ Arr H r N b ∧ N ≤ 1000000 ∧
  ∀ (H' : Hp) (p : Addr), Same H H' → Arr H' p N (sq k a b) → Q (.ref p) H'
def spFut : Sp := fun vs H Q _ => ∃ (k : Str) (l r : Addr) (m L : Nat) (a b : Nat → Bool), vs = [.str k, .ref l, .ref r, .int m] ∧ ¬ k ∈ past ∧ k ∈ future ∧ 0 < L ∧ Pd a m L ∧ Pd b m L ∧ Arr H l (m + L) a ∧ Arr H r (m + L) b ∧ m + L ≤ 1000000 ∧
  ∀ (H' : Hp) (p : Addr), Same H H' → Arr H' p (m + L) (sq k a b) → Q (.ref p) H'
def ArrsAt (H : Hp) (N : Nat) : List Addr → List (Nat → Bool) → Prop
  | [], [] => True
  | a :: as, s :: ss => Arr H a N s ∧ ArrsAt H N as ss
  | _, _ => False
def spPv (K : PySem.W.Frag) : Sp := fun vs H Q _ => ∃ (p q : Addr) (h m L : Nat) (as : List Addr) (P : List Pt) (Fs : List Fm) (nm : List Str) (x : Nat → Int), vs = [.ref p, .ref q, .int m] ∧ H p = some (.lst (as.map V.ref)) ∧ PtsAt H as P ∧ P.length ≤ 1000 ∧
  TupI H q ((List.range (m + L)).map x) ∧ 0 < L ∧ m + L ≤ 1000000 ∧ h + pc P * L ≤ m ∧ (∀ t, h ≤ t → x (t + L) = x t) ∧ (∀ t, 0 ≤ x t) ∧ Good nm P Fs ∧
  ∀ (H' : Hp) (f : Addr) (fs : List Addr), Same H H' → H' f = some (.lst (fs.map V.ref)) → ArrsAt H' (m + L) fs (Fs.map (sem nm x)) → Q (.ref f) H'
def spTw (K : PySem.W.Frag) : Sp := fun vs H Q _ => ∃ (v : V) (n p : Addr) (f : Fm) (nm : List Str) (h l : List Int), vs = [v, .ref n, .ref p] ∧ FmAt K H v f ∧ SqL K H n (nm.map V.str) ∧ nm.length ≤ 30 ∧ Wf nm f ∧ sz f ≤ 500 ∧ Las H p h l ∧ l ≠ [] ∧ h.length ≤ 300 ∧ l.length ≤ 300 ∧
  (∀ z, z ∈ h ∨ z ∈ l → 0 ≤ z ∧ z < 2 ^ nm.length) ∧
  ∀ (H' : Hp) (q : Addr) (h' l' : List Int), Same H H' → Las H' q h' l' → Nrm h' l' → (∀ t, wat h' l' t = bi (sem nm (wat h l) f t)) → Q (.ref q) H'
end Bx
/-! ### own rules: set(xs), xs a list of texts; sorted of it -/
namespace Sxt
open PySem PySem.Spec PyProof.Rows L2 PySem.Froz
abbrev nul (w : World) : Obj := { cls := .type "set", dict := none, data := .set #[] 0 (.fresh 0 0 (!w.params.followText "set-order")) }
theorem strs_len : ∀ {us : List Value} {xs : List Str}, StrsAre us xs → us.length = xs.length
  | _, _, .nil => rfl
  | _, _, .cons _ _ t => by rw [List.length_cons, List.length_cons, strs_len t]
theorem addTx_keeps {h : Int} {v : Value} {D : SD} (r : Ris D.2.2.place.toList) : Ris (addTx h v D).2.2.place.toList ∧ (addTx h v D).2.2.led = D.2.2.led := by
  obtain ⟨es, ep, t⟩ := D
  have a := layNew_ris t es h v r
  have b := layNew_led t es h v
  unfold addTx tailTx
  dsimp only
  generalize layNew t es h v = Z at a b ⊢
  obtain ⟨es1, t1, wd, gv⟩ := Z
  dsimp only at a b ⊢
  have c : Ris (if t1.plain = true then { t1 with plain := false } else t1).place.toList ∧ (if t1.plain = true then { t1 with plain := false } else t1).led = t.led := by
    split
    · exact ⟨a, b⟩
    · exact ⟨a, b⟩
  generalize (if t1.plain = true then { t1 with plain := false } else t1) = t2 at c ⊢
  split
  · exact ⟨relayAll_ris _ _ _, by rw [relayAll_led]; exact c.2⟩
  · exact c
/-- the set at a holds the texts us -/
def SetTx (P : Program) (w : World) (h : Heap) (a : Addr) (us : List Str) : Prop :=
  ∃ D : SD, h.get? a = some (sObj "set" D) ∧ TxOk P w D us ∧ us.Nodup ∧ Ris D.2.2.place.toList ∧ (w.params.followText "set-order" = true ∨ D.2.2.led = true)
theorem SetTx.at {P : Program} {w : World} {h h' : Heap} {a : Addr} {us : List Str} (R : SetTx P w h a us) (k : ∀ o, h.get? a = some o → h'.get? a = some o) : SetTx P w h' a us := by
  obtain ⟨D, ho, r⟩ := R
  exact ⟨D, k _ ho, r⟩
theorem SetTx.new {P : Program} {w : World} {h : Heap} {a : Addr} (ho : h.get? a = some (nul w)) : SetTx P w h a [] :=
  ⟨(#[], 0, .fresh 0 0 (!w.params.followText "set-order")), ho, TxOk.nil (by rfl), List.nodup_nil, List.Pairwise.nil, by
    show _ ∨ (!w.params.followText "set-order") = true
    cases w.params.followText "set-order"
    · exact .inr rfl
    · exact .inl rfl⟩
section
variable {P : Program} {w : World} {A : Around} {E : Value → Shared → Prop} {s : Shared}
theorem old_x {a : Addr} {T : String} {D : SD} {l : List Str} {k : Str} {u : Tok} {Q : Bool → Shared → Prop} (ho : s.heap.get? a = some (sObj T D)) (F : TxOk P w D l) (hk : k ∈ l) (hb : l.length < scanBound)
    (h : Q false s) : wpAny (model P w) A (setAddHashed a (.str k u) (hashStr w k)) Q E s := by
  obtain ⟨es, ep, t⟩ := D
  have hel : ElemsOf (strKind P w) es.toList := F.el
  have hsz : es.size = l.length := F.sz
  have hkey : (strKind P w).is k (.str k u) = true := is_str k u
  obtain ⟨e, he, q⟩ := (F.mem k).mp hk
  cases hr : List.findIdx? (fun e => (strKind P w).is k e.2) es.toList with
  | none =>
    have c := List.findIdx?_eq_none_iff.mp hr e he
    rw [q] at c
    cases c
  | some j =>
    unfold setAddHashed setAddHashedIn
    refine wpAny_holding (wpAny_bind (wpAny_setState_of ho rfl F.fit ?_))
    dsimp only
    rw [byScan_of rfl (show es.size < scanBound by omega) hel]
    simp only [↓reduceIte]
    unfold setAddByScan
    refine wpAny_bind ?_
    refine wpAny_bind (wpAny_rule ?_)
    refine wpAny_bind (wpAny_setScan_of (knd := strKind P w) (k := k) hkey ho rfl F.fit hel ?_)
    rw [hr]
    dsimp only
    exact wpAny_pure (wpAny_pure h)
/-- one more text -/
theorem more_x {a : Addr} {us : List Str} {k : Str} {u : Tok} {Q : Bool → Shared → Prop} (R : SetTx P w s.heap a us) (hb : us.length + 1 < scanBound)
    (h : ∀ b h' us', (∀ c, c ≠ a → h'.get? c = s.heap.get? c) → SetTx P w h' a us' → (∀ z, z ∈ us' ↔ z = k ∨ z ∈ us) → us'.length ≤ us.length + 1 → Q b { s with heap := h' }) : wpAny (model P w) A (setAddHashed a (.str k u) (hashStr w k)) Q E s := by
  obtain ⟨D, ho, F, nd, r, hl⟩ := R
  by_cases c : k ∈ us
  · refine old_x ho F c (by omega) ?_
    exact h false s.heap us (fun _ _ => rfl) ⟨D, ho, F, nd, r, hl⟩ (fun z => ⟨.inr, fun q => q.elim (fun e => e ▸ c) id⟩) (Nat.le_succ _)
  · refine add_x ho F c hb ?_
    obtain ⟨k1, k2⟩ := addTx_keeps (h := hashStr w k) (v := .str k u) r
    refine h true _ (k :: us) (fun b hb' => Heap.get?_update_other _ _ (Ne.symm hb')) ⟨_, get_upd _ ho rfl, add_ok u F, List.nodup_cons.mpr ⟨c, nd⟩, k1, ?_⟩ (fun z => List.mem_cons) (Nat.le_refl _)
    rw [k2]; exact hl
/-- us holds what ns holds, once each -/
def Hol (ns us : List Str) (i : Nat) : Prop := us.length ≤ i ∧ ∀ z, z ∈ us ↔ z ∈ ns.take i
theorem update_x {I : Addr} {fp wr : List Addr} {G : Array GenState → Array GenState → Prop} {n : Nat} {Pv : Nat → Value → Prop} {St : Nat → Shared → Prop} {R : Result → Shared → Prop}
    (W : WalksS P w A.in1 I fp wr G n Pv St) (S : Addr) (hSf : S ∉ fp) (ns : List Str) (hn : n = ns.length) (hb : ns.length + 1 < scanBound) (hval : ∀ i v, Pv i v → ∃ k t, ns[i]? = some k ∧ v = .str k t) :
    ∀ (k i : Nat) (s : Shared), n - i = k → i ≤ n → St i s → (∃ us, Hol ns us i ∧ SetTx P w s.heap S us) →
      (∀ s' us, Moved (S :: wr) G s s' → Hol ns us n → SetTx P w s'.heap S us → R (.ok (.ret .none)) s') →
      codeAny (model P w) A (.builtin "set.update.loop" ⟨[.ref S, .ref I], []⟩) R s := by
  have hSw : S ∉ wr := fun h => hSf (W.sub _ h)
  have hsub : ∀ b ∈ wr, b ∈ S :: wr := fun b hb => List.mem_cons_of_mem _ hb
  intro k
  induction k with
  | zero =>
    intro i s hk' hi hst ⟨us, hc, hS⟩ hR
    have hin : i = n := by omega
    subst hin
    refine codeAny_builtin F.entry_set_update_loop ?_
    rw [Around.under_plainId F.plain_set_update_loop _]
    show wpAny _ A.in1 (pyNext (.ref I) >>= _) _ _ s
    refine wpAny_bind (W.done s _ _ hst fun s' hm => ?_)
    show wpAny _ A.in1 (ret Value.none) _ _ s'
    exact wpAny_pure (hR s' us (hm.mono hsub) hc (hS.at fun o e => hm.heap S o hSw e))
  | succ k ih =>
    intro i s hk' hi hst ⟨us, hc, hS⟩ hR
    have hlt : i < n := by omega
    refine codeAny_builtin F.entry_set_update_loop ?_
    rw [Around.under_plainId F.plain_set_update_loop _]
    show wpAny _ A.in1 (pyNext (.ref I) >>= _) _ _ s
    refine wpAny_bind (W.item i s _ _ hlt hst fun v s' hP hst' hm => ?_)
    obtain ⟨z, t, hz, rfl⟩ := hval i v hP
    have hS' : SetTx P w s'.heap S us := hS.at fun o e => hm.heap S o hSw e
    show wpAny _ A.in1 (holding [Value.str z t] (setAdd S (.str z t)) >>= _) _ _ s'
    refine wpAny_bind (wpAny_holding ?_)
    unfold setAdd
    refine wpAny_holding ?_
    refine wpAny_bind ((strKind P w).pyHash (k := z) (is_str z t) ?_)
    refine more_x (s := { s' with toks := s'.toks + 1 }) hS' (by have := hc.1; omega) fun b h' us' hoth hS2 hm2 hl2 => ?_
    have hc3 : Hol ns us' (i + 1) := by
      refine ⟨by have := hc.1; omega, fun y => ?_⟩
      rw [hm2, List.take_add_one, hz, List.mem_append, hc.2]
      show _ ↔ _ ∨ y ∈ [z]
      rw [List.mem_singleton]
      exact Or.comm
    refine wpAny_pure ⟨plainId_quiet F.plain_set_update_loop _, ih (i + 1) _ (by omega) hlt (W.frame _ s' _ _ hst' (Nat.le_succ _) fun b hb o e => ?_) ⟨_, hc3, hS2⟩ fun s'' c2 hm'' hc'' hS'' => ?_⟩
    · rw [hoth b (fun h : b = S => hSf (by rw [← h]; exact hb))]; exact e
    · refine hR s'' c2 (Moved.trans W.gtrans ((hm.mono hsub).then_heap (Nat.le_succ _) fun b o hb e => ?_) hm'') hc'' hS''
      rw [hoth b (fun h : b = S => hb (by rw [h]; exact List.mem_cons_self))]; exact e
/-- what the filling leaves behind -/
def Filled (P : Program) (w : World) (s : Shared) (ns : List Str) (s2 : Shared) : Prop := ∃ h' tk us, s2 = { s with heap := h', toks := tk } ∧ SetTx P w h' s.heap.objs.size us ∧ Hol ns us ns.length ∧ ∀ b o, s.heap.get? b = some o → h'.get? b = some o
theorem set_of_tx {l : Addr} {items : Array Value} (ns : List Str) {Q : Value → Shared → Prop} (hh : A.handled = none) (hl : s.heap.IsList l items) (hit : StrsAre items.toList ns) (hb : ns.length + 1 < scanBound)
    (h : ∀ s2, Filled P w s ns s2 → Q (.ref s.heap.objs.size) s2) : wpAny (model P w) A (call (.type "set") [.ref l]) Q E s := by
  have hisz : items.size = ns.length := by
    have q := strs_len hit
    rwa [Array.length_toList] at q
  have hS : (s.heap.push (nul w)).get? s.heap.objs.size = some (nul w) := Heap.get?_push_size _ rfl
  have hlt : l < s.heap.objs.size := by
    obtain ⟨o, ho, _⟩ := hl
    exact Heap.lt_size ho
  obtain ⟨c, tl, hmro⟩ := F.called_set.mro
  have m1 := F.called_set.made
  have m2 := F.called_set.sub
  refine wpAny_call (codeAny_of_tree ?_)
  show wpAny _ _ (callAny (.type "set") _) _ _ _
  refine wpAny_pure ⟨Code.quiet_builtin _ (by decide +kernel), codeAny_builtin F.entry_type_call ?_⟩
  rw [Around.under_plain (weight_type_call_type "set" [.ref l] []) rfl]
  have m3 := F.called_set.notType
  have m4 := F.called_set.canCreate
  have m5 := F.typeCall_set_1 (.ref l)
  repeat (any_goals (first | assumption | wp_step))
  refine codeAny_mono (code_set_led1 (.ref l) (E := E) (Q₁ := fun obj s1 => obj = .ref s.heap.objs.size ∧ s1 = { s with heap := s.heap.push (nul w) }) ⟨rfl, rfl⟩) fun r s1 hr => ?_
  cases r with
  | error e => exact hr
  | ok fl =>
    cases fl with
    | next => exact hr.elim
    | brk => exact hr.elim
    | cont => exact hr.elim
    | ret obj =>
      obtain ⟨rfl, rfl⟩ := hr
      have hT : Shared.TypeIs { s with heap := s.heap.push (nul w) } (.ref s.heap.objs.size) "set" := ⟨_, hS, rfl⟩
      have m6 := F.called_set.init.lookup
      have m7 := F.called_set.init.bind (.ref s.heap.objs.size)
      repeat (any_goals (first | assumption | wp_step))
      refine codeAny_mono (codeAny_call_builtin (R := wants (fun r s2 => r = .none ∧ Filled P w s ns s2) E) F.called_set.init.plain F.entry_set_init (check_set_init_1 hT ?_)) fun r2 s2 hr2 => ?_
      · obtain ⟨ol, hol, hcl, nl, hdl⟩ := hl
        obtain ⟨ocls, odict, odata, oslots⟩ := ol
        simp only at hcl hdl
        subst hcl
        subst hdl
        have hol' := Heap.get?_push_of_some (nul w) hol
        have q1 := F.sub_list_set
        have q2 := F.sub_list_frozenset
        have q3 : (Value.type "list" == Value.type "dict") = false := by decide
        have hl1 : (s.heap.push (nul w)).IsList l items := ⟨_, hol', rfl, nl, rfl⟩
        unfold Builtin.«set.__init__» noKeywords Builtin.Frozenset.updateFrom
        generalize hPI : pyIter = PI
        wp_walk
        subst hPI
        refine wpAny_pyIter_list hl1 ?_
        refine wpAny_bind (wpAny_runValue ?_)
        have hh3 : A.in1.in1.in1.handled = none := by simp [hh]
        have n1 : l ≠ (s.heap.push (nul w)).objs.size := by
          rw [Heap.size_push]
          exact Nat.ne_of_lt (Nat.lt_succ_of_lt hlt)
        have n2 : s.heap.objs.size ∉ [(s.heap.push (nul w)).objs.size, l] := by
          rw [Heap.size_push]
          simp only [List.mem_cons, List.not_mem_nil, or_false, not_or]
          exact ⟨Nat.ne_of_lt (Nat.lt_succ_self _), Nat.ne_of_gt hlt⟩
        have vals : ∀ (i : Nat) (v : Value), items[i]? = some v → ∃ k t, ns[i]? = some k ∧ v = .str k t := fun i v hv => by
          have hi : i < ns.length := by rw [← hisz]; exact (Array.getElem?_eq_some_iff.mp hv).1
          obtain ⟨t, e⟩ := SS.strs_at hit i v (by rw [Array.getElem?_toList]; exact hv)
          exact ⟨ns[i], t, List.getElem?_eq_getElem hi, by rw [e, List.getD_eq_getElem?_getD, List.getElem?_eq_getElem hi]; rfl⟩
        refine update_x ((Walks.list hh3 _ l n1 items).toS) s.heap.objs.size n2 ns hisz hb vals (items.size - 0) 0 _ (by omega) (Nat.zero_le _)
          ⟨⟨_, Heap.get?_push_size _ rfl, rfl, rfl⟩, (hl1.push _)⟩ ⟨[], ⟨Nat.le_refl 0, fun z => by simp⟩, SetTx.new (Heap.get?_push_of_some _ hS)⟩ fun s' c' hm hc' hS' => ?_
        obtain ⟨h', g2, d', tk', os'⟩ := s'
        obtain rfl : g2 = s.gens := hm.gens
        obtain rfl : d' = s.drawn := hm.drawn
        obtain rfl : os' = s.os := hm.os
        show wpAny _ _ _ _ _ _
        refine wpAny_pure ?_
        show wpAny _ _ (ret Value.none) _ _ _
        rw [hisz] at hc'
        refine wpAny_pure ⟨rfl, h', tk', c', rfl, hS', hc', fun b o e => ?_⟩
        have b0 : b < s.heap.objs.size := Heap.lt_size e
        refine hm.heap b o ?_ (Heap.get?_push_of_some _ (Heap.get?_push_of_some _ e))
        rw [Heap.size_push]
        simp only [List.mem_cons, List.not_mem_nil, or_false, not_or]
        exact ⟨Nat.ne_of_lt b0, Nat.ne_of_lt (Nat.lt_succ_of_lt b0)⟩
      · cases r2 with
        | error e => exact hr2
        | ok fl2 =>
          cases fl2 with
          | next => exact hr2.elim
          | brk => exact hr2.elim
          | cont => exact hr2.elim
          | ret r =>
            obtain ⟨rfl, hf⟩ := hr2
            have hf2 := hf
            obtain ⟨h', tk, c, rfl, _⟩ := hf2
            repeat (any_goals (first | assumption | wp_step))
            exact h _ hf
theorem perm_of_sub : ∀ (l ss : List Str), l.Nodup → (∀ z ∈ l, z ∈ ss) → ss.length ≤ l.length → ss.Perm l
  | [], ss, _, _, h => by rw [List.length_eq_zero_iff.mp (Nat.le_zero.mp h)]
  | x :: l, ss, nd, h, hl => by
    obtain ⟨n1, n2⟩ := List.nodup_cons.mp nd
    have hx := h x List.mem_cons_self
    have p := List.perm_cons_erase hx
    refine p.trans (List.Perm.cons x (perm_of_sub l (ss.erase x) n2 (fun z hz => ?_) ?_))
    · exact (List.mem_erase_of_ne (fun e : z = x => n1 (by rw [← e]; exact hz))).mpr (h z (List.mem_cons_of_mem _ hz))
    · rw [List.length_erase_of_mem hx]
      simp only [List.length_cons] at hl
      omega
theorem strs_of_all : ∀ (vs : List Value), (∀ v ∈ vs, ∃ k t, v = Value.str k t) → StrsAre vs (vs.map strOf)
  | [], _ => .nil
  | v :: vs, h => by
    obtain ⟨k, t, rfl⟩ := h v List.mem_cons_self
    exact .cons k t (strs_of_all vs fun u hu => h u (List.mem_cons_of_mem _ hu))
theorem sorted_tx {a : Addr} {us : List Str} {Q : Value → Shared → Prop} (R : SetTx P w s.heap a us) (hh : A.handled = none) (h64 : us.length < 64)
    (hQ : ∀ s' p (out : Array Value) (c : Nat) (ys : List Str), (∀ b o, s.heap.get? b = some o → s'.heap.get? b = some o) → s'.gens = s.gens → s'.os = s.os → s.heap.objs.size ≤ p →
      s'.heap.get? p = some (seqObj "list" out c) → StrsAre out.toList ys → ys.Perm us → sortedS ys = true → Q (.ref p) s') :
    wpAny (model P w) A (call (.builtin "sorted") [.ref a]) Q E s := by
  obtain ⟨⟨es, ep, t⟩, ho, F, nd, r, hl⟩ := R
  have hsz : es.size = us.length := F.sz
  have hbd : es.size < scanBound := by
    have : scanBound = 4096 := rfl
    omega
  refine Calls.call_function_entry kind_sorted plain_sorted entry_sorted (args_sorted1 _) ?_
  unfold Builtin.«sorted»
  refine wpAny_bind (m := checkCount "sorted" 1 1 _) (wpAny_pure ?_)
  refine wpAny_bind (collect_set (A := A.in1) hh ⟨_, ho, rfl, rfl⟩ F.fit hbd r hl fun s1 vs k1 hz g1 o1 pm => ?_)
  have hvl : vs.length = us.length := by rw [pm.length_eq, List.length_map, Array.length_toList]; exact hsz
  have hI : StrsAre vs (vs.map strOf) := strs_of_all vs fun v hv => by
    obtain ⟨e, he, q⟩ := List.mem_map.mp (pm.mem_iff.mp hv)
    obtain ⟨⟨k, hk, _⟩, _⟩ := F.el e he
    obtain ⟨u, hu⟩ := Value.isStrOf_shape (show Value.isStrOf k e.2 = true from hk)
    exact ⟨k, u, by rw [← q]; exact hu⟩
  have pk : (vs.map strOf).Perm us := by
    refine perm_of_sub us _ nd (fun z hz => ?_) (by rw [List.length_map, hvl]; exact Nat.le_refl _)
    obtain ⟨e, he, q⟩ := (F.mem z).mp hz
    obtain ⟨u, hu⟩ := Value.isStrOf_shape (show Value.isStrOf z e.2 = true from q)
    exact List.mem_map.mpr ⟨e.2, pm.mem_iff.mpr (List.mem_map.mpr ⟨e, he, rfl⟩), by rw [hu]; rfl⟩
  refine wpAny_bind (wpAny_newList ?_ (by rw [hvl, sizeLine_eq]; omega))
  have hoL : (s1.heap.push (seqObj "list" vs.toArray 0)).get? s1.heap.objs.size = some (seqObj "list" vs.toArray 0) := Heap.get?_push_size _ rfl
  refine wpAny_bind (wpAny_holding (wpAny_call_entry slot_list_sort ⟨_, hoL, rfl⟩ entry_list_sort (list_sort_treeK strKind_oneLt hoL hI.keysOf (fun v₁ v₂ rest e => keyKind_strs (by rw [← e]; exact hI)) (by rw [hvl]; exact h64) fun st' hp hs => ⟨_, rfl, ?_⟩) (args_list_sort _)))
  obtain ⟨ys, a1, a2, a3⟩ := sorted_out_str hI hp hs
  obtain ⟨c, hc⟩ := sortedHeap_at (vs := vs) (out := (arrOf st').map (·.2)) hoL
  refine wpAny_pure ⟨_, rfl, hQ _ s1.heap.objs.size _ c ys (fun b u e => ?_) g1 o1 hz hc a1 (a2.trans pk) a3⟩
  have q := k1 b u e
  have hlt := Heap.lt_size q
  show (sortedHeap (s1.heap.push (seqObj "list" vs.toArray 0)) s1.heap.objs.size vs _).get? b = some u
  rw [sortedHeap_old (Nat.ne_of_lt hlt) (by rw [size_push']; exact Nat.lt_succ_of_lt hlt)]
  exact Heap.get?_push_of_some _ q
end
section
variable {X : Cx} {K : PySem.W.Frag} {w : World} {P : Program}
/-- the set of texts at a -/
def SetTxO (P : Program) (w : World) (a : Addr) (us : List Str) : HO := .ext fun h => SetTx P w h a us
theorem setTxO_new {H : Hp} {h : Heap} {a : Addr} {us : List Str} (R : SetTx P w h a us) : ObjOk P w H h a (SetTxO P w a us) := by
  have ⟨_, ho, _⟩ := R
  exact ⟨R, ⟨_, ho⟩, fun h1 h2 p k => SetTx.at p k⟩
/-- set(xs), xs a list of texts -/
def rSetTx (K : PySem.W.Frag) (P : Program) (w : World) : List V → Hp → VK → Prop := fun xs H Q => ∃ (l : Addr) (ns : List Str), xs = [V.ref l] ∧ SqL K H l (ns.map V.str) ∧ ns.length + 1 < scanBound ∧
  ∀ p us, H p = none → us.length ≤ ns.length → (∀ z, z ∈ us ↔ z ∈ ns) → us.Nodup → Q (.ref p) (upd H p (SetTxO P w p us))
theorem cr_setTx (hp : X.prog = P) (h : X.K = K) (hw : X.w = w) (hc : X.calm = true) : CallR X (.type "set") (rSetTx K P w) := by
  subst h
  subst hw
  subst hp
  intro pins s σ H xs us Q I r h
  obtain ⟨l, ns, rfl, hl, hb, q⟩ := h
  rw [Vals.ref1 r]
  obtain ⟨its, rv, pl, hz⟩ := I.list hl
  refine set_of_tx (P := X.prog) (w := X.w) ns (I.ok.hd hc) pl.isList (by simpa using strsAre_of rv) hb fun s2 hf => ?_
  obtain ⟨h', tk, us, rfl, R, hcl, hk⟩ := hf
  have nd := R
  obtain ⟨_, _, _, nd, _⟩ := nd
  have hm := hcl.2
  rw [List.take_length] at hm
  exact ⟨.ref _, upd H s.heap.objs.size (SetTxO X.prog X.w s.heap.objs.size us), I.laid (t' := tk) hk (Nat.le_refl _) (setTxO_new R), rfl, q _ us (I.hok.fresh (Nat.le_refl _)) hcl.1 hm nd⟩
/-- sorted(set of texts), fewer than 64 members -/
def rSortTx (P : Program) (w : World) : List V → Hp → VK → Prop := fun vs H Q => ∃ (a : Addr) (us : List Str), vs = [V.ref a] ∧ H a = some (SetTxO P w a us) ∧ us.length < 64 ∧
  ∀ (ys : List Str) (p : Addr), ys.Perm us → sortedS ys = true → H p = none → Q (.ref p) (upd H p (.lst (ys.map V.str)))
theorem cr_sortTx (hp : X.prog = P) (hw : X.w = w) (hc : X.calm = true) : CallR X (.builtin "sorted") (rSortTx P w) := by
  subst hw
  subst hp
  intro pins s σ H vs us Q I r h
  obtain ⟨a, us, rfl, ha, h64, q⟩ := h
  have R : SetTx X.prog X.w s.heap a us := (I.hok a _ ha).1
  rw [Vals.ref1 r]
  refine sorted_tx R (I.ok.hd hc) h64 fun s' p out c ys k g o hp hg hi pm hs => ?_
  have hlen : (ys.map V.str).length ≤ sizeLine := by rw [List.length_map, pm.length_eq, sizeLine_eq]; omega
  have hn : H p = none := I.hok.fresh hp
  have J : Inv X pins σ (upd H p (.lst (ys.map V.str))) { s with heap := s'.heap, gens := s'.gens, drawn := s'.drawn, toks := s'.toks } :=
    I.call (ch := []) (Un.laid k hp hn) (I.hok.laid k hp ⟨hlen, out.toList, c, vals_of_strs hi, hg⟩) (by rw [g]; exact I.bare) (fun _ z => nomatch z)
  have e : s' = { s with heap := s'.heap, gens := s'.gens, drawn := s'.drawn, toks := s'.toks } := by
    cases s'
    cases s
    cases o
    rfl
  rw [e]
  exact ⟨.ref p, _, J, rfl, q ys p pm hs hn⟩
theorem cr_sortedSK (h : X.K = K) : CallR X (.builtin "sorted") (rSortedS K) := by
  subst h
  exact cr_sortedS
end
end Sxt

/-! items() of a dict that the module wrote out -/
namespace Kt7
open PySem PySem.Spec PyProof.Rows L2
/-- the entries are these texts -/
def EntS : List DictEntry → List (Str × Str) → Prop
  | [], kvs => kvs = []
  | e :: r, kvs => ∃ k v kvr, kvs = (k, v) :: kvr ∧ (∃ t, e.key = .str k t) ∧ (∃ u, e.val = .str v u) ∧ EntS r kvr
def KIt (K : PySem.W.Frag) (w : World) (d : Addr) (kvs : List (Str × Str)) : Prop := ∃ es n, K.lookup d = some ⟨.type "dict", none, .dict es n, #[]⟩ ∧ PySem.W.KeysLit w.params es.toList ∧ (d == sysModules) = false ∧ EntS es.toList kvs ∧ (kvs.map (·.1)).Nodup
theorem ent_pairs {prog : Program} {w : World} : ∀ {es : List DictEntry} {kvs : List (Str × Str)}, EntS es kvs → ∃ vs : List (Str × Value), Pairs (strKind prog w) es vs ∧ vs.map (·.1) = kvs.map (·.1) ∧ ∀ (i : Nat) (k v : Str), kvs[i]? = some (k, v) → ∃ u, vs[i]? = some (k, .str v u)
  | [], kvs, h => by
    subst h
    exact ⟨[], .nil, rfl, fun i k v e => by simp at e⟩
  | e :: r, kvs, h => by
    obtain ⟨k, v, kvr, rfl, ⟨t, ht⟩, ⟨u, hu⟩, hr⟩ := h
    obtain ⟨vs, p1, p2, p3⟩ := ent_pairs (prog := prog) (w := w) hr
    refine ⟨(k, .str v u) :: vs, .cons (by rw [ht]; exact strKind_is prog w k t) hu p1, by simp [p2], fun i k' v' e' => ?_⟩
    cases i with
    | zero => cases e'; exact ⟨u, rfl⟩
    | succ i => exact p3 i k' v' e'
section
variable {P : Program} {w : World} {K : PySem.W.Frag} {d : Addr} {kvs : List (Str × Str)}
/-- what it is in a state -/
theorem kit_at {h : Heap} (kin : K.In h) (D : KIt K w d kvs) : ∃ (es : Array DictEntry) (n : Nat) (vs : List (Str × Value)), (d == sysModules) = false ∧ h.DictAt (strKind P w) d vs n ∧ vs.length = kvs.length ∧ (∀ (i : Nat) (k v : Str), kvs[i]? = some (k, v) → ∃ u, vs[i]? = some (k, .str v u)) ∧ K.lookup d = some ⟨.type "dict", none, .dict es n, #[]⟩ := by
  obtain ⟨es, n, hl, lit, low, he, nd⟩ := D
  obtain ⟨vs, p1, p2, p3⟩ := ent_pairs (prog := P) (w := w) he
  obtain ⟨o, es', ep', g1, g2, g3, g4, _⟩ := PySem.W.mapOf_K (prog := P) (w := w) kin hl lit
  have g0 := kin _ _ hl
  rw [g1] at g0
  cases g0
  cases g3
  refine ⟨es, n, vs, low, ⟨_, es, g1, g2, rfl, g4, p1, by rw [p2]; exact nd⟩, ?_, p3, hl⟩
  have := congrArg List.length p2
  simpa using this
def Itm (kvs : List (Str × Str)) : It :=
  ⟨fun i _ => i < kvs.length, fun i H x H' => ∃ T k v, kvs[i]? = some (k, v) ∧ x = .ref T ∧ H T = none ∧ H' = upd H T (.tup [.str k, .str v]), fun i _ => kvs.length ≤ i⟩
theorem turn_kit {elts : List Expr} {kk : Nat} {tpos : Pos} (D : KIt K w d kvs) {es : Array DictEntry} {n : Nat} (hln : K.lookup d = some ⟨.type "dict", none, .dict es n, #[]⟩) (it : Addr) : Turn P w K (.Tuple elts kk tpos) (Itm kvs) [it] it (fun i h => ∃ a b, IsItemIter h it d i kvs.length n a b) where
  mem := List.mem_singleton.mpr rfl
  obj := fun i h st b hb => by
    obtain rfl := List.mem_singleton.mp hb
    obtain ⟨a, c, e⟩ := st
    exact ⟨_, e, fun v z => nomatch z⟩
  keep := fun i h h' st k => by
    obtain ⟨a, c, e⟩ := st
    exact ⟨a, c, k it (List.mem_singleton.mpr rfl) _ e⟩
  item := by
    rintro X rfl rfl rfl hc i pins s σ H E I hf st hi
    obtain ⟨es2, n2, vs, low, dat, hvl, hget, hl2⟩ := kit_at (P := X.prog) I.kIn D
    obtain rfl : n2 = n := by rw [hln] at hl2; cases hl2; rfl
    obtain ⟨⟨k, v⟩, hkv⟩ : ∃ p, kvs[i]? = some p := ⟨_, List.getElem?_eq_getElem hi⟩
    obtain ⟨u, hu⟩ := hget i k v hkv
    obtain ⟨ka, va, he⟩ := st
    rw [← hvl] at he
    have hlt : it < s.heap.objs.size := Heap.lt_size he
    refine wpAny_pyNext_items_item he dat hu fun key h1 hkey h2 h3 h4 h5 => ⟨_, rfl, wpAny_letOwnedTupleGo_items (s := { s with heap := h1 }) h2 fun h6 h7 sb => ?_⟩
    have hT : h6.get? s.heap.objs.size = some { cls := .type "tuple", data := .seq #[key, .str v u] } := (sb.2 _ (Nat.ne_of_gt hlt)).trans h3
    have hks : RelV (.str k) key := by
      have hkey' : Value.isStrOf k key = true := hkey
      cases key with
      | str x t =>
        have : k = x := by
          have z : x = k := by simpa [Value.isStrOf] using hkey'
          exact z.symm
        rw [this]
        exact ⟨t, rfl⟩
      | _ => simp [Value.isStrOf] at hkey'
    have nw : ObjOk X.prog X.w (upd H s.heap.objs.size (.tup [.str k, .str v])) h6 s.heap.objs.size (.tup [.str k, .str v]) := ⟨by show 2 ≤ sizeLine; decide, [key, .str v u], .cons hks (.cons ⟨u, rfl⟩ .nil), ⟨_, hT, rfl, _, rfl⟩⟩
    have I2 : Inv X pins σ (upd H s.heap.objs.size (.tup [.str k, .str v])) { s with heap := h6 } := I.turnedNew (t' := s.toks) (ch := [it]) (fun b ob hb e => (sb.2 b (fun z => hb (List.mem_singleton.mpr z))).trans (h5 b ob (fun z => hb (List.mem_singleton.mpr z)) e)) hf (Nat.le_refl _) nw
    refine ⟨.ref s.heap.objs.size, _, I2, rfl, ⟨_, k, v, hkv, rfl, I.hok.fresh (Nat.le_refl _), rfl⟩, ⟨key, .str v u, by rw [← hvl]; exact h7⟩, fun b hb => ?_⟩
    obtain rfl := List.mem_singleton.mp hb
    rw [upd_ne (Nat.ne_of_lt hlt)]
    exact (hf b (List.mem_singleton.mpr rfl)).1
  done := by
    rintro X rfl rfl rfl hc i pins s σ H E I hf st hi
    obtain ⟨es2, n2, vs, low, dat, hvl, hget, hl2⟩ := kit_at (P := X.prog) I.kIn D
    obtain rfl : n2 = n := by rw [hln] at hl2; cases hl2; rfl
    obtain ⟨f0, f1, f2, f3, f4, f5⟩ := hf it (List.mem_singleton.mpr rfl)
    obtain ⟨ka, va, he⟩ := st
    rw [← hvl] at he
    exact wpAny_pyNext_items_end (I.ok.hd hc) he dat (List.getElem?_eq_none (by rw [hvl]; exact hi)) fun h1 eb => ⟨rfl, I.turned (t' := s.toks) (fun b ob hb e => eb b ob hb e) f0 f1 f3 f4 f5⟩
  self := fun A i s Q E st h => by
    obtain ⟨a, c, e⟩ := st
    exact PySem.W.kcp_self e h
end
section
variable {X : Cx} {e : Expr} {td : TE} {apos cpos : Pos}
/-- NAME.items() -/
def iKit (K : PySem.W.Frag) (w : World) (td : TE) : TI := fun σ H R => td σ H fun x H1 => ∃ d kvs, x = .ref d ∧ KIt K w d kvs ∧ R (Itm kvs) H1
theorem pi_kit {elts : List Expr} {kk : Nat} {tpos : Pos} (he : PE X e td) (hb : attributeBase e "items" X.env (eval e X.env) = eval e X.env := by rfl) (hline : (apos.endLine == cpos.line) = true := by rfl) :
    PI X (.Tuple elts kk tpos) (.Call (.Attribute e "items" apos) [] [] cpos) (iKit X.K X.w td) := by
  refine ⟨fun pins s σ H R I h => wpAny_Call_method (T := "dict") (id := "dict.items") hb rfl hline F.plainAttrs_dict F.slot_dict_items F.type_dict_items (thn (he.run pins s σ H _ I h) fun u s1 ⟨x, H1, I1, rx, d, kvs, ex, D, q⟩ => ?_)⟩
  subst ex
  obtain rfl : u = Value.ref d := rx
  obtain ⟨es, n, vs, low, dat, hvl, hget, hln⟩ := kit_at (P := X.prog) I1.kIn D
  have dof : s1.heap.DictOf (strKind X.prog X.w) d vs := by
    obtain ⟨o, es', g1, g2, g3, g4, g5, g6⟩ := dat
    exact ⟨o, es', n, g1, g2, g3, g4, g5, g6⟩
  have mo := PySem.W.mapOf_K (prog := X.prog) (w := X.w) I1.kIn D.choose_spec.choose_spec.1 D.choose_spec.choose_spec.2.1
  refine ⟨mo.typeIs, mo.noDict, ?_⟩
  have I2 : Inv X pins σ H1 { s1 with heap := s1.heap.push { cls := .type "dict_items", data := .fields #[.ref d] } } := I1.kept (t' := s1.toks) fun b ob q => Heap.get?_push_of_some _ q
  obtain ⟨es2, n2, vs2, _, dat2, hvl2, _, hln2⟩ := kit_at (P := X.prog) I2.kIn D
  obtain rfl : n2 = n := by rw [hln] at hln2; cases hln2; rfl
  have fin : wpAny (model X.prog X.w) X.A (pyIter (.ref s1.heap.objs.size)) (PIE X pins σ (.Tuple elts kk tpos) R) X.xe { s1 with heap := s1.heap.push { cls := .type "dict_items", data := .fields #[.ref d] } } := by
    refine wpAny_pyIter_items (knd := strKind X.prog X.w) (d := d) ⟨_, Heap.get?_push_size _ rfl, rfl, rfl⟩ dat2 (pi_one (tk := s1.toks) I2 _ (turn_kit D hln _) ⟨.none, .none, ?_⟩ q)
    rw [← hvl2]
    exact Heap.get?_push_size _ rfl
  show wpAny _ _ (callWith cpos (.builtin "dict.items") [.ref d] [] []) _ X.xe s1
  exact method_meetsIn F.slot_dict_items F.entry_dict_items rfl (PySem.evalArgs_none ⟨rfl, mo.typeIs, F.args_dict_items_1 _, _, meets_dict_items (strKind X.prog X.w) d low, ⟨vs, dof⟩, fin⟩)
end
end Kt7
/-! xs[-2::-1] of a list; lookups in a dict of texts that the module wrote out -/
namespace Kt7
open PySem PySem.Spec PyProof.Rows L2
theorem fmc {α β : Type} {f g : α → Option β} : ∀ (l : List α), (∀ x ∈ l, f x = g x) → l.filterMap f = l.filterMap g
  | [], _ => rfl
  | x :: l, h => by
    rw [List.filterMap_cons, List.filterMap_cons, h x List.mem_cons_self, fmc l fun y hy => h y (List.mem_cons_of_mem _ hy)]
theorem pick2 (items : List Value) (h : 1 < items.length) : slicePick items.toArray (some (-2)) none (some (-1)) = items.dropLast.reverse.toArray := by
  have hb : sliceBounds (some (-2)) none (some (-1)) items.length = ((items.dropLast.length : Int) - 1, -1, -1) := by
    rw [List.length_dropLast]
    simp only [sliceBounds, Option.getD_some]
    rw [if_neg (show ¬ ((-1 : Int) > 0) by decide), if_neg (show ¬ ((-1 : Int) > 0) by decide), if_pos (show (-2 : Int) < 0 by decide)]
    refine Prod.ext ?_ rfl
    show max (-1) (min (-2 + (items.length : Int)) ((items.length : Int) - 1)) = ((items.length - 1 : Nat) : Int) - 1
    omega
  unfold slicePick
  rw [List.size_toArray, hb]
  show ((sliceRange ((items.dropLast.length : Int) - 1) (-1) (-1)).filterMap (items.toArray[·]?)).toArray = _
  have e1 := PySem.W.krv_pick items.dropLast.toArray
  unfold slicePick at e1
  rw [List.size_toArray, PySem.W.krv_bounds] at e1
  have e2 : (sliceRange ((items.dropLast.length : Int) - 1) (-1) (-1)).filterMap (items.dropLast.toArray[·]?) = items.dropLast.reverse := by
    have := congrArg Array.toList e1
    simpa using this
  rw [← e2]
  congr 1
  refine fmc _ fun i hi => ?_
  have hlt : i < items.dropLast.length := by
    rw [PySem.W.krv_sliceRange] at hi
    obtain ⟨k, hk, rfl⟩ := List.mem_map.mp hi
    have := List.mem_range.mp hk
    omega
  have hl2 : i < items.length - 1 := by rwa [List.length_dropLast] at hlt
  rw [List.getElem?_toArray, List.getElem?_toArray, List.getElem?_eq_getElem hlt, List.getElem?_eq_getElem (show i < items.length by omega), List.getElem_dropLast]
theorem vals_dl : ∀ {xs : List V} {us : List Value}, Vals xs us → Vals xs.dropLast us.dropLast
  | [], _, .nil => .nil
  | [x], _, .cons _ .nil => .nil
  | x :: y :: xs, _, .cons r (.cons r2 rs) => .cons r (vals_dl (.cons r2 rs))
section
variable {X : Cx} {K : PySem.W.Frag}
def tDlR (K : PySem.W.Frag) (te : TE) : TE := fun σ H Q => te σ H fun x H1 => ∃ a xs, x = .ref a ∧ SqL K H1 a xs ∧ 1 < xs.length ∧ ∀ p, H1 p = none → Q (.ref p) (upd H1 p (.lst xs.dropLast.reverse))
theorem pe_dlr {e : Expr} {te : TE} {k k' : Nat} {p1 p2 p1' p2' p3 pos : Pos} (hK : X.K = K) (he : PE X e te) :
    PE X (.Subscript e (.Slice (some (.UnaryOp .USub (.Constant (.int 2) k' p1') p2')) none (some (.UnaryOp .USub (.Constant (.int 1) k p1) p2)) p3) pos) (tDlR K te) := by
  subst hK
  refine ⟨fun pins s σ H Q I h => Subscript_ (thn (he.run pins s σ H _ I h) fun v s1 ⟨x, H1, I1, r1, a, xs, ex, hx, hl, q⟩ => ?_)⟩
  subst ex
  cases r1
  have st1 : PO X (some (.UnaryOp .USub (.Constant (.int 1) k p1) p2)) (tPart (tUn (rU fun i => .int (-i)) (tC (.int 1)))) := po_some (pe_un un_neg pe_int)
  have st2 : PO X (some (.UnaryOp .USub (.Constant (.int 2) k' p1') p2')) (tPart (tUn (rU fun i => .int (-i)) (tC (.int 2)))) := po_some (pe_un un_neg pe_int)
  refine wpAny_Slice (thn (st2.run pins s1 σ H1 (fun o HB => o = some (-2) ∧ HB = H1) I1 ⟨2, rfl, -2, rfl, rfl, rfl⟩) fun vl s2 ⟨l, H2, I2, pl, el, e2⟩ => ?_)
  subst el e2
  refine thn (po_none.run pins s2 σ H2 (fun o HB => o = none ∧ HB = H2) I2 ⟨rfl, rfl⟩) fun vu s3 ⟨u, H3, I3, pu, eu, e3⟩ => ?_
  subst eu e3
  refine thn (st1.run pins s3 σ H3 (fun o HB => o = some (-1) ∧ HB = H3) I3 ⟨1, rfl, -1, rfl, rfl, rfl⟩) fun vs s4 ⟨o, H4, I4, ps, eo, e4⟩ => ?_
  subst eo e4
  have J : Inv X pins σ H4 { s4 with heap := s4.heap.push { cls := .type "slice", data := .fields #[vl, vu, vs] } } := I4.kept (t' := s4.toks) fun b ob q => Heap.get?_push_of_some _ q
  obtain ⟨its, r, ht, hz⟩ := J.list hx
  have hlen := r.length
  show wpAny (model X.prog X.w) X.A (subscriptTail e _ (.ref a) (.ref s4.heap.objs.size)) (EP X pins σ Q) X.xe { s4 with heap := s4.heap.push { cls := .type "slice", data := .fields #[vl, vu, vs] } }
  refine tail_any (ops := [.ref a, .ref s4.heap.objs.size]) ht.isList.typeIs (PySem.slot_list_getitem.lookup) ?_ (by with_unfolding_all rfl)
  refine wpAny_getItem_list_slice ht.isList (Heap.IsSliceOf.new _ vl vu vs) pl pu ps (by decide) ?_ (by rw [List.size_toArray]; omega)
  rw [pick2 its (by omega)]
  refine ⟨.ref _, _, J.laid (t' := s4.toks) (o := .lst xs.dropLast.reverse) (fun b ob q => Heap.get?_push_of_some _ q) (Nat.le_refl _) ?_, rfl, q _ (J.hok.fresh (Nat.le_refl _))⟩
  refine ⟨?_, _, 0, (vals_dl r).reverse, Heap.get?_push_size _ rfl⟩
  rw [List.length_reverse, List.length_dropLast]
  omega
end
theorem ent_find {x : Str} : ∀ {es : List DictEntry} {kvs : List (Str × Str)}, EntS es kvs →
    (es.find? (·.key.isStr x) = none ∧ (∀ p ∈ kvs, p.1 ≠ x) ∧ es.any (·.refKey) = false) ∨ (∃ e v u, es.find? (·.key.isStr x) = some e ∧ e.val = .str v u ∧ kvs.lookup x = some v)
  | [], kvs, h => by
    subst h
    exact .inl ⟨rfl, by simp, rfl⟩
  | e :: r, kvs, h => by
    obtain ⟨k, v, kvr, rfl, ⟨t, ht⟩, ⟨u, hu⟩, hr⟩ := h
    by_cases c : k = x
    · subst c
      refine .inr ⟨e, v, u, ?_, hu, by simp⟩
      rw [List.find?_cons, ht]
      have : (Value.str k t).isStr k = true := by rw [PySem.W.isStr_of]; simp [Value.isStrOf]
      rw [this]
    · have hn : e.key.isStr x = false := by rw [ht, PySem.W.isStr_of]; simp [Value.isStrOf, c]
      rcases ent_find (x := x) hr with ⟨h1, h2, h3⟩ | ⟨e', v', u', h1, h2, h3⟩
      · refine .inl ⟨by rw [List.find?_cons, hn]; exact h1, fun p hp => ?_, ?_⟩
        · rcases List.mem_cons.mp hp with z | z
          · rw [z]; exact c
          · exact h2 p z
        · rw [List.any_cons, h3]
          have : e.refKey = false := by unfold DictEntry.refKey; rw [ht]
          rw [this]
          rfl
      · refine .inr ⟨e', v', u', by rw [List.find?_cons, hn]; exact h1, h2, ?_⟩
        rw [List.lookup_cons, show (x == k) = false by simpa using fun z : x = k => c z.symm]
        exact h3
section
variable {K : PySem.W.Frag} {w : World} {d : Addr} {kvs : List (Str × Str)}
theorem kit_get (D : KIt K w d kvs) {x v : Str} (h : kvs.lookup x = some v) : KDct K w d x (.str v) := by
  obtain ⟨es, n, hl, lit, low, he, nd⟩ := D
  rcases ent_find (x := x) he with ⟨h1, h2, h3⟩ | ⟨e, v', u, h1, h2, h3⟩
  · exfalso
    have hm : ∃ p ∈ kvs, p.1 = x := by
      clear h1 h2 h3 he nd
      induction kvs with
      | nil => simp at h
      | cons p r ih =>
        by_cases c : x = p.1
        · exact ⟨p, List.mem_cons_self, c.symm⟩
        · rw [show p = (p.1, p.2) from rfl, List.lookup_cons, show (x == p.1) = false by simpa using c] at h
          obtain ⟨q, hq, e⟩ := ih h
          exact ⟨q, List.mem_cons_of_mem _ hq, e⟩
    obtain ⟨p, hp, e⟩ := hm
    exact h2 p hp e
  · rw [h] at h3
    cases h3
    refine ⟨es, n, _, hl, lit, ?_, ⟨u, rfl⟩⟩
    unfold PySem.W.nsIn
    rw [hl]
    dsimp only
    rw [h1]
    dsimp only
    rw [h2]
theorem kit_in (D : KIt K w d kvs) (x : Str) : ∃ r : Option Value, PySem.W.nsIn K d x = some r ∧ r.isSome = (kvs.lookup x).isSome := by
  obtain ⟨es, n, hl, lit, low, he, nd⟩ := D
  unfold PySem.W.nsIn
  rw [hl]
  dsimp only
  rcases ent_find (x := x) he with ⟨h1, h2, h3⟩ | ⟨e, v', u, h1, h2, h3⟩
  · refine ⟨none, ?_, ?_⟩
    · rw [h1]
      dsimp only
      rw [if_neg (by rw [h3]; exact Bool.false_ne_true)]
    · clear h1 h3 he nd
      induction kvs with
      | nil => rfl
      | cons p r ih =>
        rw [show p = (p.1, p.2) from rfl, List.lookup_cons, show (x == p.1) = false by simpa using fun z : x = p.1 => h2 p List.mem_cons_self z.symm]
        exact ih fun q hq => h2 q (List.mem_cons_of_mem _ hq)
  · exact ⟨some e.val, by rw [h1], by rw [h3]; rfl⟩
theorem kit_dict (D : KIt K w d kvs) : ∃ es n, KDict K w d es n := by
  obtain ⟨es, n, hl, lit, low, he, nd⟩ := D
  exact ⟨es, n, ⟨hl, lit, low⟩⟩
end
theorem op_inKit {X : Cx} {K : PySem.W.Frag} {w : World} {d : Addr} {kvs : List (Str × Str)} (h : X.K = K) (hw : X.w = w) (D : KIt K w d kvs) :
    OpR X (compareOp .In) (fun x y H Q => ∃ z : Str, x = .str z ∧ y = .ref d ∧ Q (.bl (kvs.lookup z).isSome) H) := by
  subst h
  subst hw
  obtain ⟨es, n, D2⟩ := kit_dict D
  intro pins s σ H x y v u Q I rx ry hq
  obtain ⟨z, ex, ey, q⟩ := hq
  obtain ⟨r, hr, hs⟩ := kit_in D z
  exact op_in_kd D2 pins s σ H x y v u Q I rx ry ⟨z, r, ex, ey, hr, by rw [hs]; exact q⟩
end Kt7
namespace Tr
open PySem
/-! the signs of the grammar -/
def preL : List (Str × Str) := [("not", "!"), ("next", "X"), ("eventually", "F"), ("always", "G"), ("previous", "Y"), ("weak_previous", "Z"), ("once", "O"), ("historically", "H")]
def infL : List (Str × Str) := [("iff", "<->"), ("implies", "->"), ("or", "|"), ("and", "&"), ("until", "U"), ("weak_until", "W"), ("release", "R"), ("since", "S"), ("trigger", "T")]
def levL : List (List Str) := [["<->"], ["->"], ["|"], ["&"], ["U", "W", "R", "S", "T"]]
def sgnL : List Str := ["<->", "->", "!", "&", "|", "(", ")", ",", ":", "X", "F", "G", "U", "W", "R", "Y", "Z", "O", "H", "S", "T"]
end Tr
namespace Bx
open PySem PySem.Spec PyProof.Rows L2
structure RdrC (K : PySem.W.Frag) (C : Addr) : Prop where
  cl : Cls K C
  nt : NoAttr K C "tokens"
  na : NoAttr K C "at"
  np : NoAttr K C "prefixes"
/-- a reader's attributes -/
def rf (ta : Addr) (i : Int) (pa : Addr) : List (Str × V) := [("tokens", .ref ta), ("at", .int i), ("prefixes", .ref pa)]
theorem rf_at (ta i pa j) : putF "at" (.int j) (rf ta i pa) = rf ta j pa := by rfl
theorem rl_t (ta i pa) : (rf ta i pa).lookup ("tokens" : Str) = some (V.ref ta) := by rfl
theorem rl_a (ta i pa) : (rf ta i pa).lookup ("at" : Str) = some (V.int i) := by rfl
theorem rl_p (ta i pa) : (rf ta i pa).lookup ("prefixes" : Str) = some (V.ref pa) := by rfl
end Bx
/-! a blank times a number -/
namespace Ml7
open PySem PySem.Spec PyProof.Rows L2
theorem fold_rep (c : Nat) : ∀ (n : Nat) (acc : Array Nat), (List.replicate n (#[c] : Array Nat)).foldl (· ++ ·) acc = acc ++ (List.replicate n c).toArray
  | 0, acc => by simp
  | n + 1, acc => by
    rw [List.replicate_succ, List.foldl_cons, fold_rep c n]
    apply Array.ext'
    simp [List.replicate_succ]
def spN (n : Nat) : Str := ⟨(List.replicate n 32).toArray⟩
theorem sp_one : (Str.ofString " ").cps = #[32] := by decide +kernel
theorem op_mulS {X : Cx} : OpR X (binaryOp .Mult) (fun x y H Q => ∃ n : Nat, x = .str (Str.ofString " ") ∧ y = .int (n : Int) ∧ n ≤ 1000 ∧ Q (.str (spN n)) H) := by
  intro pins s σ H x y v u Q I rx ry h
  obtain ⟨n, rfl, rfl, hn, q⟩ := h
  obtain ⟨t, rfl⟩ := rx
  obtain ⟨t', rfl⟩ := ry
  have hl : (Str.ofString " ").length = 1 := by decide +kernel
  refine P.mul_str ?_ (fun h1 _ => ?_) (fun h1 _ => ?_) ?_
  · rw [decide_eq_false (by omega), decide_eq_false (by omega)]
    rfl
  · rw [hl]
    have : (1 : Int) ≤ (2 ^ 63 - 1) / (n : Int) := by
      rw [Int.le_ediv_iff_mul_le (by omega)]
      omega
    omega
  · rw [hl]
    unfold Builtin.Str.tooLong
    refine decide_eq_false ?_
    rw [Int.toNat_natCast, Nat.one_mul]
    exact Nat.not_lt.mpr (Nat.le_trans hn (by decide))
  · by_cases c : (n : Int) < 1
    · rw [if_pos c]
      obtain rfl : n = 0 := by omega
      have e : spN 0 = Str.empty := by decide +kernel
      rw [e] at q
      exact ⟨by decide, .str Str.empty, H, I.tok _, ⟨_, rfl⟩, q⟩
    · rw [if_neg c]
      by_cases c1 : n = 1
      · subst c1
        rw [if_pos (by rfl)]
        have e : spN 1 = Str.ofString " " := by decide +kernel
        rw [e] at q
        exact ⟨.str (Str.ofString " "), H, I, ⟨t, rfl⟩, q⟩
      · rw [if_neg (by rw [hl]; simp; omega), Int.toNat_natCast, sp_one, fold_rep]
        have e : (⟨#[] ++ (List.replicate n 32).toArray⟩ : Str) = spN n := by
          unfold spN
          simp
        rw [e]
        refine ⟨?_, .str (spN n), H, I.tok _, ⟨_, rfl⟩, q⟩
        have : (spN n).length = n := by
          show (List.replicate n 32).toArray.size = n
          simp
        rw [this]
        exact Nat.le_trans hn (by decide)
end Ml7
/-! an own error over ValueError (at any depth) whose __init__ begins with super().__init__(e) -/
namespace Sup
open PySem PySem.Spec PyProof.Rows L2
/-- the frame of such an __init__: its one cell is the class -/
def cxZ (CX : CXT) (P : Program) (w : World) (K : PySem.W.Frag) (mg : Str → Option Value) (base : Heap) (N : List Str) (qual : Str) (scope : Scope) (f : Addr) (cd : Value) (cc : Addr) (A : Around) (outer : List Env) (s : Shared) (H : Hp) (E : XK) : Cx :=
  let en : Env := PySem.W.ksEnv qual scope s.heap.objs.size f cd cc
  { prog := P, w := w, K := K, mg := mg, base := base, A := A.deeper en, N := N, s_0 := s, H_0 := H, env := en, outer := outer, stack := en :: outer, ex := [], fn := fun _ => false, calm := true, pn := [],
    xe := fun e s' => wpAny (model P w) (A.deeper en) (leaving en e) (fun _ s2 => CX outer H s E e s2) (fun e2 s2 => CX outer H s E e2 s2) s' }
structure ScZ (N ps : List Str) (sc : Scope) : Prop where
  kd : sc.kind = .function
  co : sc.isCoroutine = false
  ge : sc.isGenerator = false
  nd : N.Nodup
  pr : N.take ps.length = ps
  pl : ∀ x ∈ ps, sc.names.lookup x = some .local
  nc : ∀ y ∈ sc.names, y.2 ≠ .cell
  fr : ∀ y, sc.names.lookup y = some .free → y = "__class__"
  su : sc.names.lookup ("super" : Str) = some .globalImplicit
  cl : sc.names.lookup ("__class__" : Str) = some .free
theorem lookup_nd : ∀ {l : List (Str × Value)} {y : Str} {u : Value}, (l.map Prod.fst).Nodup → (y, u) ∈ l → l.lookup y = some u
  | [], _, _, _, h => by cases h
  | (z, v) :: r, y, u, nd, h => by
    rw [List.map_cons, List.nodup_cons] at nd
    rw [List.lookup_cons]
    rcases List.mem_cons.mp h with e | e
    · cases e
      rw [beq_self_eq_true]
    · have : (y == z) = false := by
        rw [beq_eq_false_iff_ne]
        intro q
        exact nd.1 (by rw [← q]; exact List.mem_map.mpr ⟨_, e, rfl⟩)
      rw [this]
      exact lookup_nd nd.2 e
theorem zip_rev {ps : List Str} {us : List Value} (nd : ps.Nodup) (hl : us.length = ps.length) {i : Nat} {y : Str} {u : Value} (h1 : ps[i]? = some y) (h2 : us[i]? = some u) : (ps.zip us).reverse.lookup y = some u := by
  refine lookup_nd ?_ ?_
  · rw [List.map_reverse, List.map_fst_zip (by omega)]
    exact (List.reverse_perm _).nodup_iff.mpr nd
  · rw [List.mem_reverse]
    refine List.mem_of_getElem? (i := i) ?_
    rw [List.getElem?_zip_eq_some]
    exact ⟨h1, h2⟩
section
variable {CX : CXT} {P : Program} {w : World} {K : PySem.W.Frag} {mg : Str → Option Value} {base : Heap} {N ps : List Str} {qual : Str} {scope : Scope} {f cc C : Addr} {cd cl : Value} {cld : Option Addr} {csl : Array (Option Value)} {A : Around} {outer : List Env} {s : Shared} {H : Hp} {E : XK} {us : List Value} {vs : List V} {h1 : Heap} {tk : Nat}
theorem inv_z (S : ScZ N ps scope) (hd : A.handled = none) (e0 : Env0 P w K mg base A outer s H) (hl : vs.length = ps.length) (r : Vals vs us) (hc : K.lookup cc = some ⟨cl, cld, .cell (some (.ref C)), csl⟩)
    (hns : h1.Ns s.heap.objs.size (fun x => (ps.zip us).reverse.lookup x)) (hk : ∀ b o, s.heap.get? b = some o → h1.get? b = some o) :
    Inv (cxZ CX P w K mg base N qual scope f cd cc A outer s H E) [] (L2.start N vs) H { s with heap := h1, toks := tk } := by
  have hcb := e0.mod.kin _ _ hc
  have hcs := e0.bs _ _ hcb
  have one : ∀ {y : Str} {c : Addr}, List.lookup y [(("__class__" : Str), cc)] = some c → y = "__class__" ∧ c = cc := fun {y c} h => by
    rw [List.lookup_cons] at h
    cases e : y == ("__class__" : Str) with
    | true => rw [e] at h; cases h; exact ⟨eq_of_beq e, rfl⟩
    | false => rw [e] at h; cases h
  have hpl : ps.length ≤ N.length := by have := congrArg List.length S.pr; rw [List.length_take] at this; omega
  have noex : ∀ b : Addr, b ∉ (cxZ CX P w K mg base N qual scope f cd cc A outer s H E).ex := fun b z => absurd (show b ∈ ([] : List Addr) from z) (by simp)
  refine { ok := { mod := e0.mod, kind := S.kd, glob := rfl, blt := rfl, above := Nat.le_refl _, inj := fun x y c a b => (one a).1.trans (one b).1.symm, has := fun y hy => ?_, cab := fun _ _ z => (by cases z), hd := fun _ => hd, frames := Around.frames_deeper e0.frames, stk := .inr ⟨rfl, rfl⟩, exf := fun b z => absurd z (noex b), bs := e0.bs, bsz := e0.bsz, noex := fun b _ _ => noex b, exfs := fun b z => absurd z (noex b), funs := e0.funs, frf := e0.frf }, os := rfl, bare := e0.bare, base := Un.kept hk, loc := ⟨_, hns, fun i y v a b c => ?_⟩, cell := fun y c h => ?_, free := e0.hok.fresh (Nat.le_refl _), freeC := fun y c h => ?_, pin := fun p hp => absurd (show p ∈ ([] : List (Addr × Obj)) from hp) (by simp), hok := e0.hok.kept hk, len := ?_ }
  · rcases hy with hy | hy
    · exact absurd rfl (S.nc _ (PySem.mem_of_lookup (show scope.names.lookup y = some .cell from hy)))
    · rw [S.fr y hy]
      exact ⟨cc, rfl⟩
  · have hi : i < vs.length := by
      unfold L2.start at b
      by_cases hi : i < vs.length
      · exact hi
      · rw [List.getElem?_append_right (by simpa using hi), List.getElem?_replicate] at b
        split at b <;> cases b
    have ha : vs[i]? = some v := by
      unfold L2.start at b
      rw [List.getElem?_append_left (by simpa using hi), List.getElem?_map] at b
      cases e : vs[i]? with
      | none => rw [e] at b; cases b
      | some a => rw [e] at b; cases b; rfl
    obtain ⟨u, hu, rv⟩ := r.get ha
    have hp : ps[i]? = some y := by
      rw [← S.pr, List.getElem?_take_of_lt (by omega)]
      exact a
    have ndp : ps.Nodup := by rw [← S.pr]; exact S.nd.sublist (List.take_sublist _ _)
    exact ⟨u, rv, .inl ⟨S.pl y (List.mem_of_getElem? hp), zip_rev ndp (by rw [← r.length]; exact hl) hp hu⟩⟩
  · rw [(one h).2]
    exact ⟨_, _, hk _ _ hcs.1, rfl⟩
  · rw [(one h).2]
    exact hcs.2
  · unfold L2.start
    show _ = N.length
    rw [List.length_append, List.length_map, List.length_replicate]
    omega
theorem fn_sup {name : Str} {params : Arguments} {scope : Scope} {kV doc pm ct oc ccl : Value} {an od cdd : Option Addr} {osl ccs : Array (Option Value)} {cda : Addr} {fields : Array Value} {file : Str} {tf : Tok} {cdD : ClassData} {ar : Arg} {k : Nat} {sp : Sp} {e : Expr} {rest : List Stmt} {p0 p1 p2 p3 p4 : Pos}
    (lk : K.lookup f = some ⟨oc, od, .func (PySem.W.ksFn name qual params (.Expr (.Call (.Attribute (.Call (.Name "super" p0) [] [] p1) "__init__" p2) [e] [] p3) p4 :: rest) scope .none kV doc pm an (.ref cda) ct cc), osl⟩)
    (hcd : PySem.W.codeIn K (.ref cda) qual = true) (S : ScZ N ps scope) (har : (params.posonlyargs ++ params.args).head? = some ar) (h0 : ps[0]? = some ar.arg)
    (hcode : K.lookup cda = some ⟨ccl, cdd, .fields fields, ccs⟩) (hvs : fields[2]? = some (.str file tf)) (hfile : ((P.main.file : Str) == file) = true) (hcell : K.lookup cc = some ⟨cl, cld, .cell (some (.ref C)), csl⟩)
    (hD : PySem.W.clsIn K C = some cdD) (hsub : PySem.W.mroIn K C (.ref C) = some true) (htop : (P.main.scope.names.lookup ("super" : Str)).isSome = false) (hany : PySem.W.nsIn K cStatics "thirdparty.any" = some none)
    (hm : PySem.W.alongIn K "__init__" ((cdD.mro.dropWhile (· != .ref C)).drop 1) = some (some (.builtin "ValueError.__init__"))) (hB : PySem.W.subIn K (.ref C) (.type "ValueError") = some true) (T : OexC K C) (hg : mg "super" = none)
    {pl : Env → Sem Bool} (hev : ∀ en : Env, eval (.Call (.Attribute (.Call (.Name "super" p0) [] [] p1) "__init__" p2) [e] [] p3) en = (do
      let ov ← attributeBase (.Call (.Name "super" p0) [] [] p1) "__init__" en (eval (.Call (.Name "super" p0) [] [] p1) en)
      standAt p2.atName
      let (m, first) ← holding [ov] (getMethod ov "__init__" (pl en))
      callWith p3 m first (backTo p3 (starEach [e] en)) []))
    (hst : ∀ en : Env, starEach [e] en = (false, eval e en) :: starEach [] en) (hpa : ∀ en : Env, (backTo p3 (starEach [] en)).any (·.1) = false)
    (len : ∀ vs H Q E, sp vs H Q E → vs.length = ps.length)
    (hbody : ∀ (A : Around) (outer : List Env) (s : Shared) (H : Hp) (vs : List V) (Q : VK) (E : XK), Room k (A.deeper (PySem.W.ksEnv qual scope s.heap.objs.size f (.ref cda) cc)) → sp vs H Q E →
      ∃ (te : TE) (t : TS) (a : Addr), PE (cxZ CX P w K mg base N qual scope f (.ref cda) cc A outer s H E) e te ∧ PSs (cxZ CX P w K mg base N qual scope f (.ref cda) cc A outer s H E) rest t ∧ vs[0]? = some (.ref a) ∧ H a = some (exo a C none) ∧
        te (L2.start N vs) H fun _ H2 => H2 a = some (exo a C none) ∧ t { nx := fun _ H3 => Q .non H3, rt := Q } (L2.start N vs) H2) :
    FnOk P w K mg base CX (k + 1) f (PySem.W.ksFn name qual params (.Expr (.Call (.Attribute (.Call (.Name "super" p0) [] [] p1) "__init__" p2) [e] [] p3) p4 :: rest) scope .none kV doc pm an (.ref cda) ct cc) ps sp := by
  refine ⟨len, fun A outer s H args us vs Q E hr e0 hb r hsp => ?_⟩
  have hl := len _ _ _ _ hsp
  have KX : K.In s.heap := e0.mod.kin.keeps fun b o z => (e0.bs b o z).1
  have lim : s.heap.NoLimit := e0.mod.nolimit.keeps fun b o z => (e0.bs b o z).1
  refine PySem.ks_codeAny_call_defAt hr.depth (KX _ _ lk) rfl lim (PySem.W.codeRec_of KX hcd) rfl hb S.nc (fun y hy => S.pl y.1 (List.of_mem_zip hy).1) (fun h1 hns hk => ?_) S.co S.ge S.kd
  have I : Inv (cxZ CX P w K mg base N qual scope f (.ref cda) cc A outer s H E) [] (L2.start N vs) H { s with heap := h1, toks := s.toks + (ps.zip us).length } := inv_z S hr.hd e0 hl r hcell hns hk
  obtain ⟨te, t, a, he, ht, ha, hexo, hq⟩ := hbody A outer s H vs Q E (hr.deeper _) hsp
  have K1 : K.In h1 := KX.keeps hk
  obtain ⟨u0, hu0, rv0⟩ := r.get ha
  obtain rfl : u0 = Value.ref a := rv0
  obtain ⟨t1, hobj⟩ := exo_at I.hok hexo
  have ndp : ps.Nodup := by rw [← S.pr]; exact S.nd.sublist (List.take_sublist _ _)
  have hself : (ps.zip us).reverse.lookup ar.arg = some (Value.ref a) := zip_rev ndp (by rw [← r.length]; exact hl) h0 hu0
  obtain ⟨oD, hD1, hD2⟩ : ∃ oD, h1.get? C = some oD ∧ oD.data = .cls cdD := by
    unfold PySem.W.clsIn at hD
    split at hD
    · rename_i c d cd' sl ho
      cases hD
      exact ⟨_, K1 _ _ ho, rfl⟩
    · cases hD
  obtain ⟨mb, hb1, hb2⟩ := I.mod.blt
  have hint : interactive (PySem.W.ksEnv qual scope s.heap.objs.size f (.ref cda) cc) = false := by
    unfold interactive
    rw [S.kd]
    rfl
  refine PySem.ks_wpAt_execs_cons (PySem.ks_wpAt_Expr_any (PySem.ks_wpAt_MethodCall (pl := pl _) ?_ (hev _)) hint rfl)
  refine PySem.ks_wpAt_super_base S.su S.cl (by decide) rfl (K1 _ _ lk) rfl har rfl (K1 _ _ hcode) rfl hvs hfile htop ?_
  refine PySem.W.ks_loadName_global S.kd S.su (Calls.loadGlobal_builtin (e0.mod.glob.keeps I.bk) hg (hb1.keeps I.bk) ((hb2 "super" (by decide)).trans rfl) ⟨rfl, ?_⟩)
  refine wpAny_loadName_free S.kd S.cl rfl ⟨_, K1 _ _ hcell, rfl⟩ ?_
  refine wpAny_loadName_local S.kd (S.pl _ (List.mem_of_getElem? h0)) hns hself ?_
  refine PySem.ks_wpAny_isType_cls hD1 hD2 ⟨rfl, ?_⟩
  refine PySem.ks_wpAny_call_super hD1 hD2 hobj rfl (fun c z => by cases z) (PySem.W.looks_mroIn K1 hsub) (fun h2 hso hk2 => ?_)
  have K2 : K.In h2 := K1.keeps hk2
  have inst : PySem.W.InstAt h2 a _ C none := ⟨hk2 _ _ hobj, rfl, rfl, trivial⟩
  have hmro : PySem.W.Looks (model P w) h2 (mroOf (.ref C)) cdD.mro := (PySem.W.looks_clsIn K2 hD).andThen .now
  have hins : PySem.W.Looks (model P w) h2 (isInstance (.ref a) (.type "ValueError")) true := inst.type.andThen (PySem.W.looks_subIn K2 hB)
  refine PySem.W.kxs_getMethod PySem.W.kxs_ValueError hso (PySem.W.looks_opaque K2 hany) hmro rfl K2 hm hins (PySem.W.ks_ne K2 inst hD) (by decide) ?_
  have I3 := ClX.pin_new (t' := s.toks + (ps.zip us).length + 1) (a := h2.objs.size) (o := PySem.W.kxs_mw "ValueError.__init__" a) (h' := h2.push (PySem.W.kxs_mw "ValueError.__init__" a)) (I.kept (t' := s.toks + (ps.zip us).length) hk2) (fun b u z => Heap.get?_push_of_some _ z) (Nat.le_refl _) (Heap.get?_push_size _ rfl) (fun v z => by cases z)
  show wpAny _ _ (callWith p3 (.ref h2.objs.size) [] _ []) _ _ _
  rw [hst]
  refine PySem.W.kxs_callWith (i := "ValueError.__init__") (x := a) (show (false || _) = false from hpa (PySem.W.ksEnv qual scope s.heap.objs.size f (.ref cda) cc)) (Calls.evalArgs_plain ?_)
  have R := (pa_cons he pa_nil (hst _)).run p3 _ _ _ _ (fun ws H2 => match ws with | [_] => H2 a = some (exo a C none) ∧ t { nx := fun _ H3 => Q .non H3, rt := Q } (L2.start N vs) H2 | _ => False) I3 hq
  rw [hst] at R
  refine wpAny_mono R (fun ws s4 h4 => ?_) fun _ _ z => z
  obtain ⟨xs, H4, I4, r4, eq4⟩ := h4
  have x1 : xs.length = 1 ∧ H4 a = some (exo a C none) ∧ t { nx := fun _ H3 => Q .non H3, rt := Q } (L2.start N vs) H4 := by
    match xs, eq4 with
    | [_], z => exact ⟨rfl, z⟩
  obtain ⟨xl, e4, q4⟩ := x1
  have hu := (I4.pin _ (List.mem_append_right _ List.mem_cons_self)).1
  refine ⟨hu, ?_⟩
  obtain ⟨nm, q0, Nn, bs, bm, sn, sub, ab, col, dd, k0, k1, k2, k3, k5, hC, hbm⟩ := T.cls
  obtain ⟨t4, ho4⟩ := exo_at I4.hok e4
  have K4 : K.In s4.heap := I4.kIn
  have hone : ws.length ≤ sizeLine := by
    rw [← r4.length, xl]
    decide
  obtain ⟨hp4, g4, d4, tk4, os4⟩ := s4
  refine wpAny_call (codeAny_of_tree ?_)
  show wpAny _ _ (callAny (.ref h2.objs.size) ⟨ws, []⟩) _ _ _
  simp only [callAny]
  refine wpAny_bind (wpAny_load hu ?_)
  simp only [PySem.W.kxs_mw, (by decide : (Value.type "method-wrapper" == Value.type "method" || Value.type "method-wrapper" == Value.type "builtin_function_or_method" || Value.type "method-wrapper" == Value.type "method-wrapper") = true), if_true]
  refine PySem.W.KFB.if_so (by decide) (wpAny_bind (PySem.W.check_bound_init F.excBase_ValueError.toExcCallFacts (K4 _ _ hC) ho4 rfl (wpAny_bind (wpAny_pure (wpAny_pure ⟨plainId_quiet F.excBase_ValueError.init.plain _, codeAny_builtin F.excBase_ValueError.initEntry ?_⟩)))))
  refine PySem.W.exc_init_tree (cls := .ref C) (t0 := t4) (dv := none) (c2 := .none) (c3 := .none) (b4 := .bool false) ho4 hone fun h5 k6 e5 _ => ?_
  have J := I4.write (t' := tk4) (x := a) (e := a) (o := exo a C none) (by rw [e4]; exact True.intro) (.inl rfl) k6 ⟨_, e5⟩ (exo_ok e5)
  have eu : upd H4 a (exo a C none) = H4 := by
    funext b
    by_cases hb : b = a
    · rw [hb, upd_same, e4]
    · rw [upd_ne hb]
  rw [eu] at J
  refine PySem.wpAt_of_wpAny (wpAny_mono (ht.run _ _ _ _ _ J q4) (fun fl s5 hs => ?_) fun _ _ z => z)
  have fin : ∀ {σ' : L2.St} {H' : Hp} {v : V} {u : Value} {pn : List (Addr × Obj)}, Inv (cxZ CX P w K mg base N qual scope f (.ref cda) cc A outer s H E) pn σ' H' s5 → RelV v u → Q v H' → CE outer P w H s Q u s5 :=
    fun {σ' H' v u pn} Z rv y => ⟨v, H', Z.os, Z.bare, Z.base, Z.hok, rv, y⟩
  cases fl with
  | ret u =>
    obtain ⟨v, σ', H', Z, rv, y⟩ := hs
    exact fin Z rv y
  | next =>
    obtain ⟨σ', H', Z, y⟩ := hs
    exact fin (v := V.non) (u := Value.none) Z rfl y
  | brk => exact hs.elim fun _ z => z.elim fun _ z => z.2.elim
  | cont => exact hs.elim fun _ z => z.elim fun _ z => z.2.elim
end
end Sup
namespace Sup
open PySem PySem.Spec PyProof.Rows L2
theorem ScZ.by2 {N ps : List Str} {sc : Scope} (kd : sc.kind = .function) (co : sc.isCoroutine = false) (ge : sc.isGenerator = false) (nd : N.Nodup) (pr : N.take ps.length = ps) (pl : ∀ x ∈ ps, sc.names.lookup x = some .local) (nc : ∀ y ∈ sc.names, y.2 ≠ .cell)
    (fr : ∀ y ∈ sc.names, y.2 = .free → y.1 = "__class__") (su : sc.names.lookup ("super" : Str) = some .globalImplicit) (cl : sc.names.lookup ("__class__" : Str) = some .free) : ScZ N ps sc :=
  ⟨kd, co, ge, nd, pr, pl, nc, fun y h => fr _ (PySem.mem_of_lookup h) rfl, su, cl⟩
/-- all that the written part says of the __init__ of an own error class that begins with super().__init__(e) -/
structure InitK (P : Program) (K : PySem.W.Frag) (mg : Str → Option Value) (x : Str) (C f : Addr) (name qual : Str) (params : Arguments) (body : List Stmt) (scope : Scope) (fd : FuncData) : Prop where
  T : OexC K C
  gC : mg x = some (.ref C)
  iC : PySem.W.findIn K (.ref C) "__init__" = some (some (.ref f))
  tI : PySem.W.typeIn K (.ref f) = some (.type "function")
  ex : ∃ (kV doc pm ct oc ccl cl : Value) (an od cdd cld : Option Addr) (osl ccs csl : Array (Option Value)) (cda cc : Addr) (fields : Array Value) (file : Str) (tf : Tok) (cdD : ClassData),
    fd = PySem.W.ksFn name qual params body scope .none kV doc pm an (.ref cda) ct cc ∧ K.lookup f = some ⟨oc, od, .func fd, osl⟩ ∧ PySem.W.codeIn K (.ref cda) qual = true ∧
    K.lookup cda = some ⟨ccl, cdd, .fields fields, ccs⟩ ∧ fields[2]? = some (.str file tf) ∧ ((P.main.file : Str) == file) = true ∧ K.lookup cc = some ⟨cl, cld, .cell (some (.ref C)), csl⟩ ∧
    PySem.W.clsIn K C = some cdD ∧ PySem.W.alongIn K "__init__" ((cdD.mro.dropWhile (· != .ref C)).drop 1) = some (some (.builtin "ValueError.__init__"))
  hsub : PySem.W.mroIn K C (.ref C) = some true
  htop : (P.main.scope.names.lookup ("super" : Str)).isSome = false
  hany : PySem.W.nsIn K cStatics "thirdparty.any" = some none
  hB : PySem.W.subIn K (.ref C) (.type "ValueError") = some true
  hg : mg "super" = none
section
variable {CX : CXT} {P : Program} {w : World} {K : PySem.W.Frag} {mg : Str → Option Value} {base : Heap} {N ps : List Str} {x qual : Str} {scope : Scope} {f C : Addr}
theorem InitK.ok {name : Str} {params : Arguments} {ar : Arg} {k : Nat} {sp : Sp} {e : Expr} {rest : List Stmt} {p0 p1 p2 p3 p4 : Pos} {fd : FuncData}
    (I : InitK P K mg x C f name qual params (.Expr (.Call (.Attribute (.Call (.Name "super" p0) [] [] p1) "__init__" p2) [e] [] p3) p4 :: rest) scope fd) (S : ScZ N ps scope) (har : (params.posonlyargs ++ params.args).head? = some ar) (h0 : ps[0]? = some ar.arg)
    {pl : Env → Sem Bool} (hev : ∀ en : Env, eval (.Call (.Attribute (.Call (.Name "super" p0) [] [] p1) "__init__" p2) [e] [] p3) en = (do
      let ov ← attributeBase (.Call (.Name "super" p0) [] [] p1) "__init__" en (eval (.Call (.Name "super" p0) [] [] p1) en)
      standAt p2.atName
      let (m, first) ← holding [ov] (getMethod ov "__init__" (pl en))
      callWith p3 m first (backTo p3 (starEach [e] en)) []))
    (hst : ∀ en : Env, starEach [e] en = (false, eval e en) :: starEach [] en) (hpa : ∀ en : Env, (backTo p3 (starEach [] en)).any (·.1) = false)
    (len : ∀ vs H Q E, sp vs H Q E → vs.length = ps.length)
    (hbody : ∀ (cda cc : Addr) (A : Around) (outer : List Env) (s : Shared) (H : Hp) (vs : List V) (Q : VK) (E : XK), Room k (A.deeper (PySem.W.ksEnv qual scope s.heap.objs.size f (.ref cda) cc)) → sp vs H Q E →
      ∃ (te : TE) (t : TS) (a : Addr), PE (cxZ CX P w K mg base N qual scope f (.ref cda) cc A outer s H E).nox e te ∧ PSs (cxZ CX P w K mg base N qual scope f (.ref cda) cc A outer s H E).nox rest t ∧ vs[0]? = some (.ref a) ∧ H a = some (exo a C none) ∧
        te (L2.start N vs) H fun _ H2 => H2 a = some (exo a C none) ∧ t { nx := fun _ H3 => Q .non H3, rt := Q } (L2.start N vs) H2) :
    FnOk P w K mg base CX (k + 1) f fd ps sp := by
  obtain ⟨kV, doc, pm, ct, oc, ccl, cl, an, od, cdd, cld, osl, ccs, csl, cda, cc, fields, file, tf, cdD, rfl, lk, hcd, hcode, hvs, hfile, hcell, hD, hm⟩ := I.ex
  refine fn_sup lk hcd S har h0 hcode hvs hfile hcell hD I.hsub I.htop I.hany hm I.hB I.T I.hg hev hst hpa len fun A outer s H vs Q E hr hs => ?_
  obtain ⟨te, t, a, h1, h2, h3, h4, h5⟩ := hbody cda cc A outer s H vs Q E hr hs
  exact ⟨te, t, a, h1.nox, h2.nox, h3, h4, h5⟩
theorem InitK.binds {name : Str} {params : Arguments} {body : List Stmt} {fd : FuncData} (I : InitK P K mg x C f name qual params body scope fd)
    (h : ∀ (kV doc pm : Value) (an : Option Addr) (cdv ct : Value) (cc : Addr) (us : List Value), us.length = ps.length → bindArgs (PySem.W.ksFn name qual params body scope .none kV doc pm an cdv ct cc) ⟨us, []⟩ = pure (ps.zip us)) : Binds K fd ps [] := by
  obtain ⟨kV, doc, pm, ct, oc, ccl, cl, an, od, cdd, cld, osl, ccs, csl, cda, cc, fields, file, tf, cdD, rfl, lk, hcd, hcode, hvs, hfile, hcell, hD, hm⟩ := I.ex
  exact .all (h kV doc pm an _ ct cc)
end
/-- == of data of any depth up to 199 -/
def rEqB (K : PySem.W.Frag) : R2 := fun x y H Q => ∃ d e, Dp K H x d ∧ Dp K H y e ∧ d.canLay0 = true ∧ e.canLay0 = true ∧ d.depth ≤ 199 ∧ Q (.bl (PyData.eqv d e)) H
theorem op_eqB {X : Cx} {K : PySem.W.Frag} (hK : X.K = K) (hu : X.A.units + 200 < cLine) : OpR X (compareOp .Eq) (rEqB K) := by
  subst hK
  intro pins s σ H x y v u Q I rx ry h
  obtain ⟨d, e, hd, he, sd, se, dd, q⟩ := h
  obtain ⟨as, r1⟩ := Dp.reads I d x v hd rx
  obtain ⟨bs, r2⟩ := Dp.reads I e y u he ry
  exact SeqAt.compareEq_reads r1 r2 sd se (by have := Nat.min_le_left d.depth e.depth; omega) ⟨.bl _, H, I, rfl, q⟩
theorem un200 {k : Nat} {A : Around} (r : Room k A) : A.units + 200 < cLine := Nat.lt_of_le_of_lt (by omega) r.un
end Sup
/-! several clauses, each with «as» and the same name -/
namespace Tam
open PySem PySem.Spec PyProof.Rows L2
abbrev Cls1 : Type := Value × (Addr → Value → Option Addr → TS)
def gone (i : Nat) (D : Ends) : Ends := { nx := fun a b => D.nx (a.set i none) b, rt := D.rt, bk := fun a b => D.bk (a.set i none) b, ct := fun a b => D.ct (a.set i none) b }
def wAl (K : PySem.W.Frag) (i : Nat) (Wo : WX) (D : Ends) : List Cls1 → WX
  | [] => Wo
  | (c, ts) :: r => fun k d σ H => ∃ b, PySem.W.exmOne K k c = some b ∧ (b = true → ∀ a, H a = none → ts a k d (gone i D) (σ.set i (some (.ref a))) H) ∧ (b = false → wAl K i Wo D r k d σ H)
inductive Hd (X : Cx) (n : Str) : List ExceptHandler → List Cls1 → Prop
  | nil : Hd X n [] []
  | more {x : Str} {c : Value} {ts : Addr → Value → Option Addr → TS} {b0 : Stmt} {su : List Stmt} {p p' : Pos} {hs : List ExceptHandler} {l : List Cls1} (hc : Names X x c)
      (h1 : ∀ (a : Addr) (o : Obj) (k : Value) (d : Option Addr) (pn : List (Addr × Obj)), Zc k d o → (∃ vs, o.data = .fields vs) → PSs (X.suite a ((a, o) :: pn)) (b0 :: su) (ts a k d)) (r : Hd X n hs l) :
      Hd X n (.ExceptHandler (some (.Name x p)) (some n) (b0 :: su) p' :: hs) ((c, ts) :: l)
section
variable {X : Cx} {n : Str} {i : Nat} {body : List Stmt} {h0 : ExceptHandler} {hs0 : List ExceptHandler} {l : List Cls1} {pos : Pos} {tb : WX → TS} {Wo : WX}
theorem ps_try_al (st : X.stack = X.env :: X.outer) (fr : X.env.frame = some X.env.locals) (nd : X.N.Nodup) (hi : X.N[i]? = some n) (lo : X.env.kindOf n = some .local) (tk : Takes X Wo)
    (hb : ∀ (W : WX) (pn : List (Addr × Obj)) (xe : Value → Shared → Prop), Takes (X.tr pn xe) W → PassesOwn (model X.prog X.w) X.A X.env xe → PSs (X.tr pn xe) body (tb W))
    (hh : Hd X n (h0 :: hs0) l) : PS X (.Try body (h0 :: hs0) [] [] pos) (fun D σ H => tb (wAl X.K i Wo D l) D σ H) := by
  refine ⟨fun pins s σ H D I h => ?_⟩
  have ok := I.ok
  have frs' : X.A.frames = some (X.env :: X.outer) := ok.frames.trans (congrArg some st)
  have ll : Loc X.env.scope n := .inl lo
  let M := model X.prog X.w
  let xe1 : Value → Shared → Prop := fun e s1 => wpAny M X.A (noteFrame e X.env) (fun _ s2 => wpAny M X.A (setFlight e none) (fun _ s3 => wpAny M X.A (handleBy e X.env (h0 :: hs0)) (SP X pins D) X.xe s3) X.xe s2) X.xe s1
  have take1 : Takes (X.tr (X.pn ++ pins) xe1) (wAl X.K i Wo D l) := by
    intro u s1 xx
    obtain ⟨a, B, sI, pinz, σ1, H1, k, d, rfl, Jz, nb, up, sky, na, os, ag, w1⟩ := xx
    have J : Inv X pins σ1 H1 sI := Jz.ofTry ok
    have sky1 : Sky B (X.env :: X.outer) a (Zc k d) X.env.locals s1.heap := st ▸ sky
    refine Sky.land Zc.steady frs' fr sky1 fun g1 fl1 up1 => ?_
    have J1 : Inv X pins σ1 H1 { s1 with heap := g1 } := J.landed nb fl1.1 (up.trans up1) os ag
    obtain ⟨o1, v1, a1, z1, d1⟩ := fl1.there
    have nfr : a ∉ frs (X.env :: X.outer) := fun q => by
      obtain ⟨_, o2, a2, n2⟩ := fl1.2.2.1.mem q
      rw [a1] at a2
      cases a2
      exact n2 _ d1
    have nL : a ≠ X.env.locals := fun q => nfr (List.mem_filterMap.mpr ⟨X.env, .head _, fr.trans (congrArg some q.symm)⟩)
    have nF : a ∉ X.fs := fun q => by
      obtain ⟨en, m1, m2⟩ := List.mem_filterMap.mp q
      exact nfr (List.mem_filterMap.mpr ⟨en, .tail _ m1, m2⟩)
    have S1 := J1.suite a1 d1 na nL nF
    have go : ∀ {hz : List ExceptHandler} {lz : List Cls1}, Hd X n hz lz → wAl X.K i Wo D lz k d σ1 H1 → wpAny M X.A (handleBy (.ref a) X.env hz) (SP X pins D) X.xe { s1 with heap := g1 } := by
      intro hz lz hk
      induction hk with
      | nil =>
        intro wz
        refine wpAny_handleBy_nil ?_
        obtain ⟨y1, y2, y3, oe, vz, tz, oz, tsz, yhe, yhz, yhd, yh1, yhr⟩ := id fl1
        unfold PySem.passOn
        refine wpAny_bind (wpAny_field yhe yhd yh1 ?_)
        rw [if_neg (by simp : ¬ ((Value.ref tz == Value.none) = true))]
        have last : wpAny M X.A (setFlight (.ref a) X.env.frame) (fun _ s4 => wpAny M X.A (throw (.ref a) : Sem Flow) (SP X pins D) X.xe s4) X.xe { s1 with heap := g1 } := by
          rw [fr]
          exact HandSPX.setFlight_upZ fl1 fun g2 hh2 up2 => wpAny_throw (tk _ _ ⟨a, B, sI, pins, σ1, H1, k, d, rfl, J, nb, (up.trans up1).trans up2, .inr (.inr (st ▸ hh2)), na, os, ag, wz⟩)
        first
          | exact wpAny_bind (wpAny_pure (wpAny_bind last))
          | exact wpAny_bind last
      | @more x c ts b0 su p p' hs2 l2 hc h1 r ih =>
        intro wz
        obtain ⟨b, eb, yes, no⟩ := wz
        refine wpAny_handleBy_cons (codeAny_handlers_test ?_) (by intro q; cases q)
        have lt : PySem.W.Looks M g1 (typeOf (.ref a)) k := fun A' Q' E' s' kk q => wpAny_typeOf_ref (kk _ _ a1) (z1.1.symm ▸ q)
        have lm := PySem.W.exm_one (M := M) J1.kIn lt eb
        have test : ∀ {Q : Value → Shared → Prop} {E : Value → Shared → Prop}, Q c { s1 with heap := g1 } → wpAny M (X.A.mark (some (.ref a))) (eval (.Name x p) X.env) Q E { s1 with heap := g1 } := fun {Q E} q => by
          rcases hc with ⟨w1, w2, w3 | ⟨w3, w4, w5⟩⟩
          · exact ld_glob (X := X.suite a ((a, o1) :: (X.pn ++ pins))) S1 w1 w3 q w2
          · exact ld_blt (X := X.suite a ((a, o1) :: (X.pn ++ pins))) S1 w1 w3 w4 q w5 w2
        refine test (lm.here ?_)
        cases b with
        | false =>
          show wpAny M X.A (handleBy (.ref a) X.env hs2) _ _ _
          exact ih (no rfl)
        | true =>
          refine codeAny_handlers_suite_as (HandSPX.lands_againZ fl1 fun g2 fl2 up2 => ?_)
          have J2 : Inv X pins σ1 H1 { s1 with heap := g2 } := J.landed nb fl2.1 ((up.trans up1).trans up2) os ag
          obtain ⟨o2, v2, a2, z2, d2⟩ := fl2.there
          refine store_ok (X := X.suite a ((a, o2) :: (X.pn ++ pins))) (v := .ref a) (J2.suite a2 d2 na nL nF) nd hi ll rfl (fun s5 S5 => ?_) (.inr lo)
          refine wpAny_mono ((h1 a o2 k d (X.pn ++ pins) z2 ⟨_, d2⟩).run [] s5 _ H1 _ S5 (yes rfl a na)) (fun f s6 hf => ?_) (fun _ _ q => q.elim)
          have fin : ∀ {σ6 : L2.St} {H6 : Hp} {Q : Shared → Prop}, Inv (X.suite a ((a, o2) :: (X.pn ++ pins))) [] σ6 H6 s6 → (∀ s7, Inv X pins (σ6.set i none) H6 s7 → Q s7) →
              wpAny M X.A (do bindName X.env n .none; unbindBehindTheSuite X.env n p') (fun _ s7 => Q s7) X.xe s6 := fun {_ _ _} S6 hq => gone_ok (S6.unsuite ok) nd hi lo hq
          cases f with
          | ret u => obtain ⟨v6, σ6, H6, S6, r6, q6⟩ := hf; exact fin S6 fun s7 J7 => ⟨_, _, _, J7, r6, q6⟩
          | next => obtain ⟨σ6, H6, S6, q6⟩ := hf; exact fin S6 fun s7 J7 => ⟨_, _, J7, q6⟩
          | brk => obtain ⟨σ6, H6, S6, q6⟩ := hf; exact fin S6 fun s7 J7 => ⟨_, _, J7, q6⟩
          | cont => obtain ⟨σ6, H6, S6, q6⟩ := hf; exact fin S6 fun s7 J7 => ⟨_, _, J7, q6⟩
    exact go hh w1
  refine wpAny_Try_except (wpAny_mono ((hb (wAl X.K i Wo D l) (X.pn ++ pins) xe1 take1 PassesOwn.looking).run [] s σ H D (I.toTry _) h) (fun f s1 hf => ?_) (fun _ _ q => q))
  cases f with
  | ret u => obtain ⟨v, σ1, H1, J1, r1, q1⟩ := hf; exact ⟨v, σ1, H1, J1.ofTry ok, r1, q1⟩
  | next => obtain ⟨σ1, H1, J1, q1⟩ := hf; exact wpAny_execs_nil ⟨σ1, H1, J1.ofTry ok, q1⟩
  | brk => obtain ⟨σ1, H1, J1, q1⟩ := hf; exact ⟨σ1, H1, J1.ofTry ok, q1⟩
  | cont => obtain ⟨σ1, H1, J1, q1⟩ := hf; exact ⟨σ1, H1, J1.ofTry ok, q1⟩
end
end Tam
/-! methods that may raise -/
namespace Mx
open PySem PySem.Spec PyProof.Rows L2
section
variable {X : Cx} {k : Nat} {C f : Addr} {fd : FuncData} {ps : List Str} {sp : Sp} {W : WX} {m : Str} {pos apos : Pos} {e o : Expr} {es : List Expr} {ta : TE} {t : TA}
def tMethX (C : Addr) (m : Str) (sp : Sp) (E : L2.St → XK) (ta : TE) (t : TA) : TE := fun σ H Q => ta σ H fun x H1 => ∃ a dx fs, x = .ref a ∧ H1 a = some (.ins C dx fs) ∧ fs.lookup m = none ∧ t σ H1 fun vs H2 => sp (x :: vs) H2 Q (E σ)
theorem pe_methX {pl : Sem Bool} (he : PE X o ta) (c : Cls X.K C) (hm : Meth X.K C m f) (F : FnOk X.prog X.w X.K X.mg X.base (L2.CX X.prog X.w) k f fd ps sp) (hr : Room k X.A) (hb : Binds X.K fd ps []) (tk : Takes X W) (ha : PA X (e :: es) t)
    (hst : starEach (e :: es) X.env = (false, eval e X.env) :: starEach es X.env := by rfl) (hpl : (backTo pos (starEach es X.env)).any (·.1) = false := by rfl)
    (ht : eval (.Call (.Attribute o m apos) (e :: es) [] pos) X.env = (do
      let ov ← eval o X.env
      standAt apos.atName
      let (f, first) ← holding [ov] (getMethod ov m pl)
      callWith pos f first (backTo pos (starEach (e :: es) X.env)) (backToKw pos (keywordEach [] X.env))) := by rfl) :
    PE X (.Call (.Attribute o m apos) (e :: es) [] pos) (tMethX C m sp (WE W) ta t) := by
  refine ⟨fun pins s σ H Q I h => ?_⟩
  refine PySem.W.methodCall_KW (pl := pl) (thn (he.run pins s σ H _ I h) fun u s1 ⟨x, H1, I1, rx, a, dx, fs, ex, ea, l, q⟩ => ?_) ht
  subst ex
  obtain rfl : u = Value.ref a := rx
  refine getmeth_ok I1 ea c hm l ?_
  refine PySem.W.callWith_K (first := [.ref a]) (h₀ := X.base) I.ok.mod.kin hm.kp (thn (ha.run pos pins s1 σ H1 _ I1 q) fun us s2 ⟨vs, H2, I2, r, q2⟩ => ⟨I2.kIn, ?_⟩) hst hpl
  exact run_fnS (us := .ref a :: us) (vs := .ref a :: vs) F hr hb (passAt tk σ) I2 (.cons rfl r) q2
theorem pe_methX0 {pl : Sem Bool} (he : PE X o ta) (c : Cls X.K C) (hm : Meth X.K C m f) (F : FnOk X.prog X.w X.K X.mg X.base (L2.CX X.prog X.w) k f fd ps sp) (hr : Room k X.A) (hb : Binds X.K fd ps []) (tk : Takes X W)
    (ht : eval (.Call (.Attribute o m apos) [] [] pos) X.env = (do
      let ov ← eval o X.env
      standAt apos.atName
      let (f, first) ← holding [ov] (getMethod ov m pl)
      callWith pos f first (backTo pos (starEach [] X.env)) (backToKw pos (keywordEach [] X.env))) := by rfl) :
    PE X (.Call (.Attribute o m apos) [] [] pos) (tMethX C m sp (WE W) ta tNil) := by
  refine ⟨fun pins s σ H Q I h => ?_⟩
  refine PySem.W.methodCall_KW (pl := pl) (thn (he.run pins s σ H _ I h) fun u s1 ⟨x, H1, I1, rx, a, dx, fs, ex, ea, l, q⟩ => ?_) ht
  subst ex
  obtain rfl : u = Value.ref a := rx
  refine getmeth_ok I1 ea c hm l ?_
  exact PySem.W.callWith_K0 (first := [.ref a]) I1.kIn hm.kp (run_fnS (us := [.ref a]) (vs := [.ref a]) F hr hb (passAt tk σ) I1 (.cons rfl .nil) q)
end
end Mx
/-! several clauses, with «as» and the same name or without a name -/
namespace Tm2
open PySem PySem.Spec PyProof.Rows L2
abbrev Cls1 : Type := Value × Bool × (Addr → Value → Option Addr → TS)
def gone (i : Nat) (D : Ends) : Ends := { nx := fun a b => D.nx (a.set i none) b, rt := D.rt, bk := fun a b => D.bk (a.set i none) b, ct := fun a b => D.ct (a.set i none) b }
def wAl (K : PySem.W.Frag) (i : Nat) (Wo : WX) (D : Ends) : List Cls1 → WX
  | [] => Wo
  | (c, g, ts) :: r => fun k d σ H => ∃ b, PySem.W.exmOne K k c = some b ∧ (b = true → ∀ a, H a = none → if g = true then ts a k d (gone i D) (σ.set i (some (.ref a))) H else ts a k d D σ H) ∧ (b = false → wAl K i Wo D r k d σ H)
inductive Hd (X : Cx) (n : Str) : List ExceptHandler → List Cls1 → Prop
  | nil : Hd X n [] []
  | more {x : Str} {c : Value} {ts : Addr → Value → Option Addr → TS} {b0 : Stmt} {su : List Stmt} {p p' : Pos} {hs : List ExceptHandler} {l : List Cls1} (hc : Names X x c)
      (h1 : ∀ (a : Addr) (o : Obj) (k : Value) (d : Option Addr) (pn : List (Addr × Obj)), Zc k d o → (∃ vs, o.data = .fields vs) → PSs (X.suite a ((a, o) :: pn)) (b0 :: su) (ts a k d)) (r : Hd X n hs l) :
      Hd X n (.ExceptHandler (some (.Name x p)) (some n) (b0 :: su) p' :: hs) ((c, true, ts) :: l)
  | bare {x : Str} {c : Value} {ts : Addr → Value → Option Addr → TS} {b0 : Stmt} {su : List Stmt} {p p' : Pos} {hs : List ExceptHandler} {l : List Cls1} (hc : Names X x c)
      (h1 : ∀ (a : Addr) (o : Obj) (k : Value) (d : Option Addr) (pn : List (Addr × Obj)), Zc k d o → (∃ vs, o.data = .fields vs) → PSs (X.suite a ((a, o) :: pn)) (b0 :: su) (ts a k d)) (r : Hd X n hs l) :
      Hd X n (.ExceptHandler (some (.Name x p)) none (b0 :: su) p' :: hs) ((c, false, ts) :: l)
section
variable {X : Cx} {n : Str} {i : Nat} {body : List Stmt} {h0 : ExceptHandler} {hs0 : List ExceptHandler} {l : List Cls1} {pos : Pos} {tb : WX → TS} {Wo : WX}
theorem ps_try_al (st : X.stack = X.env :: X.outer) (fr : X.env.frame = some X.env.locals) (nd : X.N.Nodup) (hi : X.N[i]? = some n) (lo : X.env.kindOf n = some .local) (tk : Takes X Wo)
    (hb : ∀ (W : WX) (pn : List (Addr × Obj)) (xe : Value → Shared → Prop), Takes (X.tr pn xe) W → PassesOwn (model X.prog X.w) X.A X.env xe → PSs (X.tr pn xe) body (tb W))
    (hh : Hd X n (h0 :: hs0) l) : PS X (.Try body (h0 :: hs0) [] [] pos) (fun D σ H => tb (wAl X.K i Wo D l) D σ H) := by
  refine ⟨fun pins s σ H D I h => ?_⟩
  have ok := I.ok
  have frs' : X.A.frames = some (X.env :: X.outer) := ok.frames.trans (congrArg some st)
  have ll : Loc X.env.scope n := .inl lo
  let M := model X.prog X.w
  let xe1 : Value → Shared → Prop := fun e s1 => wpAny M X.A (noteFrame e X.env) (fun _ s2 => wpAny M X.A (setFlight e none) (fun _ s3 => wpAny M X.A (handleBy e X.env (h0 :: hs0)) (SP X pins D) X.xe s3) X.xe s2) X.xe s1
  have take1 : Takes (X.tr (X.pn ++ pins) xe1) (wAl X.K i Wo D l) := by
    intro u s1 xx
    obtain ⟨a, B, sI, pinz, σ1, H1, k, d, rfl, Jz, nb, up, sky, na, os, ag, w1⟩ := xx
    have J : Inv X pins σ1 H1 sI := Jz.ofTry ok
    have sky1 : Sky B (X.env :: X.outer) a (Zc k d) X.env.locals s1.heap := st ▸ sky
    refine Sky.land Zc.steady frs' fr sky1 fun g1 fl1 up1 => ?_
    have J1 : Inv X pins σ1 H1 { s1 with heap := g1 } := J.landed nb fl1.1 (up.trans up1) os ag
    obtain ⟨o1, v1, a1, z1, d1⟩ := fl1.there
    have nfr : a ∉ frs (X.env :: X.outer) := fun q => by
      obtain ⟨_, o2, a2, n2⟩ := fl1.2.2.1.mem q
      rw [a1] at a2
      cases a2
      exact n2 _ d1
    have nL : a ≠ X.env.locals := fun q => nfr (List.mem_filterMap.mpr ⟨X.env, .head _, fr.trans (congrArg some q.symm)⟩)
    have nF : a ∉ X.fs := fun q => by
      obtain ⟨en, m1, m2⟩ := List.mem_filterMap.mp q
      exact nfr (List.mem_filterMap.mpr ⟨en, .tail _ m1, m2⟩)
    have S1 := J1.suite a1 d1 na nL nF
    have go : ∀ {hz : List ExceptHandler} {lz : List Cls1}, Hd X n hz lz → wAl X.K i Wo D lz k d σ1 H1 → wpAny M X.A (handleBy (.ref a) X.env hz) (SP X pins D) X.xe { s1 with heap := g1 } := by
      intro hz lz hk
      induction hk with
      | nil =>
        intro wz
        refine wpAny_handleBy_nil ?_
        obtain ⟨y1, y2, y3, oe, vz, tz, oz, tsz, yhe, yhz, yhd, yh1, yhr⟩ := id fl1
        unfold PySem.passOn
        refine wpAny_bind (wpAny_field yhe yhd yh1 ?_)
        rw [if_neg (by simp : ¬ ((Value.ref tz == Value.none) = true))]
        have last : wpAny M X.A (setFlight (.ref a) X.env.frame) (fun _ s4 => wpAny M X.A (throw (.ref a) : Sem Flow) (SP X pins D) X.xe s4) X.xe { s1 with heap := g1 } := by
          rw [fr]
          exact HandSPX.setFlight_upZ fl1 fun g2 hh2 up2 => wpAny_throw (tk _ _ ⟨a, B, sI, pins, σ1, H1, k, d, rfl, J, nb, (up.trans up1).trans up2, .inr (.inr (st ▸ hh2)), na, os, ag, wz⟩)
        first
          | exact wpAny_bind (wpAny_pure (wpAny_bind last))
          | exact wpAny_bind last
      | @more x c ts b0 su p p' hs2 l2 hc h1 r ih =>
        intro wz
        obtain ⟨b, eb, yes, no⟩ := wz
        refine wpAny_handleBy_cons (codeAny_handlers_test ?_) (by intro q; cases q)
        have lt : PySem.W.Looks M g1 (typeOf (.ref a)) k := fun A' Q' E' s' kk q => wpAny_typeOf_ref (kk _ _ a1) (z1.1.symm ▸ q)
        have lm := PySem.W.exm_one (M := M) J1.kIn lt eb
        have test : ∀ {Q : Value → Shared → Prop} {E : Value → Shared → Prop}, Q c { s1 with heap := g1 } → wpAny M (X.A.mark (some (.ref a))) (eval (.Name x p) X.env) Q E { s1 with heap := g1 } := fun {Q E} q => by
          rcases hc with ⟨w1, w2, w3 | ⟨w3, w4, w5⟩⟩
          · exact ld_glob (X := X.suite a ((a, o1) :: (X.pn ++ pins))) S1 w1 w3 q w2
          · exact ld_blt (X := X.suite a ((a, o1) :: (X.pn ++ pins))) S1 w1 w3 w4 q w5 w2
        refine test (lm.here ?_)
        cases b with
        | false =>
          show wpAny M X.A (handleBy (.ref a) X.env hs2) _ _ _
          exact ih (no rfl)
        | true =>
          refine codeAny_handlers_suite_as (HandSPX.lands_againZ fl1 fun g2 fl2 up2 => ?_)
          have J2 : Inv X pins σ1 H1 { s1 with heap := g2 } := J.landed nb fl2.1 ((up.trans up1).trans up2) os ag
          obtain ⟨o2, v2, a2, z2, d2⟩ := fl2.there
          refine store_ok (X := X.suite a ((a, o2) :: (X.pn ++ pins))) (v := .ref a) (J2.suite a2 d2 na nL nF) nd hi ll rfl (fun s5 S5 => ?_) (.inr lo)
          refine wpAny_mono ((h1 a o2 k d (X.pn ++ pins) z2 ⟨_, d2⟩).run [] s5 _ H1 _ S5 (yes rfl a na)) (fun f s6 hf => ?_) (fun _ _ q => q.elim)
          have fin : ∀ {σ6 : L2.St} {H6 : Hp} {Q : Shared → Prop}, Inv (X.suite a ((a, o2) :: (X.pn ++ pins))) [] σ6 H6 s6 → (∀ s7, Inv X pins (σ6.set i none) H6 s7 → Q s7) →
              wpAny M X.A (do bindName X.env n .none; unbindBehindTheSuite X.env n p') (fun _ s7 => Q s7) X.xe s6 := fun {_ _ _} S6 hq => gone_ok (S6.unsuite ok) nd hi lo hq
          cases f with
          | ret u => obtain ⟨v6, σ6, H6, S6, r6, q6⟩ := hf; exact fin S6 fun s7 J7 => ⟨_, _, _, J7, r6, q6⟩
          | next => obtain ⟨σ6, H6, S6, q6⟩ := hf; exact fin S6 fun s7 J7 => ⟨_, _, J7, q6⟩
          | brk => obtain ⟨σ6, H6, S6, q6⟩ := hf; exact fin S6 fun s7 J7 => ⟨_, _, J7, q6⟩
          | cont => obtain ⟨σ6, H6, S6, q6⟩ := hf; exact fin S6 fun s7 J7 => ⟨_, _, J7, q6⟩
      | @bare x c ts b0 su p p' hs2 l2 hc h1 r ih =>
        intro wz
        obtain ⟨b, eb, yes, no⟩ := wz
        refine wpAny_handleBy_cons (codeAny_handlers_test ?_) (by intro q; cases q)
        have lt : PySem.W.Looks M g1 (typeOf (.ref a)) k := fun A' Q' E' s' kk q => wpAny_typeOf_ref (kk _ _ a1) (z1.1.symm ▸ q)
        have lm := PySem.W.exm_one (M := M) J1.kIn lt eb
        have test : ∀ {Q : Value → Shared → Prop} {E : Value → Shared → Prop}, Q c { s1 with heap := g1 } → wpAny M (X.A.mark (some (.ref a))) (eval (.Name x p) X.env) Q E { s1 with heap := g1 } := fun {Q E} q => by
          rcases hc with ⟨w1, w2, w3 | ⟨w3, w4, w5⟩⟩
          · exact ld_glob (X := X.suite a ((a, o1) :: (X.pn ++ pins))) S1 w1 w3 q w2
          · exact ld_blt (X := X.suite a ((a, o1) :: (X.pn ++ pins))) S1 w1 w3 w4 q w5 w2
        refine test (lm.here ?_)
        cases b with
        | false =>
          show wpAny M X.A (handleBy (.ref a) X.env hs2) _ _ _
          exact ih (no rfl)
        | true =>
          refine codeAny_handlers_suite ?_
          refine HandSPX.lands_againZ fl1 fun g2 fl2 up2 => ?_
          have J2 : Inv X pins σ1 H1 { s1 with heap := g2 } := J.landed nb fl2.1 ((up.trans up1).trans up2) os ag
          obtain ⟨o2, v2, a2, z2, d2⟩ := fl2.there
          have S2 := J2.suite a2 d2 na nL nF
          refine wpAny_mono ((h1 a o2 k d (X.pn ++ pins) z2 ⟨_, d2⟩).run [] _ _ H1 _ S2 (yes rfl a na)) (fun f s6 hsp => ?_) (fun _ _ z => False.elim z)
          cases f with
          | next =>
            obtain ⟨σ6, H6, S6, q6⟩ := hsp
            exact ⟨_, _, S6.unsuite ok, q6⟩
          | brk =>
            obtain ⟨σ6, H6, S6, q6⟩ := hsp
            exact ⟨_, _, S6.unsuite ok, q6⟩
          | cont =>
            obtain ⟨σ6, H6, S6, q6⟩ := hsp
            exact ⟨_, _, S6.unsuite ok, q6⟩
          | ret u =>
            obtain ⟨v6, σ6, H6, S6, r6, q6⟩ := hsp
            exact ⟨_, _, _, S6.unsuite ok, r6, q6⟩
    exact go hh w1
  refine wpAny_Try_except (wpAny_mono ((hb (wAl X.K i Wo D l) (X.pn ++ pins) xe1 take1 PassesOwn.looking).run [] s σ H D (I.toTry _) h) (fun f s1 hf => ?_) (fun _ _ q => q))
  cases f with
  | ret u => obtain ⟨v, σ1, H1, J1, r1, q1⟩ := hf; exact ⟨v, σ1, H1, J1.ofTry ok, r1, q1⟩
  | next => obtain ⟨σ1, H1, J1, q1⟩ := hf; exact wpAny_execs_nil ⟨σ1, H1, J1.ofTry ok, q1⟩
  | brk => obtain ⟨σ1, H1, J1, q1⟩ := hf; exact ⟨σ1, H1, J1.ofTry ok, q1⟩
  | cont => obtain ⟨σ1, H1, J1, q1⟩ := hf; exact ⟨σ1, H1, J1.ofTry ok, q1⟩
end
end Tm2
/-! a def without loops, called while an exception is handled -/
namespace Hw
open PySem PySem.Spec PyProof.Rows L2
structure Rm (k : Nat) (A : Around) : Prop where
  d : A.depth + 3 * k + 5 < recursionLimit
theorem Rm.of {k j : Nat} {A : Around} (r : Room j A) (h : k ≤ j) (v : Option Value) : Rm k (A.mark v) := ⟨by have := r.dp; show A.depth + 3 * k + 5 < _; omega⟩
/-- the body's context -/
def cxW (P : Program) (w : World) (K : PySem.W.Frag) (mg : Str → Option Value) (base : Heap) (N : List Str) (qual : Str) (sc : Scope) (f : Addr) (cd : Value) (A : Around) (out : List Env) (s : Shared) (H : Hp) (E : XK) : Cx :=
  { cxOf CX0 P w K mg base N qual sc f cd A out s H E with calm := false }
structure FnW (P : Program) (w : World) (K : PySem.W.Frag) (mg : Str → Option Value) (base : Heap) (k : Nat) (f : Addr) (fd : FuncData) (ps : List Str) (sp : Sp) : Prop where
  ln : ∀ vs H Q E, sp vs H Q E → vs.length = ps.length
  go : ∀ (A : Around) (out : List Env) (s : Shared) (H : Hp) (as : Args) (us : List Value) (vs : List V) (Q : VK) (E : XK), Rm k A → Env0 P w K mg base A out s H → BindsTo s fd as (ps.zip us) → Vals vs us → sp vs H Q E → codeAny (model P w) A (.call (.ref f) as) (CR CX0 out P w H s Q E) s
section
variable {P : Program} {w : World} {K : PySem.W.Frag} {mg : Str → Option Value} {base : Heap} {k : Nat} {f : Addr} {N ps : List Str} {sp : Sp}
theorem inv_w {qual : Str} {sc : Scope} {cd : Value} {A : Around} {out : List Env} {s s1 : Shared} {H : Hp} {E : XK} {us : List Value} {vs : List V}
    (S : FnScope N ps sc) (e0 : Env0 P w K mg base A out s H) (hl : vs.length = ps.length) (r : Vals vs us)
    (x : InCallC s s.heap.objs.size (bindL (envOfC qual sc s.heap.objs.size f cd).kindOf (ps.zip us) fun _ => none) (cellsFrom (s.heap.objs.size + 1) sc.names []) (bindC (envOfC qual sc s.heap.objs.size f cd).kindOf (ps.zip us) fun _ => none) s1) :
    Inv (cxW P w K mg base N qual sc f cd A out s H E) [] (L2.start N vs) H s1 := by
  obtain ⟨h1, tk, rfl, hk⟩ := x.done
  have no : ∀ b : Addr, b ∉ (cxW P w K mg base N qual sc f cd A out s H E).ex := fun b z => absurd (show b ∈ ([] : List Addr) from z) (by simp)
  refine ⟨⟨e0.mod, S.kind, rfl, rfl, Nat.le_refl _, fun y z c q1 q2 => ?_, fun y hy => ?_, fun y c _ q => ?_, (fun z => Bool.noConfusion (show false = true from z)), Around.frames_deeper e0.frames, .inr ⟨rfl, rfl⟩, fun b z => absurd z (no b), e0.bs, e0.bsz, fun b _ _ => no b, fun b z => absurd z (no b), e0.funs, e0.frf⟩,
    rfl, e0.bare, Un.kept hk, ⟨_, x.toInCall.ns, fun i y v q1 q2 q3 => ?_⟩, fun y c q => ⟨_, x.cell y c q⟩, e0.hok.fresh (Nat.le_refl _), fun y c q => ?_, fun q hq => ?_, e0.hok.kept hk, ?_⟩
  · exact name_of_addr x.apart (PySem.mem_of_lookup q1) (PySem.mem_of_lookup q2)
  · have hy : sc.names.lookup y = some .cell ∨ sc.names.lookup y = some .free := hy
    exact hy.elim (fun hy => cell_has hy) (fun hy => absurd rfl (S.nofree _ (PySem.mem_of_lookup hy)))
  · exact Nat.le_of_lt (x.above y c (PySem.mem_of_lookup q))
  · have hi : i < vs.length := by
      unfold L2.start at q2
      by_cases hi : i < vs.length
      · exact hi
      · rw [List.getElem?_append_right (by simpa using hi), List.getElem?_replicate] at q2
        split at q2 <;> cases q2
    have ha : vs[i]? = some v := by
      unfold L2.start at q2
      rw [List.getElem?_append_left (by simpa using hi), List.getElem?_map] at q2
      cases e : vs[i]? with
      | none => rw [e] at q2; cases q2
      | some a => rw [e] at q2; cases q2; rfl
    obtain ⟨u, hu, rv⟩ := r.get ha
    have hp : ps[i]? = some y := by
      rw [← S.pre, List.getElem?_take_of_lt (by omega)]
      exact q1
    have ndp : ps.Nodup := by rw [← S.pre]; exact S.nd.sublist (List.take_sublist _ _)
    refine ⟨u, rv, ?_⟩
    rcases S.par y (List.mem_of_getElem? hp) with k | k
    · exact .inl ⟨k, bindL_get ndp hp hu k⟩
    · obtain ⟨c, e⟩ := cell_has (n := s.heap.objs.size + 1) k
      refine .inr ⟨.inl k, c, e, ?_⟩
      have z := x.cell y c e
      rwa [bindC_get ndp hp hu (by show sc.names.lookup y ≠ _; rw [k]; decide)] at z
  · exact e0.hok.fresh (Nat.le_of_lt (x.above y c (PySem.mem_of_lookup q)))
  · exact absurd (show q ∈ ([] : List (Addr × Obj)) from hq) (by simp)
  · have hpl : ps.length ≤ N.length := by have := congrArg List.length S.pre; rw [List.length_take] at this; omega
    unfold L2.start
    show _ = N.length
    rw [List.length_append, List.length_map, List.length_replicate]
    omega
theorem okW {x qual : Str} {st : Stmt} {fd : FuncData} (F : L2.Fun K x qual st f fd) (S : FnScope N ps (defScope st)) (ln : ∀ vs H Q E, sp vs H Q E → vs.length = ps.length)
    (hb : ∀ (cdv : Value) (A : Around) (out : List Env) (s : Shared) (H : Hp) (vs : List V) (Q : VK) (E : XK), Rm k (A.deeper (envOfC qual (defScope st) s.heap.objs.size f cdv)) → sp vs H Q E →
      ∃ t, PSs (cxW P w K mg base N qual (defScope st) f cdv A out s H E) (defBody st) t ∧ t { nx := fun _ H' => Q .non H', rt := Q } (L2.start N vs) H) : FnW P w K mg base (k + 1) f fd ps sp := by
  obtain ⟨oc, od, kV, doc, pm, an, cdv, ct, osl, rfl, lk, hcd⟩ := F.ex
  refine ⟨ln, fun A out s H as us vs Q E hr e0 hbd r hsp => ?_⟩
  have hl := ln _ _ _ _ hsp
  have KX : K.In s.heap := e0.mod.kin.keeps fun b o e => (e0.bs b o e).1
  have lim : s.heap.NoLimit := e0.mod.nolimit.keeps fun b o e => (e0.bs b o e).1
  refine codeAny_call_function (by have := hr.d; omega) (KX _ _ lk) rfl S.co S.gen rfl (PySem.W.codeRec_of KX hcd) (hbd _ _ _ _ ?_)
  refine wpAny_newFunctionEnv_cells S.kind (fun ⟨n, v⟩ hy => (S.par n (List.of_mem_zip hy).1).elim .inl fun q => .inr ⟨q, PySem.W.cellsFrom_some _ _ _ (.inl q)⟩) fun env he s1 x => ?_
  subst he
  refine ⟨lim.keeps x.toInCall.keep, codeAny_func ?_⟩
  obtain ⟨t, ht, hq⟩ := hb cdv A out s H vs Q E ⟨by have := hr.d; show A.depth + 1 + 3 * k + 5 < _; omega⟩ hsp
  have I := inv_w (E := E) S e0 hl r x
  refine wpAny_mono (ht.run [] s1 (L2.start N vs) H _ I hq) (fun fl s' hs => ?_) fun e s' hs => hs
  cases fl with
  | ret u => obtain ⟨v, σ', H', J, rv, q⟩ := hs; exact ⟨v, H', J.os, J.bare, J.base, J.hok, rv, q⟩
  | next => obtain ⟨σ', H', J, q⟩ := hs; exact ⟨.non, H', J.os, J.bare, J.base, J.hok, rfl, q⟩
  | brk => obtain ⟨_, _, _, q⟩ := hs; exact q.elim
  | cont => obtain ⟨_, _, _, q⟩ := hs; exact q.elim
end
section
variable {X : Cx} {k : Nat} {f : Addr} {fd : FuncData} {ps : List Str} {sp : Sp} {x : Str} {q pos : Pos} {e : Expr} {es : List Expr} {t : TA}
theorem pe_cW (F : FnW X.prog X.w X.K X.mg X.base k f fd ps sp) (hr : Rm k X.A) (hg : Gl X x) (hm : X.mg x = some (.ref f)) (hk : PySem.W.keepIn X.K (.ref f) = true) (hb : Binds X.K fd ps [])
    (ha : PA X (e :: es) t) (hdb : (x == ("__debug__" : Str)) = false := by decide) (he : starEach (e :: es) X.env = (false, eval e X.env) :: starEach es X.env := by rfl) (hpl : (backTo pos (starEach es X.env)).any (·.1) = false := by rfl) :
    PE X (.Call (.Name x q) (e :: es) [] pos) (tCallS sp (fun _ => C8.E0) t) := by
  refine ⟨fun pins s σ H Q I h => ?_⟩
  refine wpAny_Call_Name_kw (ld_glob I hg hm ?_ hdb)
  refine PySem.W.callWith_K (h₀ := X.base) I.ok.mod.kin hk (thn (ha.run pos pins s σ H _ I h) fun us s1 ⟨vs, H1, I1, r, z⟩ => ⟨I1.kIn, ?_⟩) he hpl
  have hl : us.length = ps.length := by rw [← r.length]; exact F.ln _ _ _ _ z
  have b := hb s1 us I1.kIn (by rw [List.append_nil]; exact hl)
  rw [List.append_nil] at b
  refine wpAny_call (codeAny_mono (F.go X.A X.stack s1 H1 ⟨us, []⟩ us vs Q C8.E0 hr I1.env0 b r z) fun r s' hq => ?_)
  cases r with
  | error e => exact (show False from hq).elim
  | ok fl =>
    cases fl with
    | ret u => exact I1.after hq
    | next => exact hq.elim
    | brk => exact hq.elim
    | cont => exact hq.elim
end
end Hw
/-! isinstance of a caught own error that bears attributes -/
namespace Isx
open PySem PySem.Spec PySem.Calls PyProof.Rows PySem.W
section
variable {prog : Program} {w : World} {A : Around} {E : Value → Shared → Prop} {s : Shared} {K : Frag} {x D : Addr} {ox : Obj} {od : Option Obj}
theorem find_data {C : Addr} {nm : Str} {a g : Value} (u1 : (clsIn K C).isSome = true) (u2 : findIn K (.ref C) nm = some (some a)) (u3 : specialIn K a "__get__" = some (some g)) (u4 : takesIn K a = some true) : findObj K C od nm = some (.bind g a) := by
  obtain ⟨cd, u1⟩ := Option.isSome_iff_exists.mp u1
  unfold findObj
  rw [u1, Option.bind_some, u2, Option.bind_some]
  simp [u3, u4]
theorem cls_of {Q : Option Value → Shared → Prop} (v1 : findIn K (.ref D) "__getattribute__" = some (some (.builtin "BaseException.__getattribute__"))) (v2 : findIn K (.ref D) "__getattr__" = some none) (v3 : subIn K (.ref D) (.type "BaseException") = some true)
    (v4 : hasDictIn K D = true) (v5 : findIn K (.ref D) "__class__" = some (some (.builtin "object.__class__")))
    (v6 : specialIn K (.builtin "object.__class__") "__get__" = some (some (.builtin "getset_descriptor.__get__"))) (v7 : takesIn K (.builtin "object.__class__") = some true) (v8 : mroIn K D (.type "object") = some true)
    (KX : K.In s.heap) (J : InstAt s.heap x ox D od) (q : Q (some (.ref D)) { s with toks := s.toks + 1 }) : wpAny (model prog w) A (getAttr? (.ref x) "__class__") Q E s := by
  have fo : findObj K D od "__class__" = some (.bind (.builtin "getset_descriptor.__get__") (.builtin "object.__class__")) := find_data (by obtain ⟨cd, hc, _⟩ := any_some v4; rw [hc]; rfl) v5 v6 v7
  obtain ⟨hp, g, d, t, os⟩ := s
  have M0 := J.type (M := model prog w)
  have M1 := looks_findIn (M := model prog w) KX v1
  have M2 := looks_findIn (M := model prog w) KX v2
  have M3 := looks_find (M := model prog w) KX J fo
  have sb : Looks (model prog w) hp (isInstance (.ref x) (.type "BaseException")) true := M0.andThen (looks_subIn KX v3)
  have n0 : (false && onTheHeap (Value.builtin "BaseException.__getattribute__")) = false := rfl
  have n2 : (Value.builtin "BaseException.__getattribute__" == Value.builtin "object.__getattribute__") = false := by decide +kernel
  have n1 : (onTheHeap (Value.ref D) && Value.builtin "BaseException.__getattribute__" == Value.builtin "object.__getattribute__") = false := by rw [n2]; rfl
  unfold getAttr?
  unfold getAttrBy? getAttrBy
  refine wpAny_bind (wpAny_mkText (wpAny_bind (wpAny_attempt (wpAny_holding (wpAny_bind (M0.at (wpAny_bind (M1.at ?_))))))))
  show wpAny _ _ (if (onTheHeap (Value.ref D) &&
    Value.builtin "BaseException.__getattribute__" == Value.builtin "object.__getattribute__") = true then _ else _) _ _ _
  rw [n1, if_neg Bool.false_ne_true]
  unfold getAttrByItsOwn
  unfold hookBefore
  refine wpAny_bind ?_
  rw [if_pos (show onTheHeap (Value.ref D) = true by rfl)]
  refine M2.at ?_
  refine wpAny_bind (wpAny_attempt ?_)
  refine wpAny_holding ?_
  unfold callGetattribute
  rw [n0, if_neg Bool.false_ne_true]
  unfold boundAndCalled
  rw [(PySem.F.excAttr_ValueError.ga).bind (.ref x)]
  refine wpAny_bind (wpAny_pure ?_)
  show wpAny _ _ (call (.builtin "BaseException.__getattribute__") [.ref x,
    .str "__class__" t]) _ _ _
  refine wpAny_call (codeAny_call_builtin (PySem.F.excAttr_ValueError.ga).plain PySem.F.entry_bexc_ga ?_)
  refine @check_slot (model prog w) _ _ ⟨hp, g, d, t + 1, os⟩ "BaseException.__getattribute__" "BaseException" "__getattribute__" (.ref x) [.str "__class__" t] [] _ (by decide +kernel) (by decide +kernel) sb (PySem.F.args_bexc_ga (.ref x) (.str "__class__" t)) ?_
  unfold Builtin.«object.__getattribute__»
  refine wpAny_bind (wpAny_of_eq (a := ((Value.ref x : Value), [Value.str "__class__" t])) (by first | (simp only [slotArgs]; rfl) | rfl) ?_)
  refine wpAny_bind (wpAny_pure (wpAny_bind (M0.at (wpAny_bind (M3.at ?_)))))
  show wpAny _ _ (holding [Value.builtin "object.__class__"] (call (.builtin "getset_descriptor.__get__") [.builtin "object.__class__", .ref x,
    .ref D]) >>= ret) _ _ _
  refine wpAny_bind (wpAny_holding (wpAny_call (class_get (s := ⟨hp, g, d, t + 1, os⟩) (ox := ox) (od := od) KX J v8 ?_)))
  refine wpAny_pure ?_
  show wpAny _ _
    (handedOut (.ref D)) _ _ _
  rw [handedOut_of (v := .ref D) rfl]
  first
    | exact wpAny_pure (wpAny_pure q)
    | exact wpAny_pure q
    | exact wpAny_pure (wpAny_bind (wpAny_pure (wpAny_pure q)))
theorem kitx (T : L2.ExcC K D) : KitX K (.ref x) (.ref D) (fun h => ∃ od, InstAt h x ox D od) where
  ty := fun _ _ _ ⟨_, J⟩ => J.type
  it := fun _ _ KX _ => by
    obtain ⟨z, hz, _⟩ := any_some T.hd
    unfold clsIn at hz
    split at hz
    · rename_i c' d' cd' sl' ho
      intro A' Q' E' s' k q
      unfold isType
      unfold loadHead
      exact wpAny_bind (wpAny_loadPart (k _ _ (KX _ _ ho)) (wpAny_pure q))
    · cases hz
  ne := fun h tp dd its n sl KX htp => by
    obtain ⟨z, hz, _⟩ := any_some T.hd
    refine Bool.eq_false_iff.mpr fun y => ?_
    obtain rfl : D = tp := Value.ref.inj (beq_iff_eq.mp y)
    unfold clsIn at hz
    split at hz
    · rename_i c' d' cd' sl' ho
      cases (KX _ _ ho).symm.trans htp
    · cases hz
  ca := fun KX ⟨_, J⟩ k => cls_of T.hg T.hk T.hs T.hd T.ha T.hn T.ht T.hm KX J k
end
end Isx
namespace Isx
open PySem PySem.Spec PyProof.Rows L2
/-- isinstance of a caught error, with attributes or without -/
def rIsF (K : PySem.W.Frag) (a : Addr) (cls : Value) (d : Option Addr) : List V → Hp → VK → Prop := fun xs H Q => ∃ (D dd : Addr) (fs : List (Str × V)), cls = .ref D ∧ d = some dd ∧ H dd = some (.xd fs) ∧ ExcC K D ∧ rIsE K D a xs H Q
theorem call_isF {X : Cx} {K : PySem.W.Frag} {a : Addr} {cls : Value} {d : Option Addr} {oe : Obj} {pn : List (Addr × Obj)} (h : X.K = K) (hz : Zc cls d oe) (hf : ∃ vs, oe.data = .fields vs) : CallR (X.suite a ((a, oe) :: pn)) (.builtin "isinstance") (rIsF K a cls d) := by
  subst h
  intro pins s σ H xs us Q I r z
  obtain ⟨D, dd, fs, rfl, rfl, hdd, T, c, cv, b, rfl, hcv, e, q⟩ := z
  cases r with
  | cons rx rr =>
    cases rr with
    | cons rt rr =>
      cases rr
      cases rx
      obtain rfl := hcv _ rt
      obtain ⟨hget, _⟩ := I.pin (a, oe) (List.mem_append.mpr (.inl List.mem_cons_self))
      obtain ⟨vs, hv⟩ := hf
      obtain ⟨mA, hns, hr⟩ := I.hok dd _ hdd
      obtain ⟨od, ho, hl⟩ := lookIn_ns hns
      have J : PySem.W.InstAt s.heap a oe D (some od) := ⟨hget, hz.1, by unfold PySem.W.notCls; rw [hv] <;> rfl, by rw [hz.2]; exact ho⟩
      exact PySem.W.kia_one (kitx T) I.kIn ⟨_, J⟩ e (fun z => nomatch z) fun tk => ⟨.bl b, H, I.kept (t' := tk) fun _ _ z => z, rfl, q⟩
end Isx
local macro_rules | `(tactic| walk_at "hl") => `(tactic| first | assumption | exact L2.upd_same | (refine Bx.sat (by assumption) ?_; walk_at "hl"))
local macro_rules | `(tactic| walk_at "bx") => `(tactic| repeat (first
  | refine ⟨_, rfl, ?_⟩
  | refine ⟨_, _, rfl, rfl, ?_⟩
  | refine ⟨rfl, ?_⟩
  | refine Or.inl ⟨_, rfl, ?_⟩
  | refine ⟨Or.inr ⟨by decide, by decide⟩, ?_⟩
  | refine ⟨Or.inl ⟨by decide, by decide⟩, ?_⟩
  | refine ⟨(show (0 : Int) < _ by decide), ?_⟩
  | refine ⟨⟨by decide, by decide⟩, ?_⟩
  | refine ⟨_, _, rfl, Or.inl (L2.SqL.of (by walk_at "hl")), ?_⟩
  | refine ⟨_, _, rfl, Or.inr (L2.SqT.of (by walk_at "hl")), ?_⟩
  | refine ⟨Or.inl ⟨rfl, _, L2.SqL.of (by walk_at "hl")⟩, ?_⟩
  | refine ⟨_, _, _, rfl, rfl, (by walk_at "hl"), ?_⟩
  | refine ⟨_, _, rfl, rfl, (by walk_at "hl"), ?_⟩
  | refine ⟨_, _, _, _, rfl, rfl, L2.SqT.of (by walk_at "hl"), (by walk_at "hl"), ?_⟩
  | refine ⟨_, _, _, _, rfl, rfl, L2.SqL.of (by walk_at "hl"), (by walk_at "hl"), ?_⟩
  | refine ⟨_, _, rfl, Bx.SeqI.sq (by walk_at "hl"), ?_⟩
  | refine And.intro (by walk_at "hl") ?_))
local macro_rules | `(tactic| walk_at "nl") => `(tactic| ((try unfold L2.tNil); (try unfold L2.tNoPart)))

namespace My
open PySem PySem.Spec PyProof.Rows L2 Bx Tx Tr
def topS (i : Nat) : Stmt := PySem.Challenge.pw_reactivesynth_k09_syntax_errors.main.body.getD i (.Pass ⟨0, 0, 0, 0⟩)
abbrev s_decimal : Stmt := topS 3
abbrev N_decimal : List Str := ["number", "left", "pieces", "low"]
theorem sc_decimal : FnScope N_decimal ["number"] (defScope s_decimal) := ⟨rfl, rfl, rfl, by decide +kernel, rfl, by decide +kernel, by decide +kernel⟩
abbrev s_operands : Stmt := topS 13
abbrev N_operands : List Str := ["formula"]
theorem sc_operands : FnScope N_operands ["formula"] (defScope s_operands) := ⟨rfl, rfl, rfl, by decide +kernel, rfl, by decide +kernel, by decide +kernel⟩
abbrev s_subformulas : Stmt := topS 14
abbrev N_subformulas : List Str := ["formula", "found", "waiting", "part"]
theorem sc_subformulas : FnScope N_subformulas ["formula"] (defScope s_subformulas) := ⟨rfl, rfl, rfl, by decide +kernel, rfl, by decide +kernel, by decide +kernel⟩
abbrev s_count_operators : Stmt := topS 15
abbrev N_count_operators : List Str := ["formula", "kinds", "part"]
theorem sc_count_operators : FnScope N_count_operators ["formula", "kinds"] (defScope s_count_operators) := ⟨rfl, rfl, rfl, by decide +kernel, rfl, by decide +kernel, by decide +kernel⟩
abbrev s_temporal_count : Stmt := topS 16
abbrev N_temporal_count : List Str := ["formula"]
theorem sc_temporal_count : FnScope N_temporal_count ["formula"] (defScope s_temporal_count) := ⟨rfl, rfl, rfl, by decide +kernel, rfl, by decide +kernel, by decide +kernel⟩
abbrev s_depth : Stmt := topS 17
abbrev N_depth : List Str := ["formula", "deepest", "waiting", "part", "level", "below"]
theorem sc_depth : FnScope N_depth ["formula"] (defScope s_depth) := ⟨rfl, rfl, rfl, by decide +kernel, rfl, by decide +kernel, by decide +kernel⟩
abbrev s_word_at : Stmt := topS 25
abbrev N_word_at : List Str := ["text", "at", "end"]
theorem sc_word_at : FnScope N_word_at ["text", "at"] (defScope s_word_at) := ⟨rfl, rfl, rfl, by decide +kernel, rfl, by decide +kernel, by decide +kernel⟩
abbrev s_is_reserved : Stmt := topS 26
abbrev N_is_reserved : List Str := ["word"]
theorem sc_is_reserved : FnScope N_is_reserved ["word"] (defScope s_is_reserved) := ⟨rfl, rfl, rfl, by decide +kernel, rfl, by decide +kernel, by decide +kernel⟩
abbrev s_parse_property : Stmt := topS 37
abbrev N_parse_property : List Str := ["text", "names", "quantifier", "hidden", "formula"]
theorem sc_parse_property : FnScope N_parse_property ["text", "names"] (defScope s_parse_property) := ⟨rfl, rfl, rfl, by decide +kernel, rfl, by decide +kernel, by decide +kernel⟩
abbrev s_check_names : Stmt := topS 38
abbrev N_check_names : List Str := ["hidden", "formula", "names", "known", "name", "part"]
theorem sc_check_names : FnScope N_check_names ["hidden", "formula", "names"] (defScope s_check_names) := ⟨rfl, rfl, rfl, by decide +kernel, rfl, by decide +kernel, by decide +kernel⟩
abbrev s_check_bounds : Stmt := topS 39
abbrev N_check_bounds : List Str := ["hidden", "formula"]
theorem sc_check_bounds : FnScope N_check_bounds ["hidden", "formula"] (defScope s_check_bounds) := ⟨rfl, rfl, rfl, by decide +kernel, rfl, by decide +kernel, by decide +kernel⟩
abbrev s_split_tokens : Stmt := topS 40
abbrev N_split_tokens : List Str := ["text", "tokens", "at", "kind", "characters"]
theorem sc_split_tokens : FnScope N_split_tokens ["text"] (defScope s_split_tokens) := ⟨rfl, rfl, rfl, by decide +kernel, rfl, by decide +kernel, by decide +kernel⟩
abbrev s_token_at : Stmt := topS 41
abbrev N_token_at : List Str := ["text", "at", "sign", "word"]
theorem sc_token_at : FnScope N_token_at ["text", "at"] (defScope s_token_at) := ⟨rfl, rfl, rfl, by decide +kernel, rfl, by decide +kernel, by decide +kernel⟩
abbrev s_fold : Stmt := topS 42
abbrev N_fold : List Str := ["operators", "parts"]
theorem sc_fold : FnScope N_fold ["operators", "parts"] (defScope s_fold) := ⟨rfl, rfl, rfl, by decide +kernel, rfl, by decide +kernel, by decide +kernel⟩
abbrev s_fold_left : Stmt := topS 43
abbrev N_fold_left : List Str := ["operators", "parts", "kinds", "joined", "sign", "part", "kind"]
theorem sc_fold_left : FnScope N_fold_left ["operators", "parts"] (defScope s_fold_left) := ⟨rfl, rfl, rfl, by decide +kernel, rfl, by decide +kernel, by decide +kernel⟩
abbrev s_fold_right : Stmt := topS 44
abbrev N_fold_right : List Str := ["operators", "parts", "kinds", "joined", "sign", "part", "kind"]
theorem sc_fold_right : FnScope N_fold_right ["operators", "parts"] (defScope s_fold_right) := ⟨rfl, rfl, rfl, by decide +kernel, rfl, by decide +kernel, by decide +kernel⟩
abbrev s_law_draws : Stmt := topS 47
abbrev N_law_draws : List Str := ["script", "count", "cells", "found", "mixed", "k", "j", "cell", "again"]
theorem sc_law_draws : FnScope N_law_draws ["script", "count"] (defScope s_law_draws) := ⟨rfl, rfl, rfl, by decide +kernel, rfl, by decide +kernel, by decide +kernel⟩
abbrev s_law_take : Stmt := topS 48
abbrev N_law_take : List Str := ["draws", "limit"]
theorem sc_law_take : FnScope N_law_take ["draws", "limit"] (defScope s_law_take) := ⟨rfl, rfl, rfl, by decide +kernel, rfl, by decide +kernel, by decide +kernel⟩
abbrev s_law_is_integer : Stmt := topS 49
abbrev N_law_is_integer : List Str := ["actual"]
theorem sc_law_is_integer : FnScope N_law_is_integer ["actual"] (defScope s_law_is_integer) := ⟨rfl, rfl, rfl, by decide +kernel, rfl, by decide +kernel, by decide +kernel⟩
abbrev s_law_name : Stmt := topS 50
abbrev N_law_name : List Str := ["draws", "k", "chars", "name", "j"]
theorem sc_law_name : FnScope N_law_name ["draws", "k"] (defScope s_law_name) := ⟨rfl, rfl, rfl, by decide +kernel, rfl, by decide +kernel, by decide +kernel⟩
abbrev s_law_names : Stmt := topS 51
abbrev N_law_names : List Str := ["draws", "count", "k"]
theorem sc_law_names : FnScope N_law_names ["draws", "count"] (defScope s_law_names) := ⟨rfl, rfl, rfl, by decide +kernel, rfl, by decide +kernel, by decide +kernel⟩
abbrev s_law_leaf : Stmt := topS 52
abbrev N_law_leaf : List Str := ["draws", "names", "choice"]
theorem sc_law_leaf : FnScope N_law_leaf ["draws", "names"] (defScope s_law_leaf) := ⟨rfl, rfl, rfl, by decide +kernel, rfl, by decide +kernel, by decide +kernel⟩
abbrev s_law_formula : Stmt := topS 53
abbrev N_law_formula : List Str := ["draws", "names", "budget", "deep", "choice", "unary", "operator", "part", "left"]
theorem sc_law_formula : FnScope N_law_formula ["draws", "names", "budget", "deep"] (defScope s_law_formula) := ⟨rfl, rfl, rfl, by decide +kernel, rfl, by decide +kernel, by decide +kernel⟩
abbrev s_law_property : Stmt := topS 54
abbrev N_law_property : List Str := ["draws", "names", "budget", "deep", "share", "hidden", "formula"]
theorem sc_law_property : FnScope N_law_property ["draws", "names", "budget", "deep", "share"] (defScope s_law_property) := ⟨rfl, rfl, rfl, by decide +kernel, rfl, by decide +kernel, by decide +kernel⟩
abbrev s_law_print : Stmt := topS 55
abbrev N_law_print : List Str := ["formula", "signs", "more", "last", "operator", "sign"]
theorem sc_law_print : FnScope N_law_print ["formula"] (defScope s_law_print) := ⟨rfl, rfl, rfl, by decide +kernel, rfl, by decide +kernel, by decide +kernel⟩
abbrev s_law_print_property : Stmt := topS 56
abbrev N_law_print_property : List Str := ["prop"]
theorem sc_law_print_property : FnScope N_law_print_property ["prop"] (defScope s_law_print_property) := ⟨rfl, rfl, rfl, by decide +kernel, rfl, by decide +kernel, by decide +kernel⟩
abbrev s_law_token_end : Stmt := topS 57
abbrev N_law_token_end : List Str := ["text", "at", "lower", "digits", "end", "k"]
theorem sc_law_token_end : FnScope N_law_token_end ["text", "at"] (defScope s_law_token_end) := ⟨rfl, rfl, rfl, by decide +kernel, rfl, by decide +kernel, by decide +kernel⟩
abbrev s_law_tokens : Stmt := topS 58
abbrev N_law_tokens : List Str := ["text", "found", "at", "k", "end"]
theorem sc_law_tokens : FnScope N_law_tokens ["text"] (defScope s_law_tokens) := ⟨rfl, rfl, rfl, by decide +kernel, rfl, by decide +kernel, by decide +kernel⟩
abbrev s_law_is_name : Stmt := topS 59
abbrev N_law_is_name : List Str := ["word"]
theorem sc_law_is_name : FnScope N_law_is_name ["word"] (defScope s_law_is_name) := ⟨rfl, rfl, rfl, by decide +kernel, rfl, by decide +kernel, by decide +kernel⟩
abbrev s_law_begin : Stmt := topS 60
abbrev N_law_begin : List Str := ["tokens", "k"]
theorem sc_law_begin : FnScope N_law_begin ["tokens"] (defScope s_law_begin) := ⟨rfl, rfl, rfl, by decide +kernel, rfl, by decide +kernel, by decide +kernel⟩
abbrev s_law_fault : Stmt := topS 61
abbrev N_law_fault : List Str := ["text", "tokens", "start", "inside", "operand", "token", "word"]
theorem sc_law_fault : FnScope N_law_fault ["text"] (defScope s_law_fault) := ⟨rfl, rfl, rfl, by decide +kernel, rfl, by decide +kernel, by decide +kernel⟩
abbrev s_law_sign : Stmt := topS 62
abbrev N_law_sign : List Str := ["draws", "often", "chars"]
theorem sc_law_sign : FnScope N_law_sign ["draws", "often"] (defScope s_law_sign) := ⟨rfl, rfl, rfl, by decide +kernel, rfl, by decide +kernel, by decide +kernel⟩
abbrev s_law_change : Stmt := topS 63
abbrev N_law_change : List Str := ["draws", "text", "kind", "at", "sign", "end", "more"]
theorem sc_law_change : FnScope N_law_change ["draws", "text"] (defScope s_law_change) := ⟨rfl, rfl, rfl, by decide +kernel, rfl, by decide +kernel, by decide +kernel⟩
abbrev s_law_outcome : Stmt := topS 64
abbrev N_law_outcome : List Str := ["text", "names", "e"]
theorem sc_law_outcome : FnScope N_law_outcome ["text", "names"] (defScope s_law_outcome) := ⟨rfl, rfl, rfl, by decide +kernel, rfl, by decide +kernel, by decide +kernel⟩
abbrev s_law : Stmt := topS 65
abbrev N_law : List Str := ["script", "draws", "names", "text", "k"]
theorem sc_law : FnScope N_law ["script"] (defScope s_law) := ⟨rfl, rfl, rfl, by decide +kernel, rfl, by decide +kernel, by decide +kernel⟩
abbrev s_FormulaSyntaxError_init : Stmt := inClass (topS 7) 0
abbrev N_FormulaSyntaxError_init : List Str := ["self", "position"]
theorem sc_FormulaSyntaxError_init : Sup.ScZ N_FormulaSyntaxError_init ["self", "position"] (defScope s_FormulaSyntaxError_init) := Sup.ScZ.by2 rfl rfl rfl (by decide +kernel) rfl (by decide +kernel) (by decide +kernel) (by decide +kernel) rfl rfl
abbrev s_DuplicateSignal_init : Stmt := inClass (topS 8) 0
abbrev N_DuplicateSignal_init : List Str := ["self", "name"]
theorem sc_DuplicateSignal_init : Sup.ScZ N_DuplicateSignal_init ["self", "name"] (defScope s_DuplicateSignal_init) := Sup.ScZ.by2 rfl rfl rfl (by decide +kernel) rfl (by decide +kernel) (by decide +kernel) (by decide +kernel) rfl rfl
abbrev s_UnknownSignal_init : Stmt := inClass (topS 9) 0
abbrev N_UnknownSignal_init : List Str := ["self", "name"]
theorem sc_UnknownSignal_init : Sup.ScZ N_UnknownSignal_init ["self", "name"] (defScope s_UnknownSignal_init) := Sup.ScZ.by2 rfl rfl rfl (by decide +kernel) rfl (by decide +kernel) (by decide +kernel) (by decide +kernel) rfl rfl
abbrev s_Reader_init : Stmt := inClass (topS 45) 0
abbrev N_Reader_init : List Str := ["self", "text", "kind", "sign"]
theorem sc_Reader_init : FnScope N_Reader_init ["self", "text"] (defScope s_Reader_init) := ⟨rfl, rfl, rfl, by decide +kernel, rfl, by decide +kernel, by decide +kernel⟩
abbrev s_Reader_peek : Stmt := inClass (topS 45) 1
abbrev N_Reader_peek : List Str := ["self"]
theorem sc_Reader_peek : FnScope N_Reader_peek ["self"] (defScope s_Reader_peek) := ⟨rfl, rfl, rfl, by decide +kernel, rfl, by decide +kernel, by decide +kernel⟩
abbrev s_Reader_take : Stmt := inClass (topS 45) 2
abbrev N_Reader_take : List Str := ["self", "kind", "found", "characters", "position"]
theorem sc_Reader_take : FnScope N_Reader_take ["self", "kind"] (defScope s_Reader_take) := ⟨rfl, rfl, rfl, by decide +kernel, rfl, by decide +kernel, by decide +kernel⟩
abbrev s_Reader_read_all : Stmt := inClass (topS 45) 3
abbrev N_Reader_read_all : List Str := ["self", "quantifier", "hidden", "formula"]
theorem sc_Reader_read_all : FnScope N_Reader_read_all ["self"] (defScope s_Reader_read_all) := ⟨rfl, rfl, rfl, by decide +kernel, rfl, by decide +kernel, by decide +kernel⟩
abbrev s_Reader_read_hidden : Stmt := inClass (topS 45) 4
abbrev N_Reader_read_hidden : List Str := ["self", "hidden"]
theorem sc_Reader_read_hidden : FnScope N_Reader_read_hidden ["self"] (defScope s_Reader_read_hidden) := ⟨rfl, rfl, rfl, by decide +kernel, rfl, by decide +kernel, by decide +kernel⟩
abbrev s_Reader_read_formula : Stmt := inClass (topS 45) 5
abbrev N_Reader_read_formula : List Str := ["self", "level", "parts", "operators"]
theorem sc_Reader_read_formula : FnScope N_Reader_read_formula ["self", "level"] (defScope s_Reader_read_formula) := ⟨rfl, rfl, rfl, by decide +kernel, rfl, by decide +kernel, by decide +kernel⟩
abbrev s_Reader_read_unary : Stmt := inClass (topS 45) 6
abbrev N_Reader_read_unary : List Str := ["self", "signs", "formula", "sign"]
theorem sc_Reader_read_unary : FnScope N_Reader_read_unary ["self"] (defScope s_Reader_read_unary) := ⟨rfl, rfl, rfl, by decide +kernel, rfl, by decide +kernel, by decide +kernel⟩
abbrev s_Reader_read_atom : Stmt := inClass (topS 45) 7
abbrev N_Reader_read_atom : List Str := ["self", "formula"]
theorem sc_Reader_read_atom : FnScope N_Reader_read_atom ["self"] (defScope s_Reader_read_atom) := ⟨rfl, rfl, rfl, by decide +kernel, rfl, by decide +kernel, by decide +kernel⟩
structure Has (K : PySem.W.Frag) (mg : Str → Option Value) (x : Str) (st : Stmt) (ps : List Str) : Prop where
  ex : ∃ (f : Addr) (fd : FuncData), L2.Fun K x x st f fd ∧ mg x = some (.ref f) ∧ Binds K fd ps []
structure Txt (K : PySem.W.Frag) (mg : Str → Option Value) (w : World) (P : Program) : Prop where
  h_decimal : Has K mg "decimal" s_decimal ["number"]
  h_operands : Has K mg "operands" s_operands ["formula"]
  h_subformulas : Has K mg "subformulas" s_subformulas ["formula"]
  h_count_operators : Has K mg "count_operators" s_count_operators ["formula", "kinds"]
  h_temporal_count : Has K mg "temporal_count" s_temporal_count ["formula"]
  h_depth : Has K mg "depth" s_depth ["formula"]
  h_word_at : Has K mg "word_at" s_word_at ["text", "at"]
  h_is_reserved : Has K mg "is_reserved" s_is_reserved ["word"]
  h_parse_property : Has K mg "parse_property" s_parse_property ["text", "names"]
  h_check_names : Has K mg "check_names" s_check_names ["hidden", "formula", "names"]
  h_check_bounds : Has K mg "check_bounds" s_check_bounds ["hidden", "formula"]
  h_split_tokens : Has K mg "split_tokens" s_split_tokens ["text"]
  h_token_at : Has K mg "token_at" s_token_at ["text", "at"]
  h_fold : Has K mg "fold" s_fold ["operators", "parts"]
  h_fold_left : Has K mg "fold_left" s_fold_left ["operators", "parts"]
  h_fold_right : Has K mg "fold_right" s_fold_right ["operators", "parts"]
  h_law_draws : Has K mg "_law_draws" s_law_draws ["script", "count"]
  h_law_take : Has K mg "_law_take" s_law_take ["draws", "limit"]
  h_law_is_integer : Has K mg "_law_is_integer" s_law_is_integer ["actual"]
  h_law_name : Has K mg "_law_name" s_law_name ["draws", "k"]
  h_law_names : Has K mg "_law_names" s_law_names ["draws", "count"]
  h_law_leaf : Has K mg "_law_leaf" s_law_leaf ["draws", "names"]
  h_law_formula : Has K mg "_law_formula" s_law_formula ["draws", "names", "budget", "deep"]
  h_law_property : Has K mg "_law_property" s_law_property ["draws", "names", "budget", "deep", "share"]
  h_law_print : Has K mg "_law_print" s_law_print ["formula"]
  h_law_print_property : Has K mg "_law_print_property" s_law_print_property ["prop"]
  h_law_token_end : Has K mg "_law_token_end" s_law_token_end ["text", "at"]
  h_law_tokens : Has K mg "_law_tokens" s_law_tokens ["text"]
  h_law_is_name : Has K mg "_law_is_name" s_law_is_name ["word"]
  h_law_begin : Has K mg "_law_begin" s_law_begin ["tokens"]
  h_law_fault : Has K mg "_law_fault" s_law_fault ["text"]
  h_law_sign : Has K mg "_law_sign" s_law_sign ["draws", "often"]
  h_law_change : Has K mg "_law_change" s_law_change ["draws", "text"]
  h_law_outcome : Has K mg "_law_outcome" s_law_outcome ["text", "names"]
  z_ValueError : mg "ValueError" = none
  z_abs : mg "abs" = none
  z_bool : mg "bool" = none
  z_int : mg "int" = none
  z_isinstance : mg "isinstance" = none
  z_len : mg "len" = none
  z_list : mg "list" = none
  z_max : mg "max" = none
  z_min : mg "min" = none
  z_range : mg "range" = none
  z_str : mg "str" = none
  z_tuple : mg "tuple" = none
  z_zip : mg "zip" = none
  er : (∃ (aQ aN aF aP aG aA : Addr), GloT K mg "QUANTIFIERS" ["exists", "forall"] aQ ∧ GloT K mg "CONSTANTS" ["true", "false"] aN ∧ GloT K mg "FUTURE" Tr.future aF ∧ GloT K mg "PAST" Tr.past aP ∧ GloT K mg "SIGNS" ["<->", "->", "!", "&", "|", "(", ")", ",", ":", "X", "F", "G", "U", "W", "R", "Y", "Z", "O", "H", "S", "T"] aG ∧ GloT K mg "ASSOCIATE_TO_THE_LEFT" ["|", "&"] aA) ∧ (∃ (tk1 tk2 : Tok), mg "LOWER_CASE" = some (.str "abcdefghijklmnopqrstuvwxyz" tk1) ∧ mg "DIGITS" = some (.str "0123456789" tk2)) ∧ (∃ (C fI fP fT fA fH fF fU fO : Addr) (fdI fdP fdT fdA fdH fdF fdU fdO : FuncData), RdrC K C ∧ Mk K C fI ∧ mg "Reader" = some (.ref C) ∧ L2.Fun K "__init__" "Reader.__init__" s_Reader_init fI fdI ∧ Binds K fdI ["self", "text"] [] ∧ Meth K C "peek" fP ∧ L2.Fun K "peek" "Reader.peek" s_Reader_peek fP fdP ∧ Binds K fdP ["self"] [] ∧ Meth K C "take" fT ∧ L2.Fun K "take" "Reader.take" s_Reader_take fT fdT ∧ Binds K fdT ["self", "kind"] [] ∧ Meth K C "read_all" fA ∧ L2.Fun K "read_all" "Reader.read_all" s_Reader_read_all fA fdA ∧ Binds K fdA ["self"] [] ∧ Meth K C "read_hidden" fH ∧ L2.Fun K "read_hidden" "Reader.read_hidden" s_Reader_read_hidden fH fdH ∧ Binds K fdH ["self"] [] ∧ Meth K C "read_formula" fF ∧ L2.Fun K "read_formula" "Reader.read_formula" s_Reader_read_formula fF fdF ∧ Binds K fdF ["self", "level"] [] ∧ Meth K C "read_unary" fU ∧ L2.Fun K "read_unary" "Reader.read_unary" s_Reader_read_unary fU fdU ∧ Binds K fdU ["self"] [] ∧ Meth K C "read_atom" fO ∧ L2.Fun K "read_atom" "Reader.read_atom" s_Reader_read_atom fO fdO ∧ Binds K fdO ["self"] []) ∧ (∃ aR : Addr, mg "PREFIX_SIGNS" = some (.ref aR) ∧ Kt7.KIt K w aR preL) ∧ (∃ aI : Addr, mg "INFIX_SIGNS" = some (.ref aI) ∧ Kt7.KIt K w aI infL) ∧ (∃ aL : Addr, mg "LEVELS" = some (.ref aL) ∧ ∃ bs : List Addr, bs.length = 5 ∧ (∀ H, SqT K H aL (bs.map V.ref)) ∧ ∀ l, l < 5 → ∃ b, bs[l]? = some b ∧ ∀ H, SqT K H b ((levL.getD l []).map V.str)) ∧ (∃ (tm1 tm2 tm3 tm4 tm5 tm6 : Tok), mg "MOST_CHARACTERS" = some (.int 200 tm1) ∧ mg "MOST_PARENTHESES" = some (.int 20 tm2) ∧ mg "MOST_HIDDEN" = some (.int 3 tm3) ∧ mg "MOST_DEPTH" = some (.int 100 tm4) ∧ mg "MOST_TEMPORAL" = some (.int 8 tm5) ∧ mg "MOST_DOUBLING" = some (.int 6 tm6)) ∧ (∃ (cT cD fD cU fU : Addr) (fdD fdU : FuncData), ErrC K mg "TooLarge" cT ∧ Sup.InitK P K mg "DuplicateSignal" cD fD "__init__" "DuplicateSignal.__init__" (defArgs s_DuplicateSignal_init) (defBody s_DuplicateSignal_init) (defScope s_DuplicateSignal_init) fdD ∧ XfC K cD ∧ PySem.W.findIn K (.ref cD) "name" = some none ∧ Sup.InitK P K mg "UnknownSignal" cU fU "__init__" "UnknownSignal.__init__" (defArgs s_UnknownSignal_init) (defBody s_UnknownSignal_init) (defScope s_UnknownSignal_init) fdU ∧ XfC K cU ∧ PySem.W.findIn K (.ref cU) "name" = some none ∧ ExcC K cT ∧ PySem.W.kitOne K (.ref cT) (.type "ValueError") = some true ∧ PySem.W.exmOne K (.ref cD) (.ref cD) = some true ∧ PySem.W.exmOne K (.ref cU) (.ref cD) = some false ∧ PySem.W.exmOne K (.ref cU) (.ref cU) = some true ∧ PySem.W.exmOne K (.ref cT) (.ref cD) = some false ∧ PySem.W.exmOne K (.ref cT) (.ref cU) = some false) ∧ (∃ (cF fF9 cS : Addr) (fdF9 : FuncData) (tk7 : Tok), Sup.InitK P K mg "FormulaSyntaxError" cF fF9 "__init__" "FormulaSyntaxError.__init__" (defArgs s_FormulaSyntaxError_init) (defBody s_FormulaSyntaxError_init) (defScope s_FormulaSyntaxError_init) fdF9 ∧ ExcC K cF ∧ PySem.W.findIn K (.ref cF) "position" = some none ∧ mg "SynthError" = some (.ref cS) ∧ mg "PIECE" = some (.int 1000000000000000000 tk7) ∧ PySem.W.kitOne K (.ref cF) (.type "ValueError") = some true ∧ PySem.W.exmOne K (.ref cF) (.ref cF) = some true ∧ ∀ cT cD cU : Addr, mg "TooLarge" = some (.ref cT) → mg "DuplicateSignal" = some (.ref cD) → mg "UnknownSignal" = some (.ref cU) → PySem.W.exmOne K (.ref cT) (.ref cF) = some false ∧ PySem.W.exmOne K (.ref cD) (.ref cF) = some false ∧ PySem.W.exmOne K (.ref cU) (.ref cF) = some false ∧ PySem.W.exmOne K (.ref cT) (.ref cS) = some true ∧ PySem.W.exmOne K (.ref cD) (.ref cS) = some true ∧ PySem.W.exmOne K (.ref cU) (.ref cS) = some true)

-- BODY
def spLaw (K : PySem.W.Frag) : Sp := fun vs H Q _ => ∃ (a : Addr) (ns : List Int), vs = [.ref a] ∧ SqL K H a (ns.map V.int) ∧ ns.length ≤ 63 ∧ ∀ H', Q (.bl true) H'
section
variable {P : Program} {w : World} {K : PySem.W.Frag} {mg : Str → Option Value} {base : Heap}
abbrev tLC : Str := "abcdefghijklmnopqrstuvwxyz"
abbrev tDG : Str := "0123456789"
def okW (f : Bool) (c : Nat) : Bool := decide (c ∈ tLC.cps.toList) || (!f && decide (c ∈ tDG.cps.toList))
/-- a word of s stands from a up to e -/
def WordTo (s : Str) (a e : Nat) : Prop := a ≤ e ∧ e ≤ s.length ∧ (∀ i, a ≤ i → i < e → ∀ c, s.cps.toList[i]? = some c → okW (decide (i = a)) c = true) ∧ ∀ c, s.cps.toList[e]? = some c → okW (decide (e = a)) c = false
def spWat : Sp := fun vs H Q _ => ∃ (s : Str) (a : Nat), vs = [.str s, .int a] ∧ s.length ≤ sizeLine ∧ a ≤ s.length ∧ ∀ e : Nat, WordTo s a e → Q (.str (cutS s (some (a : Int)) (some (e : Int)))) H
theorem gloS (T : Txt K mg w P) : ∃ tk1 tk2 : Tok, mg "LOWER_CASE" = some (.str tLC tk1) ∧ mg "DIGITS" = some (.str tDG tk2) := by
  exact T.er.2.1
theorem cal_wat (T : Txt K mg w P) : C8.Cal P w K mg base 1 "word_at" spWat [] := by
  obtain ⟨tk1, tk2, gLC, gDI⟩ := gloS T
  obtain ⟨f, fd, F, hm, hb⟩ := T.h_word_at
  refine ⟨f, fd, _, [], F.ok sc_word_at (fun vs H Q E h => ?_) (fun cdv A outer s H vs Q E hr h => ?_), hm, F.kp, hb, .nil⟩
  · obtain ⟨s, a, rfl, _⟩ := h
    rfl
  · obtain ⟨t, a, rfl, hz, ha, q⟩ := h
    refine ⟨_, (pss_cons
      (ps_set (i := 2) sc_word_at.nd rfl (Or.inl rfl) (pv 1))
      (C8.pss_cut
      (ps_while PassesOwn.never (PW.pt (pw_and (pt_cmpR op_lt (pv 2) (pe_callB call_len_str (by rfl) T.z_len PySem.boot_len (pa_cons (pv 0) pa_nil)) (nomark _)) (pw_and1 (PW.pt (pw_or (pt_cmpR op_in_sign (pe_ix ix_str (pv 0) (pv 2) (fun _ _ => rfl)) (pe_glob (v := .str "abcdefghijklmnopqrstuvwxyz") (by rfl) gLC ⟨_, rfl⟩) (by rfl)) (pw_or1 (PW.pt (pw_and (pt_cmpR op_gt (pv 2) (pv 1) (nomark _)) (pw_and1 (pt_cmpR op_in_sign (pe_ix ix_str (pv 0) (pv 2) (fun _ _ => rfl)) (pe_glob (v := .str "0123456789") (by rfl) gDI ⟨_, rfl⟩) (by rfl))))))))))) (pss_one
      (ps_aug (i := 2) sc_word_at.nd rfl (.inl rfl) pe_int ip_add)))
      (pss_one
      (ps_ret (pe_slice sl_str (pv 0) (po_some (pv 1)) (po_some (pv 2))))))), ?_⟩
    have htl : t.cps.toList.length = t.length := by rw [Array.length_toList]; rfl
    refine ⟨_, rfl, ?_⟩
    refine ⟨fun σ H' => ∃ e : Nat, σ = [some (.str t), some (.int a), some (.int e)] ∧ H' = H ∧ WordTo t a e, ?_, ?_⟩
    · refine ⟨fun m σ H' => ∃ e : Nat, m = t.length - e ∧ σ = [some (.str t), some (.int a), some (.int e)] ∧ H' = H ∧ a ≤ e ∧ e ≤ t.length ∧ (∀ i, a ≤ i → i < e → ∀ c, t.cps.toList[i]? = some c → okW (decide (i = a)) c = true), ⟨_, a, rfl, rfl, rfl, Nat.le_refl _, ha, fun i h1 h2 => absurd h2 (Nat.not_lt.mpr h1)⟩, ?_⟩
      rintro m σ H' ⟨e, rfl, rfl, rfl, h1, h2, h3⟩
      refine ⟨_, rfl, _, rfl, t, rfl, hz, _, _, rfl, rfl, _, rfl, ?_⟩
      have go : ∀ c, t.cps.toList[e]? = some c → okW (decide (e = a)) c = true → ∀ (i : Nat), a ≤ i → i < e + 1 → ∀ c, t.cps.toList[i]? = some c → okW (decide (i = a)) c = true := fun c hc hk i i1 i2 c' hc' => by
        by_cases z : i = e
        · rw [z] at hc' ⊢
          rw [hc] at hc'
          cases hc'
          exact hk
        · exact h3 i i1 (by omega) c' hc'
      by_cases hlt : e < t.length
      · rw [decide_eq_true (show (e : Int) < (t.length : Int) by omega)]
        refine iteT ?_
        obtain ⟨c, hc⟩ : ∃ c, t.cps.toList[e]? = some c := ⟨_, List.getElem?_eq_getElem (by rw [htl]; exact hlt)⟩
        have hat : atI t.cps.toList (e : Int) = some c := atI_nat hc
        refine ⟨_, rfl, _, rfl, t, (e : Int), c, rfl, rfl, hz, hat, c, tLC, rfl, rfl, _, rfl, ?_⟩
        by_cases k1 : c ∈ tLC.cps.toList
        · rw [decide_eq_true k1]
          refine iteT ?_
          refine iteT ?_
          exact ⟨fun σ' H2 => σ' = [some (.str t), some (.int a), some (.int ((e + 1 : Nat) : Int))] ∧ H2 = H', fun σ' H2 ⟨z1, z2⟩ => ⟨t.length - (e + 1), by omega, e + 1, rfl, z1, z2, by omega, by omega, go c hc (by unfold okW; rw [decide_eq_true k1]; rfl)⟩, _, rfl, _, _, rfl, rfl, rfl, rfl⟩
        · rw [decide_eq_false k1]
          refine iteF ?_
          have out : okW (decide (e = a)) c = false → WordTo t a e := fun hk => ⟨h1, h2, h3, fun c' hc' => by rw [hc] at hc'; cases hc'; exact hk⟩
          refine ⟨_, rfl, _, rfl, _, _, rfl, rfl, _, rfl, ?_⟩
          by_cases k2 : a < e
          · rw [decide_eq_true (show (a : Int) < (e : Int) by omega)]
            refine iteT ?_
            refine ⟨_, rfl, _, rfl, t, (e : Int), c, rfl, rfl, hz, hat, c, tDG, rfl, rfl, _, rfl, ?_⟩
            by_cases k3 : c ∈ tDG.cps.toList
            · rw [decide_eq_true k3]
              refine iteT ?_
              exact ⟨fun σ' H2 => σ' = [some (.str t), some (.int a), some (.int ((e + 1 : Nat) : Int))] ∧ H2 = H', fun σ' H2 ⟨z1, z2⟩ => ⟨t.length - (e + 1), by omega, e + 1, rfl, z1, z2, by omega, by omega, go c hc (by unfold okW; rw [decide_eq_false k1, decide_eq_true k3, decide_eq_false (show ¬ e = a by omega)]; rfl)⟩, _, rfl, _, _, rfl, rfl, rfl, rfl⟩
            · rw [decide_eq_false k3]
              refine iteF ⟨e, rfl, rfl, out ?_⟩
              unfold okW
              rw [decide_eq_false k1, decide_eq_false k3]
              simp
          · rw [decide_eq_false (show ¬ (a : Int) < (e : Int) by omega)]
            refine iteF (iteF ⟨e, rfl, rfl, out ?_⟩)
            unfold okW
            rw [decide_eq_false k1, decide_eq_true (show e = a by omega)]
            rfl
      · rw [decide_eq_false (show ¬ (e : Int) < (t.length : Int) by omega)]
        refine iteF (iteF ⟨e, rfl, rfl, h1, h2, h3, fun c hc => ?_⟩)
        have := (List.getElem?_eq_some_iff.mp hc).1
        rw [htl] at this
        omega
    · rintro σ H' ⟨e, rfl, rfl, hw⟩
      exact ⟨_, rfl, _, rfl, _, rfl, _, rfl, _, rfl, t, rfl, hz, q e hw⟩
theorem cutS_take (s : Str) (e : Nat) : cutS s (some ((0 : Nat) : Int)) (some (e : Int)) = ⟨(s.cps.toList.take (min e s.length)).toArray⟩ := by
  unfold cutS
  rw [HT.sIx_nat, HT.sIx_nat]
  simp
def wholeW (l : List Nat) : Bool := match l with | [] => false | c :: r => okW true c && r.all (okW false)
def resW (s : Str) : Bool := decide (s ∈ (["true", "false"] : List Str)) || decide (s ∈ (["exists", "forall"] : List Str))
/-- the text is the name of a signal -/
def nameOk (s : Str) : Bool := wholeW s.cps.toList && !resW s
theorem wholeW_iff {l : List Nat} (h : l ≠ []) : wholeW l = true ↔ ∀ i c, l[i]? = some c → okW (decide (i = 0)) c = true := by
  cases l with
  | nil => exact absurd rfl h
  | cons c r =>
    unfold wholeW
    dsimp only
    rw [Bool.and_eq_true, List.all_eq_true]
    constructor
    · rintro ⟨a, b⟩ i c' hc
      cases i with
      | zero => cases hc; exact a
      | succ i =>
        rw [decide_eq_false (Nat.succ_ne_zero i)]
        exact b c' (List.mem_of_getElem? hc)
    · intro k
      refine ⟨k 0 c rfl, fun x hx => ?_⟩
      obtain ⟨i, hi⟩ := List.mem_iff_getElem?.mp hx
      have := k (i + 1) x hi
      rwa [decide_eq_false (Nat.succ_ne_zero i)] at this
theorem str_len (s : Str) : s.cps.toList.length = s.length := by rw [Array.length_toList]; rfl
theorem word_whole {s : Str} {e : Nat} (hne : s.cps.toList ≠ []) (hw : WordTo s 0 e) : decide (V.str (cutS s (some ((0 : Nat) : Int)) (some (e : Int))) = V.str s) = wholeW s.cps.toList := by
  obtain ⟨_, h2, h3, h4⟩ := hw
  rw [cutS_take]
  by_cases c : e = s.length
  · subst c
    rw [Nat.min_self, ← str_len, List.take_length, Array.toArray_toList]
    rw [decide_eq_true rfl]
    refine (((wholeW_iff hne).mpr fun i c hc => ?_)).symm
    exact h3 i (Nat.zero_le _) (by have := (List.getElem?_eq_some_iff.mp hc).1; rw [str_len] at this; exact this) c hc
  · have hlt : e < s.cps.toList.length := by rw [str_len]; omega
    have hk := h4 _ (List.getElem?_eq_getElem hlt)
    have hn : wholeW s.cps.toList = false := by
      cases z : wholeW s.cps.toList with
      | false => rfl
      | true =>
        have := (wholeW_iff hne).mp z e _ (List.getElem?_eq_getElem hlt)
        rw [this] at hk
        cases hk
    rw [hn]
    refine decide_eq_false fun z => ?_
    have := congrArg Str.length (V.str.inj z)
    have h5 : ((s.cps.toList.take (min e s.length)).toArray).size = s.length := this
    rw [List.size_toArray, List.length_take, str_len] at h5
    omega
def spRes : Sp := fun vs H Q _ => ∃ s : Str, vs = [.str s] ∧ Q (.bl (resW s)) H
theorem gloQ (T : Txt K mg w P) : ∃ aQ aN : Addr, GloT K mg "QUANTIFIERS" ["exists", "forall"] aQ ∧ GloT K mg "CONSTANTS" ["true", "false"] aN := by
  obtain ⟨⟨aQ, aN, aF, aP, aG, aA, g1, g2, _⟩, _⟩ := T.er
  exact ⟨aQ, aN, g1, g2⟩
theorem cal_res (T : Txt K mg w P) : C8.Cal P w K mg base 1 "is_reserved" spRes [] := by
  obtain ⟨aQ, aN, gQ, gN⟩ := gloQ T
  obtain ⟨f, fd, F, hm, hb⟩ := T.h_is_reserved
  refine ⟨f, fd, _, [], F.ok sc_is_reserved (fun vs H Q E h => ?_) (fun cdv A outer s H vs Q E hr h => ?_), hm, F.kp, hb, .nil⟩
  · obtain ⟨s, rfl, _⟩ := h
    rfl
  · obtain ⟨s, rfl, q⟩ := h
    refine ⟨_, (pss_one
      (ps_ret (pe_or (pe_cmpR (op_inK (K := K) rfl) (pv 0) (pe_glob (v := .ref aN) (by rfl) gN.g rfl) (by rfl)) (pe_one (pe_cmpR (op_inK (K := K) rfl) (pv 0) (pe_glob (v := .ref aQ) (by rfl) gQ.g rfl) (by rfl)))))), ?_⟩
    unfold resW at q
    refine ⟨_, rfl, aN, _, rfl, .inr (gN.q H), rfl, L2.flat_strs ["true", "false"], ?_⟩
    rw [in_strs]
    refine ⟨_, rfl, ?_⟩
    by_cases c : s ∈ (["true", "false"] : List Str)
    · rw [decide_eq_true c] at q ⊢
      exact iteT q
    · rw [decide_eq_false c] at q ⊢
      refine iteF ⟨_, rfl, aQ, _, rfl, .inr (gQ.q H), rfl, L2.flat_strs ["exists", "forall"], ?_⟩
      rw [in_strs]
      exact q
/-! ### tokens -/
def wlen : Bool → List Nat → Nat
  | _, [] => 0
  | f, c :: r => if okW f c = true then wlen false r + 1 else 0
theorem wlen_le : ∀ (f : Bool) (l : List Nat), wlen f l ≤ l.length
  | _, [] => Nat.le_refl _
  | f, c :: r => by
    unfold wlen
    have := wlen_le false r
    split
    · rw [List.length_cons]; omega
    · exact Nat.zero_le _
theorem wlen_at {s : Str} {a e : Nat} (h : WordTo s a e) : e = a + wlen true (s.cps.toList.drop a) := by
  obtain ⟨h1, h2, h3, h4⟩ := h
  have key : ∀ m i : Nat, m = e - i → a ≤ i → i ≤ e → wlen (decide (i = a)) (s.cps.toList.drop i) = e - i := by
    intro m
    induction m with
    | zero =>
      intro i hm hai hie
      obtain rfl : i = e := by omega
      rw [Nat.sub_self]
      cases hd : s.cps.toList.drop i with
      | nil => rfl
      | cons c r =>
        have hc : s.cps.toList[i]? = some c := by
          have : (s.cps.toList.drop i)[0]? = some c := by rw [hd]; rfl
          rwa [List.getElem?_drop, Nat.add_zero] at this
        unfold wlen
        rw [if_neg (by rw [h4 c hc]; exact Bool.false_ne_true)]
    | succ m ih =>
      intro i hm hai hie
      have hlt : i < s.cps.toList.length := by rw [str_len]; omega
      rw [List.drop_eq_getElem_cons hlt]
      unfold wlen
      rw [if_pos (h3 i hai (by omega) _ (List.getElem?_eq_getElem hlt))]
      have := ih (i + 1) (by omega) (by omega) (by omega)
      rw [decide_eq_false (show ¬ i + 1 = a by omega)] at this
      rw [this]
      omega
  have := key _ a rfl (Nat.le_refl _) h1
  rw [decide_eq_true rfl] at this
  omega
def tokOf (cs : List Nat) : Str × Str :=
  match sgnL.find? (fun s => decide (cs.take s.length = s.cps.toList)) with
  | some s => (s, s)
  | none => if wlen true cs = 0 then ("bad", "") else (if resW ⟨(cs.take (wlen true cs)).toArray⟩ = true then ⟨(cs.take (wlen true cs)).toArray⟩ else "name", ⟨(cs.take (wlen true cs)).toArray⟩)
structure Tk where
  k : Str
  c : Str
  p : Nat
inductive Tks : List Nat → Nat → List Tk → Prop
  | nil {p : Nat} : Tks [] p [⟨"end", "", p⟩]
  | sp {r : List Nat} {p : Nat} {ts : List Tk} : Tks r (p + 1) ts → Tks (32 :: r) p ts
  | bad {c : Nat} {r : List Nat} {p : Nat} : c ≠ 32 → (tokOf (c :: r)).1 = "bad" → Tks (c :: r) p [⟨"bad", (tokOf (c :: r)).2, p⟩]
  | tok {c : Nat} {r : List Nat} {p : Nat} {ts : List Tk} : c ≠ 32 → (tokOf (c :: r)).1 ≠ "bad" → Tks ((c :: r).drop (tokOf (c :: r)).2.length) (p + (tokOf (c :: r)).2.length) ts → Tks (c :: r) p (⟨(tokOf (c :: r)).1, (tokOf (c :: r)).2, p⟩ :: ts)
theorem tks_det : ∀ {cs : List Nat} {p : Nat} {ts : List Tk}, Tks cs p ts → ∀ {ts' : List Tk}, Tks cs p ts' → ts' = ts := by
  intro cs p ts h
  induction h with
  | nil => intro ts' h'; cases h'; rfl
  | sp h ih =>
    intro ts' h'
    cases h' with
    | sp h2 => exact ih h2
    | bad n _ => exact absurd rfl n
    | tok n _ _ => exact absurd rfl n
  | bad n e =>
    intro ts' h'
    cases h' with
    | sp h2 => exact absurd rfl n
    | bad _ _ => rfl
    | tok _ e2 _ => exact absurd e e2
  | tok n e h ih =>
    intro ts' h'
    cases h' with
    | sp h2 => exact absurd rfl n
    | bad _ e2 => exact absurd e2 e
    | tok _ _ h2 => rw [ih h2]
theorem sgn_len : ∀ s ∈ sgnL, 0 < s.length ∧ s ≠ "bad" := by decide +kernel
theorem arr_len (l : List Nat) : (⟨l.toArray⟩ : Str).length = l.length := by
  show l.toArray.size = _
  rw [List.size_toArray]
theorem tok_pos {cs : List Nat} (h : (tokOf cs).1 ≠ "bad") : 0 < (tokOf cs).2.length ∧ (tokOf cs).2.length ≤ cs.length := by
  unfold tokOf at h ⊢
  split
  · rename_i s hs
    have h1 := List.find?_some hs
    have h2 := sgn_len s (List.mem_of_find?_eq_some hs)
    refine ⟨h2.1, ?_⟩
    have h3 : cs.take s.length = s.cps.toList := by simpa using h1
    have h4 := congrArg List.length h3
    rw [List.length_take, str_len] at h4
    show s.length ≤ _
    omega
  · rename_i hn
    rw [hn] at h
    dsimp only at h
    have hw := wlen_le true cs
    split
    · rename_i hz
      rw [if_pos hz] at h
      exact absurd rfl h
    · rename_i hz
      dsimp only
      rw [arr_len, List.length_take]
      omega
/-! ### what the reader reads -/
def knd (kvs : List (Str × Str)) (s : Str) : Option Str := (kvs.find? fun p => decide (p.2 = s)).map (·.1)
def isPre (s : Str) : Bool := (knd preL s).isSome
def kndP (s : Str) : Str := (knd preL s).getD ""
def kndI (s : Str) : Str := (knd infL s).getD ""
def Atm (R : List Tk → Fm → List Tk → Prop) : List Tk → Fm → List Tk → Prop
  | [], _, _ => False
  | t :: r1, f, r => (t.k = "(" ∧ ∃ u, R r1 f (u :: r) ∧ u.k = ")") ∨ (t.k ≠ "(" ∧ t.k ∈ (["true", "false"] : List Str) ∧ f = .c0 t.c ∧ r = r1) ∨ (t.k ≠ "(" ∧ ¬ t.k ∈ (["true", "false"] : List Str) ∧ t.k = "name" ∧ f = .sg t.c ∧ r = r1)
/-- the signs in front, and what stands behind them -/
inductive Una (R : List Tk → Fm → List Tk → Prop) : List Tk → List Str → Fm → List Tk → Prop
  | nil {t : Tk} {ts r : List Tk} {f : Fm} : isPre t.k = false → Atm R (t :: ts) f r → Una R (t :: ts) [] f r
  | cons {t : Tk} {ts r : List Tk} {ss : List Str} {f : Fm} : isPre t.k = true → t.c = t.k → Una R ts ss f r → Una R (t :: ts) (t.c :: ss) f r
def wrp : List Str → Fm → Fm
  | [], f => f
  | s :: ss, f => .un (kndP s) (wrp ss f)
inductive Chn (R : List Tk → Fm → List Tk → Prop) (l : Nat) : List Tk → List Str → List Fm → List Tk → Prop
  | nil {t : Tk} {r : List Tk} : ¬ t.k ∈ levL.getD l [] → Chn R l (t :: r) [] [] (t :: r)
  | cons {t : Tk} {r1 r2 r : List Tk} {f : Fm} {ops : List Str} {fs : List Fm} : t.k ∈ levL.getD l [] → t.c = t.k → R r1 f r2 → Chn R l r2 ops fs r → Chn R l (t :: r1) (t.c :: ops) (f :: fs) r
def fldL : List Str → List Fm → Fm → Fm
  | o :: os, f :: fs, a => fldL os fs (.bin (kndI o) a f)
  | _, _, a => a
def fldR : List Str → Fm → List Fm → Fm
  | o :: os, f, g :: fs => .bin (kndI o) f (fldR os g fs)
  | _, f, _ => f
def fld (ops : List Str) (f : Fm) (fs : List Fm) : Fm := match ops with
  | [] => f
  | o :: _ => if o ∈ (["|", "&"] : List Str) then fldL ops fs f else fldR ops f fs
def RdF : Nat → Nat → List Tk → Fm → List Tk → Prop
  | 0, _, _, _, _ => False
  | n + 1, l, ts, f, r => (l = 5 ∧ ∃ ss g, Una (RdF n 0) ts ss g r ∧ f = wrp ss g) ∨ (l < 5 ∧ ∃ f1 r1 ops fs, RdF n (l + 1) ts f1 r1 ∧ Chn (RdF n (l + 1)) l r1 ops fs r ∧ f = fld ops f1 fs)
theorem rdf_up {n l : Nat} {ts r : List Tk} {t : Tk} {f : Fm} (hl : l < 5) (h : RdF n (l + 1) ts f (t :: r)) (ht : ¬ t.k ∈ levL.getD l []) : RdF (n + 1) l ts f (t :: r) :=
  .inr ⟨hl, f, t :: r, [], [], h, .nil ht, rfl⟩
theorem rdf_ups {ts r : List Tk} {t : Tk} {f : Fm} : ∀ (d n l : Nat), l + d ≤ 5 → RdF n (l + d) ts f (t :: r) → (∀ j, l ≤ j → j < l + d → ¬ t.k ∈ levL.getD j []) → RdF (n + d) l ts f (t :: r)
  | 0, n, l, _, h, _ => h
  | d + 1, n, l, hl, h, ht => by
    have h1 := rdf_ups d n (l + 1) (by omega) (by rw [show l + 1 + d = l + (d + 1) by omega]; exact h) (fun j a b => ht j (by omega) (by omega))
    exact rdf_up (by omega) h1 (ht l (Nat.le_refl _) (by omega))
/-- the hidden names up to the colon -/
inductive Hid : List Tk → List Str → List Tk → Prop
  | one {t u : Tk} {r : List Tk} : t.k = "name" → u.k = ":" → Hid (t :: u :: r) [t.c] r
  | more {t u : Tk} {r r' : List Tk} {hs : List Str} : t.k = "name" → u.k = "," → Hid r hs r' → Hid (t :: u :: r) (t.c :: hs) r'
def Rda (n : Nat) (ts : List Tk) (q : Str) (hs : List Str) (f : Fm) : Prop := ∃ (t u : Tk) (r : List Tk), ts = t :: r ∧ u.k = "end" ∧ ((¬ t.k ∈ (["exists", "forall"] : List Str) ∧ q = "" ∧ hs = [] ∧ ∃ r2, RdF n 0 ts f (u :: r2)) ∨
  (t.k ∈ (["exists", "forall"] : List Str) ∧ q = t.c ∧ ∃ r1 r2, Hid r hs r1 ∧ RdF n 0 r1 f (u :: r2)))
theorem cal_take (T : Txt K mg w P) : C8.Cal P w K mg base 1 "_law_take" spTake [] := by
  obtain ⟨f, fd, F, hm, hb⟩ := T.h_law_take
  refine ⟨f, fd, _, [], F.ok sc_law_take (fun vs H Q E h => ?_) (fun cdv A outer s H vs Q E hr h => ?_), hm, F.kp, hb, .nil⟩
  · obtain ⟨d, n, rfl, _⟩ := h
    rfl
  · obtain ⟨d, n, rfl, ⟨ds, hd⟩, hn, q⟩ := h
    refine ⟨_, (pss_cons
      (ps_if (pt_cmpR op_eq (pe_callB (call_lenK (K := K) rfl) (by rfl) T.z_len PySem.boot_len (pa_cons (pv 0) pa_nil)) pe_int (nomark _)) (pss_one
      (ps_ret pe_int)) pss_nil)
      (pss_one
      (ps_ret (pe_op op_mod (pe_callTy call_int1 (by rfl) T.z_int (by decide +kernel) (pa_cons (pe_bm0 PySem.F.plainAttrs_list PySem.F.slot_list_pop PySem.F.type_list_pop mt_pop (pv 0)) pa_nil)) (pv 1))))), ?_⟩
    walk_at "bx"
    refine ite2 (fun e => ?_) (fun e => ?_)
    · have q0 := q 0 ds (Int.le_refl 0) hn
      rw [upd_self hd] at q0
      exact q0
    · have hne : ds ≠ [] := fun z => e (by rw [z]; rfl)
      refine ⟨_, rfl, .inl ⟨rfl, _, SqL.of hd⟩, d, _, .int (ds.getLast hne), rfl, rfl, hd, ?_, ?_⟩
      · rw [List.length_map, List.getElem?_map, ← List.getLast?_eq_getElem?, List.getLast?_eq_getLast hne]
        rfl
      · walk_at "bx"
        rw [← List.map_dropLast]
        exact q _ _ (Int.emod_nonneg _ (by omega)) (Int.emod_lt_of_pos _ hn)
theorem cal_draws (T : Txt K mg w P) : C8.Cal P w K mg base 1 "_law_draws" (spDraws K) [] := by
  obtain ⟨f, fd, F, hm, hb⟩ := T.h_law_draws
  refine ⟨f, fd, _, [], F.ok sc_law_draws (fun vs H Q E h => ?_) (fun cdv A outer s H vs Q E hr h => ?_), hm, F.kp, hb, .nil⟩
  · obtain ⟨a, ns, c, rfl, _⟩ := h
    rfl
  · obtain ⟨a, ns, n, rfl, hS, hn, q⟩ := h
    refine ⟨_, (pss_cons
      (ps_set (i := 2) sc_law_draws.nd rfl (Or.inl rfl) (pe_callTy (call_list_ofK (K := K) rfl) (by rfl) T.z_list (by decide +kernel) (pa_cons (pv 0) pa_nil)))
      (C8.pss_cut
      (ps_if (pt_cmpR op_eq (pe_callB (call_lenK (K := K) rfl) (by rfl) T.z_len PySem.boot_len (pa_cons (pv 2) pa_nil)) pe_int (nomark _)) (pss_one
      (ps_set (i := 2) sc_law_draws.nd rfl (Or.inl rfl) (pe_lst (pa_cons pe_int pa_nil)))) pss_nil)
      (pss_cons
      (ps_set (i := 3) sc_law_draws.nd rfl (Or.inl rfl) (pe_lst pa_nil))
      (pss_cons
      (ps_set (i := 4) sc_law_draws.nd rfl (Or.inl rfl) pe_int)
      (pss_cons
      (ps_for PassesOwn.never rfl (pi_range1 (by rfl) T.z_range (pa_cons (pv 1) pa_nil)) (pg_name (i := 5) sc_law_draws.nd rfl (.inl rfl)) (pss_cons
      (ps_set (i := 6) sc_law_draws.nd rfl (Or.inl rfl) (pe_op op_mod (pv 5) (pe_callB (call_lenK (K := K) rfl) (by rfl) T.z_len PySem.boot_len (pa_cons (pv 2) pa_nil))))
      (pss_cons
      (ps_set (i := 7) sc_law_draws.nd rfl (Or.inl rfl) (pe_ix (ix_listK (K := K) rfl) (pv 2) (pv 6) (fun _ _ => rfl)))
      (pss_cons
      (ps_set (i := 4) sc_law_draws.nd rfl (Or.inl rfl) (pe_op op_mod (pe_callTy call_int1 (by rfl) T.z_int (by decide +kernel) (pa_cons (pe_op op_add (pe_op op_add (pe_op op_add (pe_op op_mul (pv 4) pe_int) (pe_op op_mul (pe_op op_mod (pe_callTy call_int1 (by rfl) T.z_int (by decide +kernel) (pa_cons (pv 7) pa_nil)) pe_int) pe_int)) (pe_op op_mul (pv 5) pe_int)) pe_int) pa_nil)) pe_int))
      (pss_cons
      (ps_set (i := 8) sc_law_draws.nd rfl (Or.inl rfl) (pe_op op_mod (pe_callTy call_int1 (by rfl) T.z_int (by decide +kernel) (pa_cons (pe_op op_add (pe_op op_add (pe_op op_mul (pv 4) (pv 4)) (pe_op op_mul pe_int (pv 4))) (pv 5)) pa_nil)) pe_int))
      (pss_one
      (ps_if (pt_cmpR op_ge (pv 7) (pe_op op_pow pe_int pe_int) (nomark _)) (pss_cons
      (ps_expr (pe_bm PySem.F.plainAttrs_list PySem.F.slot_list_append PySem.F.type_list_append mt_append (pv 3) (pa_cons (pe_op op_mod (pe_callTy call_int1 (by rfl) T.z_int (by decide +kernel) (pa_cons (pv 7) pa_nil)) pe_int) pa_nil)))
      (pss_one
      (ps_asg (pe_op op_fdiv (pv 7) pe_int) (pg_sub (pv 2) (pv 6) set_list)))) (pss_one
      (ps_expr (pe_bm PySem.F.plainAttrs_list PySem.F.slot_list_append PySem.F.type_list_append mt_append (pv 3) (pa_cons (pe_op op_mod (pe_callTy call_int1 (by rfl) T.z_int (by decide +kernel) (pa_cons (pv 8) pa_nil)) pe_int) pa_nil)))))))))))
      (pss_cons
      (ps_expr (pe_bm0 PySem.F.plainAttrs_list PySem.F.slot_list_reverse PySem.F.type_list_reverse mt_reverse (pv 3)))
      (pss_one
      (ps_ret (pv 3))))))))), ?_⟩
    -- cells = list(script)
    refine ⟨_, rfl, a, _, rfl, .inl hS, fun l hl => ?_⟩
    -- if len(cells) == 0: cells = [7]
    refine ⟨fun σ H2 => ∃ (c : Addr) (cs : List Int), σ = [some (.ref a), some (.int n), some (.ref c), none, none, none, none, none, none] ∧ H c = none ∧ Same H H2 ∧ H2 c = some (.lst (cs.map V.int)) ∧ cs ≠ [], ?_, ?_⟩
    · have h0 : (upd H l (.lst (ns.map V.int))) l = some (.lst (ns.map V.int)) := upd_same
      walk_at "bx"
      refine ite2 (fun e => ?_) (fun e => ?_)
      · refine ⟨by show 1 ≤ sizeLine; decide, fun l2 h2 => ?_⟩
        have s1 : Same H (upd H l (.lst (ns.map V.int))) := same_new hl
        exact ⟨l2, [7], rfl, s1.free h2, s1.trans (same_new h2), upd_same, by decide⟩
      · exact ⟨l, ns, rfl, hl, same_new hl, upd_same, fun z => e (by rw [z]; rfl)⟩
    · rintro σ H2 ⟨c, cs, rfl, hc0, s2, hc, hcs⟩
      -- found = [], mixed = 12345
      refine ⟨Nat.zero_le _, fun o ho => ?_⟩
      have hco : c ≠ o := ne_of_none hc ho
      have ho0 : H o = none := s2.free ho
      -- for k in range(count)
      refine ⟨_, rfl, _, rfl, by omega, by omega, for_range (lo := 0) (n := ((n : Int)).toNat) (fun i σ H3 => ∃ (m : Int) (cs fs : List Int) (v5 v6 v7 v8 : Option V), σ = [some (.ref a), some (.int n), some (.ref c), some (.ref o), some (.int m), v5, v6, v7, v8] ∧ 0 ≤ m ∧ m < 2147483647 ∧ Same H H3 ∧ H3 c = some (.lst (cs.map V.int)) ∧ cs ≠ [] ∧ H3 o = some (.lst (fs.map V.int)) ∧ fs.length ≤ i)
        ⟨12345, cs, [], none, none, none, none, rfl, by decide, by decide, s2.trans (same_new ho), by rw [upd_ne hco]; exact hc, hcs, upd_same, Nat.le_refl _⟩ ?_ ?_⟩
      · rintro i σ H3 hi ⟨m, cs, fs, v5, v6, v7, v8, rfl, m0, m1, s3, hc, hcs, hf, hfl⟩
        have hl : 0 < cs.length := List.length_pos_iff.mpr hcs
        obtain ⟨z, hz⟩ : ∃ z, cs[i % cs.length]? = some z := ⟨_, List.getElem?_eq_getElem (Nat.mod_lt _ hl)⟩
        have ej : ((0 : Int) + (i : Int)) % (((cs.map V.int).length : Nat) : Int) = ((i % cs.length : Nat) : Int) := by
          rw [Int.zero_add, List.length_map]
          rfl
        -- j = k % len(cells)
        walk_at "bx"
        refine ⟨(show (0 : Int) < _ by rw [List.length_map]; omega), ?_⟩
        -- cell = cells[j]
        refine ⟨_, rfl, _, rfl, c, _, _, .int z, rfl, rfl, SqL.of hc, ?_, ?_⟩
        · rw [ej]
          exact atI_nat (by rw [List.getElem?_map, hz]; rfl)
        -- mixed, again
        walk_at "bx"
        have b1 : (0 : Int) ≤ z % 1000003 := Int.emod_nonneg _ (by decide)
        refine ⟨.inl ⟨?_, ?_⟩, ?_⟩
        · have := Int.emod_nonneg (m * 48271 + z % 1000003 * 69621 + (0 + (i : Int)) * 7919 + 11) (show (2147483647 : Int) ≠ 0 by decide)
          show -(2 ^ 64) < (m * 48271 + z % 1000003 * 69621 + (0 + (i : Int)) * 7919 + 11) % 2147483647
          omega
        · have := Int.emod_lt_of_pos (m * 48271 + z % 1000003 * 69621 + (0 + (i : Int)) * 7919 + 11) (show (0 : Int) < 2147483647 by decide)
          show (m * 48271 + z % 1000003 * 69621 + (0 + (i : Int)) * 7919 + 11) % 2147483647 < 2 ^ 64
          omega
        have c0 : 0 ≤ (m * 48271 + z % 1000003 * 69621 + (0 + (i : Int)) * 7919 + 11) % 2147483647 := Int.emod_nonneg _ (by decide)
        have c1 : (m * 48271 + z % 1000003 * 69621 + (0 + (i : Int)) * 7919 + 11) % 2147483647 < 2147483647 := Int.emod_lt_of_pos _ (by decide)
        walk_at "bx"
        refine ite2 (fun e => ?_) (fun e => ?_)
        · walk_at "bx"
          refine ⟨lenI (by omega), ?_⟩
          walk_at "bx"
          refine ⟨c, cs.map V.int, _, i % cs.length, rfl, rfl, by rw [upd_ne hco]; exact hc, by rw [ej]; exact ixN_at (by rw [List.length_map]; exact Nat.mod_lt _ hl), ?_⟩
          refine ⟨_, cs.set (i % cs.length) (z / 1000), fs ++ [z % 1000], _, _, _, _, rfl, c0, c1, fun b o' hb => ?_, by rw [upd_same, set_mapI], by simpa using hcs, by rw [upd_ne hco.symm, upd_same]; simp, by simp; omega⟩
          rw [upd_ne (fun z => by rw [z, hc0] at hb; cases hb), upd_ne (fun z => by rw [z, ho0] at hb; cases hb)]
          exact s3 _ _ hb
        · walk_at "bx"
          refine ⟨lenI (by omega), ?_⟩
          refine ⟨_, cs, fs ++ [_], _, _, _, _, rfl, c0, c1, fun b o' hb => ?_, by rw [upd_ne hco]; exact hc, hcs, by rw [upd_same, List.map_append]; rfl, by simp; omega⟩
          rw [upd_ne (fun z => by rw [z, ho0] at hb; cases hb)]
          exact s3 _ _ hb
      · rintro σ H3 ⟨m, cs, fs, v5, v6, v7, v8, rfl, m0, m1, s3, hc, hcs, hf, hfl⟩
        -- found.reverse()
        walk_at "bx"
        refine q _ o (fun b o' hb => ?_) ho0 ⟨fs.reverse, ?_⟩
        · rw [upd_ne (fun z => by rw [z, ho0] at hb; cases hb)]
          exact s3 _ _ hb
        · rw [upd_same, List.map_reverse]
def unOps : List Str := ["not", "next", "eventually", "always", "previous", "weak_previous", "once", "historically"]
def binOps : List Str := ["and", "or", "implies", "iff", "until", "release", "since", "trigger", "weak_until"]
def Wo (nm : List Str) : Fm → Prop
  | .c0 k => k = "true" ∨ k = "false"
  | .sg s => s ∈ nm
  | .un k f => k ∈ unOps ∧ Wo nm f
  | .bin k f g => k ∈ binOps ∧ Wo nm f ∧ Wo nm g
theorem un_ne {k : Str} (h : k ∈ unOps) : k ≠ sSig := fun z => by
  subst z
  exact absurd h (by decide)
theorem bin_ne {k : Str} (h : k ∈ binOps) : k ≠ sSig := fun z => by
  subst z
  exact absurd h (by decide)
theorem Wo.wf {nm : List Str} : ∀ {f : Fm}, Wo nm f → Wf nm f
  | .c0 k, h => fun z => by
    subst z
    exact absurd (show sSig = "true" ∨ sSig = "false" from h) (by decide)
  | .sg s, h => h
  | .un k f, h => ⟨un_ne h.1, h.2.wf⟩
  | .bin k f g, h => ⟨bin_ne h.1, h.2.1.wf, h.2.2.wf⟩
abbrev sEnds : Str := "xqzjkvbw"
def EndsIn (s : Str) (k : Int) : Prop := ∃ c, atI sEnds.cps.toList k = some c ∧ s.cps.toList.getLast? = some c
theorem ends_app (x : Str) (c : Nat) : (x ++ (⟨#[c]⟩ : Str)).cps.toList.getLast? = some c := by
  show (x.cps ++ #[c]).toList.getLast? = some c
  simp
def NmG (s : Str) : Prop := nameOk s = true ∧ s.length ≤ 4 ∧ ∃ c ∈ sEnds.cps.toList, s.cps.toList.getLast? = some c
def spName : Sp := fun vs H Q _ => ∃ (d : Addr) (k : Int), vs = [.ref d, .int k] ∧ Drw H d ∧ 0 ≤ k ∧ k < 8 ∧ ∀ (H' : Hp) (s : Str), Kp d H H' → Drw H' d → PyData.strOk s = true → EndsIn s k → NmG s → Q (.str s) H'
def spNames : Sp := fun vs H Q _ => ∃ (d : Addr) (c : Int), vs = [.ref d, .int c] ∧ Drw H d ∧ 0 ≤ c ∧ c ≤ 8 ∧
  ∀ (H' : Hp) (p : Addr) (ss : List Str), Kp d H H' → Drw H' d → p ≠ d → H' p = some (.lst (ss.map V.str)) → ss.length = c.toNat → (∀ s ∈ ss, PyData.strOk s = true) → ss.Nodup → (∀ s ∈ ss, NmG s) → Q (.ref p) H'
def spLeaf (K : PySem.W.Frag) : Sp := fun vs H Q _ => ∃ (d n : Addr) (nm : List Str), vs = [.ref d, .ref n] ∧ Drw H d ∧ n ≠ d ∧ H n = some (.lst (nm.map V.str)) ∧ nm.length ≤ 30 ∧
  ∀ (H' : Hp) (v : V) (f : Fm), Kp d H H' → Drw H' d → FmAt K H' v f → Wo nm f → sz f ≤ 1 → Q v H'
def dpt : Fm → Nat
  | .c0 _ => 0
  | .sg _ => 0
  | .un _ f => dpt f + 1
  | .bin _ f g => max (dpt f) (dpt g) + 1
def Szd (f : Fm) (n : Nat) : Prop := sz f + 1 ≤ 2 ^ (n + 1) ∧ dpt f ≤ n
theorem szd_leaf {f : Fm} (h : sz f ≤ 1) (n : Nat) : Szd f n := by
  have h1 : 2 ≤ 2 ^ (n + 1) := by
    rw [Nat.pow_succ]
    have : 1 ≤ 2 ^ n := Nat.one_le_two_pow
    omega
  cases f with
  | c0 _ => exact ⟨h1, Nat.zero_le _⟩
  | sg _ => exact ⟨h1, Nat.zero_le _⟩
  | un _ f =>
    have := sz_pos f
    have h : sz f + 1 ≤ 1 := h
    omega
  | bin _ f g =>
    have := sz_pos f
    have h : sz f + sz g + 1 ≤ 1 := h
    omega
theorem szd_un {f : Fm} {n : Nat} (k : Str) (h : Szd f n) : Szd (.un k f) (n + 1) := by
  refine ⟨?_, Nat.succ_le_succ h.2⟩
  show sz f + 1 + 1 ≤ _
  have := h.1
  rw [Nat.pow_succ 2 (n + 1)]
  have : 1 ≤ 2 ^ (n + 1) := Nat.one_le_two_pow
  omega
theorem szd_bin {f g : Fm} {n : Nat} (k : Str) (h : Szd f n) (h' : Szd g n) : Szd (.bin k f g) (n + 1) := by
  refine ⟨?_, Nat.succ_le_succ (Nat.max_le.mpr ⟨h.2, h'.2⟩)⟩
  show sz f + sz g + 1 + 1 ≤ _
  have := h.1
  have := h'.1
  rw [Nat.pow_succ 2 (n + 1)]
  omega
theorem str_at {z : Str} {i : Int} (h0 : 0 ≤ i) (h1 : i < (z.length : Nat)) : ∃ c, atI z.cps.toList i = some c := by
  have h2 : i.toNat < z.cps.toList.length := by
    rw [Array.length_toList]
    show i.toNat < z.length
    omega
  refine ⟨z.cps.toList[i.toNat], ?_⟩
  have e : ((i.toNat : Nat) : Int) = i := by omega
  have r := atI_nat (List.getElem?_eq_getElem h2)
  rwa [e] at r
theorem pick_at {ss : List Str} {i : Int} (h0 : 0 ≤ i) (h1 : i < (ss.length : Nat)) : ∃ s, s ∈ ss ∧ atI (ss.map V.str) i = some (.str s) := by
  have h2 : i.toNat < ss.length := by omega
  refine ⟨ss[i.toNat], List.getElem_mem h2, ?_⟩
  have e : ((i.toNat : Nat) : Int) = i := by omega
  have r := atI_nat (xs := ss.map V.str) (v := .str ss[i.toNat]) (by rw [List.getElem?_map, List.getElem?_eq_getElem h2]; rfl)
  rwa [e] at r
theorem one_len {c : Nat} : (⟨#[c]⟩ : Str).length = 1 := rfl
theorem app_len (a b : Str) : (a ++ b).length = a.length + b.length := by
  show (a.cps ++ b.cps).size = _
  rw [Array.size_append]
  rfl
abbrev sChars : Str := "abcdefghijklmnopqrstuvwxyz0123456789"
theorem len_chars : sChars.length = 36 := by decide +kernel
theorem len_ends : sEnds.length = 8 := by decide +kernel
theorem ok_app {a b : Str} (ha : PyData.strOk a = true) (hb : PyData.strOk b = true) : PyData.strOk (a ++ b) = true := by
  show (a.cps ++ b.cps).all _ = true
  rw [Array.all_append]
  unfold PyData.strOk at ha hb
  rw [ha, hb]
  rfl
theorem ok_join {sep : Str} (hs : PyData.strOk sep = true) : ∀ xs : List Str, (∀ x ∈ xs, PyData.strOk x = true) → PyData.strOk (Str.join sep xs) = true
  | [], _ => by
    rw [Str.join]
    decide +kernel
  | [x], h => by
    rw [Str.join]
    exact h x List.mem_cons_self
  | x :: y :: rest, h => ok_app (ok_app (h x List.mem_cons_self) hs) (ok_join hs (y :: rest) fun z hz => h z (List.mem_cons_of_mem _ hz))
theorem ok_one {z : Str} {i : Int} {c : Nat} (hz : PyData.strOk z = true) (h : atI z.cps.toList i = some c) : PyData.strOk ⟨#[c]⟩ = true := by
  obtain ⟨j, _, _, _, hj, _⟩ := atI_get h
  have hm : c ∈ z.cps.toList := by
    first
    | exact List.mem_of_getElem? (by assumption)
    | exact List.mem_of_getElem? hj
  unfold PyData.strOk at hz ⊢
  rw [Array.all_eq_true_iff_forall_mem] at hz
  have := hz c (by simpa using hm)
  simpa using this
theorem ok_chars : PyData.strOk sChars = true := by decide +kernel
theorem ok_ends : PyData.strOk sEnds = true := by decide +kernel
theorem at_mem {z : Str} {i : Int} {c : Nat} (h : atI z.cps.toList i = some c) : c ∈ z.cps.toList := by
  obtain ⟨j, _, _, _, hj, _⟩ := atI_get h
  first
  | exact List.mem_of_getElem? (by assumption)
  | exact List.mem_of_getElem? hj
theorem join_all : ∀ {xs : List Str}, (∀ x ∈ xs, ∀ c ∈ x.cps.toList, c ∈ sChars.cps.toList) → ∀ c ∈ (Str.join (Str.ofString "") xs).cps.toList, c ∈ sChars.cps.toList
  | [], _, c, h => by
    rw [Str.join] at h
    exact absurd h (by show c ∉ ([] : List Nat); simp)
  | [x], hx, c, h => by
    rw [Str.join] at h
    exact hx x List.mem_cons_self c h
  | x :: y :: rest, hx, c, h => by
    have h : c ∈ (x ++ Str.ofString "" ++ Str.join (Str.ofString "") (y :: rest)).cps.toList := h
    have e : ∀ a b : Str, (a ++ b).cps.toList = a.cps.toList ++ b.cps.toList := fun a b => by
      show (a.cps ++ b.cps).toList = _
      rw [Array.toList_append]
    rw [e, e, List.mem_append, List.mem_append] at h
    rcases h with (h | h) | h
    · exact hx x List.mem_cons_self c h
    · exact absurd h (by show c ∉ ([] : List Nat); simp)
    · exact join_all (fun z hz => hx z (List.mem_cons_of_mem _ hz)) c h
theorem chars_ok : ∀ c ∈ sChars.cps.toList, okW false c = true := by decide +kernel
theorem chars_lc : ∀ c ∈ sChars.cps.toList.take 26, okW true c = true := by decide +kernel
theorem ends_ok : ∀ c ∈ sEnds.cps.toList, okW false c = true := by decide +kernel
theorem ends_res : ∀ w ∈ (["true", "false", "exists", "forall"] : List Str), ∀ c ∈ sEnds.cps.toList, w.cps.toList.getLast? ≠ some c := by decide +kernel
theorem lc_at {u : Int} {c : Nat} (h0 : 0 ≤ u) (h1 : u < 26) (h : atI sChars.cps.toList u = some c) : okW true c = true := by
  refine chars_lc c ?_
  have hl : u.toNat < sChars.cps.toList.length := Nat.lt_of_lt_of_le (show u.toNat < 26 by omega) (by decide +kernel)
  have e : ((u.toNat : Nat) : Int) = u := by omega
  have r := atI_nat (List.getElem?_eq_getElem hl)
  rw [e, h] at r
  have r2 : sChars.cps.toList[u.toNat]? = some c := by rw [List.getElem?_eq_getElem hl, ← r]
  exact List.mem_of_getElem? (i := u.toNat) (by rw [List.getElem?_take, if_pos (by omega)]; exact r2)
theorem name_ok {c c2 : Nat} {J : Str} (h1 : okW true c = true) (h2 : ∀ c' ∈ J.cps.toList, c' ∈ sChars.cps.toList) (h3 : c2 ∈ sEnds.cps.toList) : nameOk ((⟨#[c]⟩ : Str) ++ J ++ (⟨#[c2]⟩ : Str)) = true := by
  have e : ((⟨#[c]⟩ : Str) ++ J ++ (⟨#[c2]⟩ : Str)).cps.toList = c :: (J.cps.toList ++ [c2]) := by
    show (#[c] ++ J.cps ++ #[c2]).toList = _
    simp
  unfold nameOk
  rw [e]
  have w : wholeW (c :: (J.cps.toList ++ [c2])) = true := by
    unfold wholeW
    dsimp only
    rw [h1, List.all_eq_true.mpr fun x hx => ?_]
    · rfl
    · rcases List.mem_append.mp hx with hx | hx
      · exact chars_ok x (h2 x hx)
      · rw [List.mem_singleton.mp hx]; exact ends_ok c2 h3
  have r : resW ((⟨#[c]⟩ : Str) ++ J ++ (⟨#[c2]⟩ : Str)) = false := by
    have k : ∀ w ∈ (["true", "false", "exists", "forall"] : List Str), ((⟨#[c]⟩ : Str) ++ J ++ (⟨#[c2]⟩ : Str)) ≠ w := fun w hw z => by
      have := ends_res w hw c2 h3
      rw [← z, ends_app] at this
      exact this rfl
    unfold resW
    rw [decide_eq_false (fun z => ?_), decide_eq_false (fun z => ?_)]
    · rfl
    · rcases List.mem_cons.mp z with z | z
      · exact k "exists" (by simp) z
      · exact k "forall" (by simp) (List.mem_singleton.mp z)
    · rcases List.mem_cons.mp z with z | z
      · exact k "true" (by simp) z
      · exact k "false" (by simp) (List.mem_singleton.mp z)
  rw [w, r]
  rfl
theorem cal_name (T : Txt K mg w P) : C8.Cal P w K mg base 2 "_law_name" spName [] := by
  have C_law_take : C8.Cal P w K mg base 1 "_law_take" spTake [] := cal_take T
  obtain ⟨f, fd, F, hm, hb⟩ := T.h_law_name
  refine ⟨f, fd, _, [], F.ok sc_law_name (fun vs H Q E h => ?_) (fun cdv A outer s H vs Q E hr h => ?_), hm, F.kp, hb, .nil⟩
  · obtain ⟨d, k, rfl, _⟩ := h
    rfl
  · obtain ⟨d, k, rfl, hd, k0, k1, q⟩ := h
    refine ⟨_, (pss_cons
      (ps_set (i := 2) sc_law_name.nd rfl (Or.inr rfl) pe_str)
      (pss_cons
      (ps_set (i := 3) sc_law_name.nd rfl (Or.inl rfl) (pe_join pe_str (pe_lc (own := [("j", 4)]) (g := gName 4) (tt := tYes) rfl sc_law_name.nd (pi_range1 (by rfl) T.z_range (pa_cons (C8.pe_c C_law_take hr (by decide) (by rfl) (pa_cons (pv 0) (pa_cons pe_int pa_nil))) pa_nil)) (blkOk_by (N := N_law_name) (sc := defScope s_law_name) (by decide +kernel)) (fun _ _ _ _ _ => (pg_name (i := 4) sc_law_name.nd rfl (Or.inl rfl))) (fun _ _ _ _ _ => pts_nil) (fun _ _ _ _ _ => (pe_ix ix_str (pv 2) (C8.pe_c C_law_take hr (by decide) (by rfl) (pa_cons (pv 0) (pa_cons pe_int pa_nil))) (fun _ _ => rfl))))))
      (pss_one
      (ps_ret (pe_op op_add_str (pe_op op_add_str (pe_ix ix_str (pv 2) (C8.pe_c C_law_take hr (by decide) (by rfl) (pa_cons (pv 0) (pa_cons pe_int pa_nil))) (fun _ _ => rfl)) (pv 3)) (pe_ix ix_str pe_str (pv 1) (fun _ _ => rfl))))))), ?_⟩
    refine ⟨⟨_, rfl⟩, ?_⟩
    refine ⟨_, rfl, d, _, rfl, hd, by decide, fun r ds r0 r1 => ?_⟩
    refine ⟨_, rfl, by omega, by omega, fun D hD => ?_⟩
    have nDd : D ≠ d := fun z => by rw [z, upd_same] at hD; cases hD
    refine lc_range (lo := 0) (n := r.toNat) (fun i H' => ∃ xs : List Str, Kp d H H' ∧ Drw H' d ∧ H' D = some (.lst (xs.map V.str)) ∧ xs.length = i ∧ ∀ x ∈ xs, x.length = 1 ∧ PyData.strOk x = true ∧ ∀ c ∈ x.cps.toList, c ∈ sChars.cps.toList)
      ⟨[], Kp.own.trans (Kp.new hD), Drw.own.new hD, upd_same, rfl, by simp⟩ ?_ ?_
    · rintro i H1 hi ⟨xs, k1', d1, e1, el, hx⟩
      refine ⟨rfl, _, rfl, _, rfl, d, _, rfl, d1, by decide, fun u us u0 u1 => ?_⟩
      obtain ⟨c, hc⟩ := str_at (z := sChars) u0 (by rw [len_chars]; exact u1)
      refine ⟨sChars, u, c, rfl, rfl, by rw [len_chars]; decide, hc, ?_⟩
      refine ⟨xs.map V.str, by rw [upd_ne nDd]; exact e1, by rw [List.length_map]; exact Nat.lt_of_le_of_lt (show xs.length ≤ 1000 by omega) (by decide), xs ++ [⟨#[c]⟩], ?_, ?_, ?_, ?_, ?_⟩
      · intro b o nb hb
        have nbD : b ≠ D := fun z => by
          have h0 : (upd H d (.lst (ds.map V.int))) D = none := hD
          rw [upd_ne nDd] at h0
          rw [z, h0] at hb
          cases hb
        rw [upd_ne nbD, upd_ne nb]
        exact k1' _ _ nb hb
      · exact ⟨us, by rw [upd_ne nDd.symm, upd_same]⟩
      · rw [upd_same, List.map_append]
        rfl
      · simp [el]
      · intro x hx2
        rcases List.mem_append.mp hx2 with z | z
        · exact hx x z
        · rw [List.mem_singleton.mp z]
          exact ⟨one_len, ok_one ok_chars hc, fun c' hc' => by rw [List.mem_singleton.mp hc']; exact at_mem hc⟩
    · rintro H1 ⟨xs, k2, d1, e1, el, hx⟩
      have hsum : (xs.map (·.length)).sum ≤ 2 := by
        have e : xs.map (·.length) = List.replicate xs.length 1 := List.eq_replicate_iff.mpr ⟨by rw [List.length_map], fun b hb => by
          obtain ⟨x, hx2, rfl⟩ := List.mem_map.mp hb
          exact (hx x hx2).1⟩
        rw [e, List.sum_replicate_nat]
        omega
      have hz : Str.length (Str.ofString "") = 0 := by decide +kernel
      have hjl := StrLaws.join_length_le (Str.ofString "") xs
      rw [← (show Txt.join (Str.ofString "") xs = Str.join (Str.ofString "") xs from TL.join_eq _ _), hz] at hjl
      have hj2 : (Txt.join (Str.ofString "") xs).length ≤ 2 := by omega
      refine ⟨_, D, xs, rfl, rfl, .inl (.of e1), ?_, ?_⟩
      · show (xs.map (·.length)).sum + xs.length * Str.length (Str.ofString "") ≤ 16777216
        rw [hz]
        omega
      · refine ⟨_, rfl, _, rfl, d, _, rfl, d1, by decide, fun u us u0 u1 => ?_⟩
        obtain ⟨c, hc⟩ := str_at (z := sChars) u0 (by rw [len_chars]; omega)
        refine ⟨sChars, u, c, rfl, rfl, by rw [len_chars]; decide, hc, ?_⟩
        refine ⟨_, rfl, _, _, rfl, rfl, ?_, ?_⟩
        · rw [one_len]
          exact Nat.le_trans (show 1 + (Txt.join (Str.ofString "") xs).length ≤ 3 by omega) (by decide)
        obtain ⟨c2, hc2⟩ := str_at (z := sEnds) k0 (by rw [len_ends]; exact k1)
        refine ⟨_, rfl, sEnds, k, c2, rfl, rfl, by rw [len_ends]; decide, hc2, _, _, rfl, rfl, ?_, ?_⟩
        · rw [app_len, one_len, one_len]
          exact Nat.le_trans (show 1 + (Txt.join (Str.ofString "") xs).length + 1 ≤ 4 by omega) (by decide)
        · refine q _ _ (k2.trans Kp.own) Drw.own (ok_app (ok_app (ok_one ok_chars hc) ?_) (ok_one ok_ends hc2)) ⟨c2, hc2, ends_app _ _⟩ ⟨name_ok (lc_at u0 u1 hc) (fun c' hc' => join_all (fun x hx2 => (hx x hx2).2.2) c' (by rw [show Txt.join (Str.ofString "") xs = Str.join (Str.ofString "") xs from TL.join_eq _ _] at hc'; exact hc')) (at_mem hc2), by rw [app_len, app_len, one_len, one_len]; omega, c2, at_mem hc2, ends_app _ _⟩
          rw [show Txt.join (Str.ofString "") xs = Str.join (Str.ofString "") xs from TL.join_eq _ _]
          exact ok_join (by decide +kernel) xs fun x hx2 => (hx x hx2).2.1
theorem ends_inj : ∀ i j : Fin 8, sEnds.cps.toList[i.val]? = sEnds.cps.toList[j.val]? → i = j := by decide +kernel
theorem ends_nodup {xs : List Str} (hl : xs.length ≤ 8) (h : ∀ (j : Nat) (s : Str), xs[j]? = some s → EndsIn s (j : Int)) : xs.Nodup := by
  unfold List.Nodup
  rw [List.pairwise_iff_getElem]
  intro i j hi hj hij e
  obtain ⟨c, h1, h2⟩ := h i _ (List.getElem?_eq_getElem hi)
  obtain ⟨c', h1', h2'⟩ := h j _ (List.getElem?_eq_getElem hj)
  rw [e, h2'] at h2
  cases h2
  have gi : ∀ (k : Nat) c, k < 8 → atI sEnds.cps.toList (k : Int) = some c → sEnds.cps.toList[k]? = some c := fun k c hk hc => by
    have hl : k < sEnds.cps.toList.length := Nat.lt_of_lt_of_eq hk (by decide +kernel)
    have := atI_nat (List.getElem?_eq_getElem hl)
    rw [hc] at this
    rw [List.getElem?_eq_getElem hl, ← this]
  have := ends_inj ⟨i, by omega⟩ ⟨j, by omega⟩ ((gi i _ (by omega) h1).trans (gi j _ (by omega) h1').symm)
  have := congrArg Fin.val this
  simp only at this
  omega
theorem cal_names (T : Txt K mg w P) : C8.Cal P w K mg base 3 "_law_names" spNames [] := by
  have C_law_name : C8.Cal P w K mg base 2 "_law_name" spName [] := cal_name T
  obtain ⟨f, fd, F, hm, hb⟩ := T.h_law_names
  refine ⟨f, fd, _, [], F.ok sc_law_names (fun vs H Q E h => ?_) (fun cdv A outer s H vs Q E hr h => ?_), hm, F.kp, hb, .nil⟩
  · obtain ⟨d, c, rfl, _⟩ := h
    rfl
  · obtain ⟨d, c, rfl, hd, c0, c1, q⟩ := h
    refine ⟨_, (pss_one
      (ps_ret (pe_lc (own := [("k", 2)]) (g := gName 2) (tt := tYes) rfl sc_law_names.nd (pi_range1 (by rfl) T.z_range (pa_cons (pv 1) pa_nil)) (blkOk_by (N := N_law_names) (sc := defScope s_law_names) (by decide +kernel)) (fun _ _ _ _ _ => (pg_name (i := 2) sc_law_names.nd rfl (Or.inl rfl))) (fun _ _ _ _ _ => pts_nil) (fun _ _ _ _ _ => (C8.pe_c C_law_name hr (by decide) (by rfl) (pa_cons (pv 0) (pa_cons (pv 2) pa_nil))))))), ?_⟩
    refine ⟨_, rfl, _, rfl, by omega, by omega, fun D hD => ?_⟩
    have nDd : D ≠ d := fun z => by
      obtain ⟨ds, e⟩ := hd
      rw [z, e] at hD
      cases hD
    refine lc_range (lo := 0) (n := c.toNat) (fun i H' => ∃ xs : List Str, Kp d H H' ∧ Drw H' d ∧ H' D = some (.lst (xs.map V.str)) ∧ xs.length = i ∧ (∀ x ∈ xs, PyData.strOk x = true ∧ NmG x) ∧ ∀ (j : Nat) (s : Str), xs[j]? = some s → EndsIn s (j : Int))
      ⟨[], Kp.new hD, hd.new hD, upd_same, rfl, by simp, fun j s z => by simp at z⟩ ?_ ?_
    · rintro i H1 hi ⟨xs, k1, d1, e1, el, eok, een⟩
      refine ⟨rfl, _, rfl, _, rfl, d, _, rfl, d1, by omega, by omega, fun H2 s k2 d2 sok sen sng => ?_⟩
      refine ⟨xs.map V.str, k2 _ _ nDd e1, by rw [List.length_map]; exact Nat.lt_of_le_of_lt (show xs.length ≤ 1000 by omega) (by decide), xs ++ [s], fun b o nb hb => ?_, ?_, ?_, ?_, fun x hx2 => ?_, fun j s2 hj => ?_⟩
      · rw [upd_ne (fun z => by rw [z, hD] at hb; cases hb)]
        exact k2 _ _ nb (k1 _ _ nb hb)
      · obtain ⟨ds, e⟩ := d2
        exact ⟨ds, by rw [upd_ne nDd.symm]; exact e⟩
      · rw [upd_same, List.map_append]
        rfl
      · simp [el]
      · rcases List.mem_append.mp hx2 with z | z
        · exact eok x z
        · rw [List.mem_singleton.mp z]
          exact ⟨sok, sng⟩
      · rcases Nat.lt_or_ge j xs.length with z | z
        · rw [List.getElem?_append_left z] at hj
          exact een j s2 hj
        · rw [List.getElem?_append_right z] at hj
          have hj0 : j - xs.length = 0 := by
            have := (List.getElem?_eq_some_iff.mp hj).1
            simp at this
            omega
          rw [hj0] at hj
          cases hj
          have e : (j : Int) = 0 + (i : Int) := by omega
          rw [e]
          exact sen
    · rintro H1 ⟨xs, k1, d1, e1, el, eok, een⟩
      exact q H1 D xs k1 d1 nDd e1 el (fun s hs => (eok s hs).1) (ends_nodup (by omega) een) fun s hs => (eok s hs).2
/-! ### the printed form and its tokens -/
def psg (k : Str) : Str := (preL.lookup k).getD ""
def isg (k : Str) : Str := (infL.lookup k).getD ""
def prF : Fm → Str
  | .c0 k => k
  | .sg s => s
  | .un k f => psg k ++ prF f
  | .bin k f g => Str.ofString "(" ++ prF f ++ Str.ofString " " ++ isg k ++ Str.ofString " " ++ prF g ++ Str.ofString ")"
def tkF : Fm → List (Str × Str)
  | .c0 k => [(k, k)]
  | .sg s => [("name", s)]
  | .un k f => (psg k, psg k) :: tkF f
  | .bin k f g => (("(" : Str), ("(" : Str)) :: (tkF f ++ (isg k, isg k) :: (tkF g ++ [((")" : Str), (")" : Str))]))
/-- as it may be written -/
def Okf : Fm → Prop
  | .c0 k => k = "true" ∨ k = "false"
  | .sg s => nameOk s = true
  | .un k f => k ∈ unOps ∧ Okf f
  | .bin k f g => k ∈ binOps ∧ Okf f ∧ Okf g
def pdp : Fm → Nat
  | .c0 _ => 0
  | .sg _ => 0
  | .un _ f => pdp f
  | .bin _ f g => max (pdp f) (pdp g) + 1
def kc (t : Tk) : Str × Str := (t.k, t.c)
theorem un_pre : ∀ k ∈ unOps, isPre (psg k) = true ∧ kndP (psg k) = k := by decide +kernel
def lvI (k : Str) : Nat := if k = "iff" then 0 else if k = "implies" then 1 else if k = "or" then 2 else if k = "and" then 3 else 4
theorem bin_lev : ∀ k ∈ binOps, isg k ∈ levL.getD (lvI k) [] ∧ lvI k < 5 ∧ (∀ j ∈ [0, 1, 2, 3, 4], lvI k < j → ¬ isg k ∈ levL.getD j []) ∧ kndI (isg k) = k := by decide +kernel
theorem rp_lev : ∀ j ∈ [0, 1, 2, 3, 4], ¬ (")" : Str) ∈ levL.getD j [] := by decide +kernel
theorem lt5 {j : Nat} (h : j < 5) : j ∈ [0, 1, 2, 3, 4] := by
  match j, h with
  | 0, _ => simp
  | 1, _ => simp
  | 2, _ => simp
  | 3, _ => simp
  | 4, _ => simp
theorem k_facts : isPre "true" = false ∧ isPre "false" = false ∧ isPre "name" = false ∧ isPre "(" = false ∧ ("true" : Str) ≠ "(" ∧ ("false" : Str) ≠ "(" ∧ ("name" : Str) ≠ "(" ∧ ¬ ("name" : Str) ∈ (["true", "false"] : List Str) := by decide +kernel
theorem fld1 {k : Str} (hk : k ∈ binOps) (f g : Fm) : fld [isg k] f [g] = .bin k f g := by
  have e := (bin_lev k hk).2.2.2
  unfold fld
  dsimp only
  split
  · show Fm.bin (kndI (isg k)) f g = _
    rw [e]
  · show Fm.bin (kndI (isg k)) f g = _
    rw [e]
theorem kc_one {tf : List Tk} {x : Str × Str} (e : tf.map kc = [x]) : ∃ u, tf = [u] ∧ kc u = x := by
  obtain ⟨u, r, h1, h2, h3⟩ := List.map_eq_cons_iff.mp e
  have : r = [] := List.map_eq_nil_iff.mp h3
  subst this
  exact ⟨u, h1, h2⟩
theorem una_pr : ∀ {f : Fm}, Okf f → ∀ {n : Nat}, 6 * pdp f ≤ n → ∀ {tf : List Tk} (t : Tk) (r : List Tk), tf.map kc = tkF f → ∃ ss g, Una (RdF n 0) (tf ++ t :: r) ss g (t :: r) ∧ f = wrp ss g
  | .c0 k, h, n, _, tf, t, r, e => by
    obtain ⟨a1, a2, a3, a4, a5, a6, a7, a8⟩ := k_facts
    obtain ⟨u, rfl, e0⟩ := kc_one (x := (k, k)) e
    have e1 : u.k = k ∧ u.c = k := ⟨congrArg Prod.fst e0, congrArg Prod.snd e0⟩
    have hk : k ∈ (["true", "false"] : List Str) := by
      rcases h with h | h
      · rw [h]; simp
      · rw [h]; simp
    have h1 : isPre k = false := by rcases h with h | h <;> rw [h] <;> assumption
    have h2 : k ≠ "(" := by rcases h with h | h <;> rw [h] <;> assumption
    exact ⟨[], .c0 k, .nil (by rw [e1.1]; exact h1) (.inr (.inl ⟨by rw [e1.1]; exact h2, by rw [e1.1]; exact hk, by rw [e1.2], rfl⟩)), rfl⟩
  | .sg s, h, n, _, tf, t, r, e => by
    obtain ⟨a1, a2, a3, a4, a5, a6, a7, a8⟩ := k_facts
    obtain ⟨u, rfl, e0⟩ := kc_one (x := ("name", s)) e
    have e1 : u.k = "name" ∧ u.c = s := ⟨congrArg Prod.fst e0, congrArg Prod.snd e0⟩
    exact ⟨[], .sg s, .nil (by rw [e1.1]; exact a3) (.inr (.inr ⟨by rw [e1.1]; exact a7, by rw [e1.1]; exact a8, e1.1, by rw [e1.2], rfl⟩)), rfl⟩
  | .un k f, h, n, hn, tf, t, r, e => by
    match tf, e with
    | u :: tf', e =>
      have e' := List.cons.inj e
      have e1 : u.k = psg k ∧ u.c = psg k := ⟨congrArg Prod.fst e'.1, congrArg Prod.snd e'.1⟩
      obtain ⟨ss, g, h1, h2⟩ := una_pr h.2 (n := n) hn t r e'.2
      have h3 := un_pre k h.1
      refine ⟨u.c :: ss, g, .cons (by rw [e1.1]; exact h3.1) (by rw [e1.1, e1.2]) h1, ?_⟩
      show Fm.un k f = Fm.un (kndP u.c) (wrp ss g)
      rw [e1.2, h3.2, h2]
  | .bin k f g, h, n, hn, tf, t, r, e => by
    obtain ⟨a1, a2, a3, a4, a5, a6, a7, a8⟩ := k_facts
    have hn : 6 * (max (pdp f) (pdp g) + 1) ≤ n := hn
    obtain ⟨m, rfl⟩ : ∃ m, n = m + 6 := ⟨n - 6, by omega⟩
    match tf, e with
    | u :: tf', e =>
      have e' := List.cons.inj e
      have e1 : u.k = "(" := congrArg Prod.fst e'.1
      obtain ⟨ta, tr, ht1, ht2, ht3⟩ := List.map_eq_append_iff.mp e'.2
      match tr, ht3 with
      | v :: tr', ht3 =>
        have e2 := List.cons.inj ht3
        have ev : v.k = isg k ∧ v.c = isg k := ⟨congrArg Prod.fst e2.1, congrArg Prod.snd e2.1⟩
        obtain ⟨tb, tr2, hu1, hu2, hu3⟩ := List.map_eq_append_iff.mp e2.2
        obtain ⟨z, rfl, ez0⟩ := kc_one hu3
        have ez : z.k = ")" := congrArg Prod.fst ez0
        subst hu1
        subst ht1
        obtain ⟨b1, b2, b3, b4⟩ := bin_lev k h.1
        obtain ⟨ss1, g1, c1, c2⟩ := una_pr h.2.1 (n := m) (by omega) v ((tb ++ [z]) ++ t :: r) ht2
        obtain ⟨ss2, g2, d1, d2⟩ := una_pr h.2.2 (n := m) (by omega) z (t :: r) hu2
        have hf5 : RdF (m + 1) 5 (ta ++ v :: ((tb ++ [z]) ++ t :: r)) f (v :: ((tb ++ [z]) ++ t :: r)) := .inl ⟨rfl, ss1, g1, c1, c2⟩
        have hg5 : RdF (m + 1) 5 (tb ++ z :: t :: r) g (z :: t :: r) := .inl ⟨rfl, ss2, g2, d1, d2⟩
        generalize hj : lvI k = j at b1 b2 b3
        have hfj : RdF (m + 1 + (4 - j)) (j + 1) (ta ++ v :: ((tb ++ [z]) ++ t :: r)) f (v :: ((tb ++ [z]) ++ t :: r)) := rdf_ups (4 - j) (m + 1) (j + 1) (by omega) (by rw [show j + 1 + (4 - j) = 5 by omega]; exact hf5) (fun i h1 h2 => by rw [ev.1]; exact b3 i (lt5 (by omega)) (by omega))
        have hgj : RdF (m + 1 + (4 - j)) (j + 1) (tb ++ z :: t :: r) g (z :: t :: r) := rdf_ups (4 - j) (m + 1) (j + 1) (by omega) (by rw [show j + 1 + (4 - j) = 5 by omega]; exact hg5) (fun i h1 h2 => by rw [ez]; exact rp_lev i (lt5 (by omega)))
        have hb : RdF (m + 1 + (4 - j) + 1) j (ta ++ v :: ((tb ++ [z]) ++ t :: r)) (.bin k f g) (z :: t :: r) := by
          refine .inr ⟨b2, f, _, [v.c], [g], hfj, .cons (by rw [ev.1]; exact b1) (by rw [ev.1, ev.2]) ?_ (.nil (by rw [ez]; exact rp_lev j (lt5 b2))), by rw [ev.2, fld1 h.1]⟩
          rw [List.append_assoc]
          exact hgj
        have h0 : RdF (m + 6) 0 (ta ++ v :: ((tb ++ [z]) ++ t :: r)) (.bin k f g) (z :: t :: r) := by
          have := rdf_ups j (m + 1 + (4 - j) + 1) 0 (by omega) (by rw [Nat.zero_add]; exact hb) (fun i h1 h2 => by rw [ez]; exact rp_lev i (lt5 (by omega)))
          rwa [show m + 1 + (4 - j) + 1 + j = m + 6 by omega] at this
        refine ⟨[], .bin k f g, .nil (by rw [e1]; exact a4) (.inl ⟨e1, z, ?_, ez⟩), rfl⟩
        have el : (ta ++ v :: (tb ++ [z])) ++ t :: r = ta ++ v :: ((tb ++ [z]) ++ t :: r) := by simp
        show RdF (m + 6) 0 ((ta ++ v :: (tb ++ [z])) ++ t :: r) _ _
        rw [el]
        exact h0
theorem end_lev : ∀ j ∈ [0, 1, 2, 3, 4], ¬ ("end" : Str) ∈ levL.getD j [] := by decide +kernel
theorem rdf_pr {f : Fm} (h : Okf f) {n : Nat} (hn : 6 * pdp f ≤ n) {tf : List Tk} {t : Tk} {r : List Tk} (e : tf.map kc = tkF f) (ht : t.k = "end") : RdF (n + 6) 0 (tf ++ t :: r) f (t :: r) := by
  obtain ⟨ss, g, h1, h2⟩ := una_pr h hn t r e
  have h5 : RdF (n + 1) 5 (tf ++ t :: r) f (t :: r) := .inl ⟨rfl, ss, g, h1, h2⟩
  have := rdf_ups 5 (n + 1) 0 (by omega) (by rw [Nat.zero_add]; exact h5) (fun i h1 h2 => by rw [ht]; exact end_lev i (lt5 (by omega)))
  rwa [show n + 1 + 5 = n + 6 by omega] at this
/-! ### the tokens of the printed form -/
theorem toL_app (a b : Str) : (a ++ b).cps.toList = a.cps.toList ++ b.cps.toList := by
  show (a.cps ++ b.cps).toList = _
  simp
theorem sgn_head : ∀ u ∈ sgnL, ∀ s ∈ sgnL, u.cps.toList.head? = s.cps.toList.head? → u = s := by decide +kernel
theorem sgn_low : ∀ u ∈ sgnL, ∀ c, u.cps.toList.head? = some c → c ≠ 32 ∧ c ∉ tLC.cps.toList := by
  have : ∀ u ∈ sgnL, ((u.cps.toList.head?.all fun c => decide (c ≠ 32 ∧ c ∉ tLC.cps.toList)) = true) := by decide +kernel
  intro u hu c hc
  have := this u hu
  rw [hc] at this
  simpa using this
theorem low_sp : ∀ c ∈ tLC.cps.toList, c ≠ 32 := by decide +kernel
theorem take_head {u : Str} {cs : List Nat} (h : cs.take u.length = u.cps.toList) (hu : 0 < u.length) : u.cps.toList.head? = cs.head? := by
  rw [← h]
  cases cs with
  | nil => simp
  | cons c r =>
    obtain ⟨m, hm⟩ : ∃ m, u.length = m + 1 := ⟨u.length - 1, by omega⟩
    rw [hm]
    rfl
theorem hd_app {l r : List Nat} (h : l ≠ []) : (l ++ r).head? = l.head? := by
  cases l with
  | nil => exact absurd rfl h
  | cons _ _ => rfl
theorem tok_sgn {s : Str} (hs : s ∈ sgnL) (rest : List Nat) : tokOf (s.cps.toList ++ rest) = (s, s) := by
  have hm : decide ((s.cps.toList ++ rest).take s.length = s.cps.toList) = true := by
    rw [← str_len, List.take_append_of_le_length (Nat.le_refl _), List.take_length]
    exact decide_eq_true rfl
  have hex : sgnL.find? (fun u => decide ((s.cps.toList ++ rest).take u.length = u.cps.toList)) = some s := by
    cases hf : sgnL.find? (fun u => decide ((s.cps.toList ++ rest).take u.length = u.cps.toList)) with
    | none =>
      have := List.find?_eq_none.mp hf s hs
      exact absurd hm this
    | some u =>
      have h1 := List.find?_some hf
      have h2 := List.mem_of_find?_eq_some hf
      have h3 := take_head (of_decide_eq_true h1) (sgn_len u h2).1
      have h4 : s.cps.toList ≠ [] := fun z => by
        have := (sgn_len s hs).1
        rw [← str_len, z] at this
        exact absurd this (by decide)
      rw [hd_app h4] at h3
      rw [sgn_head u h2 s hs h3]
  unfold tokOf
  rw [hex]
theorem head_of {s : Str} (h : 0 < s.length) : ∃ c r, s.cps.toList = c :: r := by
  cases e : s.cps.toList with
  | nil => rw [← str_len, e] at h; exact absurd h (by decide)
  | cons c r => exact ⟨c, r, rfl⟩
theorem tks_sgn {s : Str} (hs : s ∈ sgnL) {rest : List Nat} {p : Nat} {ts : List Tk} (h : Tks rest (p + s.length) ts) : Tks (s.cps.toList ++ rest) p (⟨s, s, p⟩ :: ts) := by
  obtain ⟨c, r, e⟩ := head_of (sgn_len s hs).1
  have et := tok_sgn hs rest
  have hc := sgn_low s hs c (by rw [e]; rfl)
  have hd : (s.cps.toList ++ rest).drop s.length = rest := by rw [← str_len, List.drop_left]
  rw [e, List.cons_append] at et hd ⊢
  have := Tks.tok (c := c) (r := r ++ rest) (p := p) (ts := ts) hc.1 (by rw [et]; exact (sgn_len s hs).2) (by rw [et]; dsimp only; rw [hd]; exact h)
  rw [et] at this
  exact this
def Bnd : List Nat → Prop
  | [] => True
  | c :: _ => okW false c = false
theorem wlen_app : ∀ (f : Bool) (w rest : List Nat), (∀ i c, w[i]? = some c → okW (f && decide (i = 0)) c = true) → (w ≠ [] ∨ f = false) → Bnd rest → wlen f (w ++ rest) = w.length
  | f, [], rest, h, hne, hb => by
    obtain rfl : f = false := hne.elim (fun z => absurd rfl z) id
    cases rest with
    | nil => rfl
    | cons c r =>
      show wlen false (c :: r) = 0
      unfold wlen
      rw [if_neg (by rw [show okW false c = false from hb]; exact Bool.false_ne_true)]
  | f, c :: w, rest, h, hne, hb => by
    show wlen f (c :: (w ++ rest)) = w.length + 1
    unfold wlen
    have h0 := h 0 c rfl
    rw [decide_eq_true rfl, Bool.and_true] at h0
    rw [if_pos h0, wlen_app false w rest (fun i d hd => by
      have := h (i + 1) d hd
      rwa [decide_eq_false (Nat.succ_ne_zero i), Bool.and_false] at this) (.inr rfl) hb]
theorem okW_low {c : Nat} (h : okW true c = true) : c ∈ tLC.cps.toList := by
  unfold okW at h
  simpa using h
theorem word_ne {w : Str} (h : wholeW w.cps.toList = true) : w.cps.toList ≠ [] := fun z => by
  rw [z] at h
  cases h
theorem tok_word {w : Str} (hw : wholeW w.cps.toList = true) {rest : List Nat} (hb : Bnd rest) : tokOf (w.cps.toList ++ rest) = (if resW w = true then w else "name", w) ∧ ∃ c r, w.cps.toList = c :: r ∧ c ∈ tLC.cps.toList := by
  have hne := word_ne hw
  have hi := (wholeW_iff hne).mp hw
  obtain ⟨c, r, e⟩ : ∃ c r, w.cps.toList = c :: r := by
    cases e : w.cps.toList with
    | nil => exact absurd e hne
    | cons c r => exact ⟨c, r, rfl⟩
  have hc : c ∈ tLC.cps.toList := okW_low (by
    have := hi 0 c (by rw [e]; rfl)
    rwa [decide_eq_true rfl] at this)
  refine ⟨?_, c, r, e, hc⟩
  have hn : sgnL.find? (fun u => decide ((w.cps.toList ++ rest).take u.length = u.cps.toList)) = none := by
    refine List.find?_eq_none.mpr fun u hu z => ?_
    have h3 := take_head (of_decide_eq_true z) (sgn_len u hu).1
    rw [hd_app hne, e] at h3
    exact (sgn_low u hu c h3).2 hc
  have hl : wlen true (w.cps.toList ++ rest) = w.cps.toList.length := wlen_app true _ rest (fun i d hd => by rw [Bool.true_and]; exact hi i d hd) (.inl hne) hb
  unfold tokOf
  rw [hn]
  dsimp only
  rw [hl, if_neg (by rw [e]; exact Nat.succ_ne_zero _), List.take_append_of_le_length (Nat.le_refl _), List.take_length, Array.toArray_toList]
theorem tks_word {w : Str} (hw : wholeW w.cps.toList = true) {rest : List Nat} (hb : Bnd rest) {p : Nat} {ts : List Tk} (h : Tks rest (p + w.length) ts) : Tks (w.cps.toList ++ rest) p (⟨if resW w = true then w else "name", w, p⟩ :: ts) := by
  obtain ⟨et, c, r, e, hc⟩ := tok_word hw hb
  have hd : (w.cps.toList ++ rest).drop w.length = rest := by rw [← str_len, List.drop_left]
  have nb : (if resW w = true then w else ("name" : Str)) ≠ "bad" := by
    have h1 : ("name" : Str) ≠ "bad" := by decide +kernel
    split
    · rename_i z
      intro q
      rw [q] at z
      exact absurd z (by decide +kernel)
    · exact h1
  rw [e, List.cons_append] at et hd ⊢
  have := Tks.tok (c := c) (r := r ++ rest) (p := p) (ts := ts) (low_sp c hc) (by rw [et]; exact nb) (by rw [et]; dsimp only; rw [hd]; exact h)
  rw [et] at this
  exact this
theorem sgn_un : ∀ k ∈ unOps, psg k ∈ sgnL := by decide +kernel
theorem sgn_bin : ∀ k ∈ binOps, isg k ∈ sgnL := by decide +kernel
theorem cst_w : ∀ k ∈ (["true", "false", "exists", "forall"] : List Str), wholeW k.cps.toList = true ∧ resW k = true := by decide +kernel
theorem l_sp : (Str.ofString " ").cps.toList = [32] ∧ (Str.ofString "(") ∈ sgnL ∧ (Str.ofString ")") ∈ sgnL ∧ (Str.ofString ")").cps.toList = [41] ∧ okW false 32 = false ∧ okW false 41 = false ∧ okW false 58 = false ∧ okW false 44 = false := by decide +kernel
theorem l_one : (Str.ofString " ").length = 1 ∧ (Str.ofString "(").length = 1 ∧ (Str.ofString ")").length = 1 := by decide +kernel
theorem tks_pr : ∀ {f : Fm}, Okf f → ∀ {rest : List Nat} {p : Nat} {ts : List Tk}, Bnd rest → Tks rest (p + (prF f).length) ts → ∃ tf, Tks ((prF f).cps.toList ++ rest) p (tf ++ ts) ∧ tf.map kc = tkF f
  | .c0 k, h, rest, p, ts, hb, ht => by
    have hk : k ∈ (["true", "false", "exists", "forall"] : List Str) := by
      rcases h with h | h
      · rw [h]; simp
      · rw [h]; simp
    obtain ⟨h1, h2⟩ := cst_w k hk
    have := tks_word h1 hb ht
    rw [if_pos h2] at this
    exact ⟨[⟨k, k, p⟩], this, rfl⟩
  | .sg s, h, rest, p, ts, hb, ht => by
    have h : nameOk s = true := h
    unfold nameOk at h
    rw [Bool.and_eq_true] at h
    have := tks_word h.1 hb ht
    rw [if_neg (by have := h.2; intro z; rw [z] at this; cases this)] at this
    exact ⟨[⟨"name", s, p⟩], this, rfl⟩
  | .un k f, h, rest, p, ts, hb, ht => by
    obtain ⟨tf, h1, h2⟩ := tks_pr h.2 (p := p + (psg k).length) hb (ts := ts) (by
      have e : (prF (.un k f)).length = (psg k).length + (prF f).length := app_len _ _
      rwa [e, ← Nat.add_assoc] at ht)
    refine ⟨⟨psg k, psg k, p⟩ :: tf, ?_, ?_⟩
    · show Tks ((psg k ++ prF f).cps.toList ++ rest) p _
      rw [toL_app, List.append_assoc]
      exact tks_sgn (sgn_un k h.1) h1
    · show kc ⟨psg k, psg k, p⟩ :: tf.map kc = _
      rw [h2]
      rfl
  | .bin k f g, h, rest, p, ts, hb, ht => by
    obtain ⟨s1, s2, s3, s4, s5, s6, s7, s8⟩ := l_sp
    obtain ⟨o1, o2, o3⟩ := l_one
    have el : (prF (.bin k f g)).length = 1 + (prF f).length + 1 + (isg k).length + 1 + (prF g).length + 1 := by
      show (Str.ofString "(" ++ prF f ++ Str.ofString " " ++ isg k ++ Str.ofString " " ++ prF g ++ Str.ofString ")").length = _
      rw [app_len, app_len, app_len, app_len, app_len, app_len, o1, o2, o3]
    have e : (prF (.bin k f g)).cps.toList ++ rest = (Str.ofString "(").cps.toList ++ ((prF f).cps.toList ++ (32 :: ((isg k).cps.toList ++ (32 :: ((prF g).cps.toList ++ ((Str.ofString ")").cps.toList ++ rest)))))) := by
      show (Str.ofString "(" ++ prF f ++ Str.ofString " " ++ isg k ++ Str.ofString " " ++ prF g ++ Str.ofString ")").cps.toList ++ rest = _
      rw [toL_app, toL_app, toL_app, toL_app, toL_app, toL_app, s1]
      simp
    rw [el] at ht
    have t1 : Tks ((Str.ofString ")").cps.toList ++ rest) (p + (1 + (prF f).length + 1 + (isg k).length + 1 + (prF g).length)) (⟨")", ")", _⟩ :: ts) := tks_sgn s3 (by rw [o3]; exact ht)
    obtain ⟨tg, t2, t3⟩ := tks_pr h.2.2 (p := p + (1 + (prF f).length + 1 + (isg k).length + 1)) (rest := (Str.ofString ")").cps.toList ++ rest) (by rw [s4]; exact s6) (by rw [Nat.add_assoc]; exact t1)
    have t4 := Tks.sp (p := p + (1 + (prF f).length + 1 + (isg k).length)) t2
    have t5 := tks_sgn (sgn_bin k h.1) (p := p + (1 + (prF f).length + 1)) (by rw [Nat.add_assoc]; exact t4)
    have t6 := Tks.sp (p := p + (1 + (prF f).length)) t5
    obtain ⟨tf, t7, t8⟩ := tks_pr h.2.1 (p := p + 1) (rest := 32 :: _) s5 (by rw [Nat.add_assoc]; exact t6)
    have t9 := tks_sgn s2 (p := p) (by rw [o2]; exact t7)
    rw [e]
    refine ⟨⟨"(", "(", p⟩ :: (tf ++ ⟨isg k, isg k, p + (1 + (prF f).length + 1)⟩ :: (tg ++ [⟨")", ")", _⟩])), by simpa using t9, ?_⟩
    rw [List.map_cons, List.map_append, List.map_cons, List.map_append, t8, t3]
    rfl
theorem sz1 : 1 ≤ sizeLine := by decide
theorem sz2 : 2 ≤ sizeLine := by decide
theorem sz3 : 3 ≤ sizeLine := by decide
/-! the formula as data -/
def dF : Fm → PyData
  | .c0 k => .tuple [.str k]
  | .sg s => .tuple [.str sSig, .str s]
  | .un k f => .tuple [.str k, dF f]
  | .bin k f g => .tuple [.str k, dF f, dF g]
theorem dp_fm {K : PySem.W.Frag} {H : Hp} : ∀ {f : Fm} {v : V}, FmAt K H v f → Dp K H v (dF f)
  | .c0 k, _, ⟨a, rfl, h⟩ => .tup h (.cons (.str _) .nil)
  | .sg s, _, ⟨a, rfl, h⟩ => .tup h (.cons (.str _) (.cons (.str _) .nil))
  | .un k f, _, ⟨a, x, rfl, h, hx⟩ => .tup h (.cons (.str _) (.cons (dp_fm hx) .nil))
  | .bin k f g, _, ⟨a, x, y, rfl, h, hx, hy⟩ => .tup h (.cons (.str _) (.cons (dp_fm hx) (.cons (dp_fm hy) .nil)))
theorem ok_un : ∀ k ∈ unOps, PyData.strOk k = true := by decide +kernel
theorem ok_bin : ∀ k ∈ binOps, PyData.strOk k = true := by decide +kernel
theorem lay_fm {nm : List Str} (hok : ∀ s ∈ nm, PyData.strOk s = true) : ∀ {f : Fm}, Wo nm f → PyData.canLay0 (dF f) = true
  | .c0 k, h => by
    have e : PyData.strOk k = true := by
      rcases h with rfl | rfl
      · decide +kernel
      · decide +kernel
    simp [dF, PyData.canLay0, PyData.canLayAll0, e]
  | .sg s, h => by
    have e : PyData.strOk sSig = true := by decide +kernel
    simp [dF, PyData.canLay0, PyData.canLayAll0, e, hok s h]
  | .un k f, h => by simp [dF, PyData.canLay0, PyData.canLayAll0, ok_un k h.1, lay_fm hok h.2]
  | .bin k f g, h => by simp [dF, PyData.canLay0, PyData.canLayAll0, ok_bin k h.1, lay_fm hok h.2.1, lay_fm hok h.2.2]
theorem dep_fm : ∀ f : Fm, PyData.depth (dF f) ≤ dpt f + 1
  | .c0 k => by simp [dF, PyData.depth, PyData.depthAll, dpt]
  | .sg s => by simp [dF, PyData.depth, PyData.depthAll, dpt]
  | .un k f => by
    have := dep_fm f
    simp [dF, PyData.depth, PyData.depthAll, dpt]
    omega
  | .bin k f g => by
    have := dep_fm f
    have := dep_fm g
    simp [dF, PyData.depth, PyData.depthAll, dpt]
    omega
theorem shaped_fm {nm : List Str} (hok : ∀ s ∈ nm, PyData.strOk s = true) {f : Fm} (h : Wo nm f) (hd : dpt f ≤ 60) : SeqAt.shaped (dF f) = true := by
  unfold SeqAt.shaped
  have := dep_fm f
  rw [lay_fm hok h, decide_eq_true (show PyData.depth (dF f) ≤ 64 by omega)]
  rfl
/-! properties -/
inductive Pr where
  | f (f : Fm)
  | q (k : Str) (hs : List Str) (f : Fm)
def PvAt (K : PySem.W.Frag) (H : Hp) : V → Pr → Prop
  | v, .f f => FmAt K H v f
  | v, .q k hs f => ∃ a b u, v = .ref a ∧ SqT K H a [.str k, .ref b, u] ∧ SqT K H b (hs.map V.str) ∧ FmAt K H u f
theorem PvAt.same {K : PySem.W.Frag} {H H' : Hp} (e : Same H H') : ∀ {v : V} {p : Pr}, PvAt K H v p → PvAt K H' v p
  | _, .f _, h => FmAt.same e h
  | _, .q _ _ _, ⟨a, b, u, h1, h2, h3, h4⟩ => ⟨a, b, u, h1, sqt_same e h2, sqt_same e h3, h4.same e⟩
theorem PvAt.kp {K : PySem.W.Frag} {H H' : Hp} {d : Addr} {ys : List V} (hd : H d = some (.lst ys)) (e : Kp d H H') : ∀ {v : V} {p : Pr}, PvAt K H v p → PvAt K H' v p
  | _, .f _, h => FmAt.kp hd e h
  | _, .q _ _ _, ⟨a, b, u, h1, h2, h3, h4⟩ => ⟨a, b, u, h1, sqt_kp hd e h2, sqt_kp hd e h3, h4.kp hd e⟩
def PvsAt (K : PySem.W.Frag) (H : Hp) : List V → List Pr → Prop
  | [], [] => True
  | v :: vs, p :: ps => PvAt K H v p ∧ PvsAt K H vs ps
  | _, _ => False
theorem PvsAt.same {K : PySem.W.Frag} {H H' : Hp} (e : Same H H') : ∀ {vs : List V} {ps : List Pr}, PvsAt K H vs ps → PvsAt K H' vs ps
  | [], [], _ => trivial
  | _ :: _, _ :: _, h => ⟨h.1.same e, h.2.same e⟩
theorem PvsAt.kp {K : PySem.W.Frag} {H H' : Hp} {d : Addr} {ys : List V} (hd : H d = some (.lst ys)) (e : Kp d H H') : ∀ {vs : List V} {ps : List Pr}, PvsAt K H vs ps → PvsAt K H' vs ps
  | [], [], _ => trivial
  | _ :: _, _ :: _, h => ⟨h.1.kp hd e, h.2.kp hd e⟩
theorem PvsAt.len {K : PySem.W.Frag} {H : Hp} : ∀ {vs : List V} {ps : List Pr}, PvsAt K H vs ps → vs.length = ps.length
  | [], [], _ => rfl
  | _ :: _, _ :: _, h => congrArg (· + 1) h.2.len
theorem PvsAt.snoc {K : PySem.W.Frag} {H : Hp} {v : V} {p : Pr} (k : PvAt K H v p) : ∀ {vs : List V} {ps : List Pr}, PvsAt K H vs ps → PvsAt K H (vs ++ [v]) (ps ++ [p])
  | [], [], _ => ⟨k, trivial⟩
  | _ :: _, _ :: _, h => ⟨h.1, h.2.snoc k⟩
def dP : Pr → PyData
  | .f f => dF f
  | .q k hs f => .tuple [.str k, .tuple (hs.map PyData.str), dF f]
theorem dp_strs {K : PySem.W.Frag} {H : Hp} : ∀ ss : List Str, DpAll K H (ss.map V.str) (ss.map PyData.str)
  | [] => .nil
  | s :: r => .cons (.str s) (dp_strs r)
theorem dp_pr {K : PySem.W.Frag} {H : Hp} : ∀ {v : V} {p : Pr}, PvAt K H v p → Dp K H v (dP p)
  | _, .f _, h => dp_fm h
  | _, .q k hs f, ⟨a, b, u, h1, h2, h3, h4⟩ => by
    rw [h1]
    exact .tup h2 (.cons (.str k) (.cons (.tup h3 (dp_strs hs)) (.cons (dp_fm h4) .nil)))
theorem dp_prs {K : PySem.W.Frag} {H : Hp} : ∀ {vs : List V} {ps : List Pr}, PvsAt K H vs ps → DpAll K H vs (ps.map dP)
  | [], [], _ => .nil
  | _ :: _, _ :: _, h => .cons (dp_pr h.1) (dp_prs h.2)
/-- it may be laid out and isn't deep -/
def Lay (ds : List PyData) : Prop := PyData.canLayAll0 ds = true ∧ PyData.depthAll ds ≤ 30
theorem Lay.nil : Lay [] := ⟨rfl, Nat.zero_le _⟩
theorem Lay.cons {d : PyData} {ds : List PyData} (h : PyData.canLay0 d = true) (h2 : PyData.depth d ≤ 30) (k : Lay ds) : Lay (d :: ds) := ⟨by simp [PyData.canLayAll0, h, k.1], by have := k.2; simp only [PyData.depthAll]; omega⟩
theorem lay_str : ∀ {ss : List Str}, (∀ s ∈ ss, PyData.strOk s = true) → PyData.canLayAll0 (ss.map PyData.str) = true ∧ PyData.depthAll (ss.map PyData.str) = 0
  | [], _ => ⟨rfl, rfl⟩
  | s :: r, h => by
    obtain ⟨a, b⟩ := lay_str (ss := r) fun t ht => h t (List.mem_cons_of_mem _ ht)
    exact ⟨by simp [PyData.canLayAll0, PyData.canLay0, h s List.mem_cons_self, a], by simp [PyData.depthAll, PyData.depth, b]⟩
theorem lay_strs {ss : List Str} (h : ∀ s ∈ ss, PyData.strOk s = true) : Lay (ss.map PyData.str) := ⟨(lay_str h).1, by rw [(lay_str h).2]; omega⟩
theorem lay_T {ds : List PyData} (h : Lay ds) : PyData.canLay0 (.tuple ds) = true ∧ SeqAt.shaped (.tuple ds) = true ∧ PyData.depth (.tuple ds) ≤ 31 := by
  have a : PyData.canLay0 (.tuple ds) = true := by rw [PyData.canLay0]; exact h.1
  have b : PyData.depth (.tuple ds) ≤ 31 := by have := h.2; rw [PyData.depth]; omega
  refine ⟨a, ?_, b⟩
  unfold SeqAt.shaped
  rw [a, decide_eq_true (show PyData.depth (.tuple ds) ≤ 64 by omega)]
  rfl
theorem lay_L {ds : List PyData} (h : Lay ds) : PyData.canLay0 (.list ds) = true ∧ PyData.depth (.list ds) ≤ 31 := by
  have b : PyData.depth (.list ds) ≤ 31 := by have := h.2; rw [PyData.depth]; omega
  exact ⟨by rw [PyData.canLay0]; exact h.1, b⟩
/-- a property that may be laid out -/
def PrL (p : Pr) : Prop := PyData.canLay0 (dP p) = true ∧ PyData.depth (dP p) ≤ 30
theorem lay_prs : ∀ {ps : List Pr}, (∀ p ∈ ps, PrL p) → Lay (ps.map dP)
  | [], _ => Lay.nil
  | p :: ps, h => Lay.cons (h p List.mem_cons_self).1 (h p List.mem_cons_self).2 (lay_prs fun t ht => h t (List.mem_cons_of_mem _ ht))
theorem prL_f {nm : List Str} (hok : ∀ s ∈ nm, PyData.strOk s = true) {f : Fm} (h : Wo nm f) (hd : dpt f ≤ 20) : PrL (.f f) := ⟨lay_fm hok h, by have := dep_fm f; show PyData.depth (dF f) ≤ 30; omega⟩
theorem prL_q {nm hs : List Str} {k : Str} (hok : ∀ s ∈ nm, PyData.strOk s = true) (hh : ∀ s ∈ hs, PyData.strOk s = true) (hk : PyData.strOk k = true) {f : Fm} (h : Wo nm f) (hd : dpt f ≤ 20) : PrL (.q k hs f) := by
  have a := lay_fm hok h
  have b := dep_fm f
  obtain ⟨c, d⟩ := lay_str hh
  refine ⟨?_, ?_⟩
  · simp [dP, PyData.canLay0, PyData.canLayAll0, hk, a, c]
  · simp only [dP, PyData.depth, PyData.depthAll, d]
    omega
def prP : Pr → Str
  | .f f => prF f
  | .q k hs f => k ++ Str.ofString " " ++ Str.join (Str.ofString ", ") hs ++ Str.ofString ": " ++ prF f
def Okp : Pr → Prop
  | .f f => Okf f
  | .q k hs f => k ∈ (["exists", "forall"] : List Str) ∧ hs ≠ [] ∧ (∀ s ∈ hs, nameOk s = true) ∧ Okf f
def quP : Pr → Str
  | .f _ => ""
  | .q k _ _ => k
def hdP : Pr → List Str
  | .f _ => []
  | .q _ hs _ => hs
def foP : Pr → Fm
  | .f f => f
  | .q _ _ f => f
theorem l_cm : (Str.ofString ", ").cps.toList = [44, 32] ∧ (Str.ofString ": ").cps.toList = [58, 32] ∧ ((",": Str)).cps.toList = [44] ∧ ((":" : Str)).cps.toList = [58] ∧ ("," : Str) ∈ sgnL ∧ (":" : Str) ∈ sgnL ∧ ("," : Str).length = 1 ∧ (":" : Str).length = 1 ∧ (Str.ofString ", ").length = 2 ∧ (Str.ofString ": ").length = 2 := by decide +kernel
theorem join_two (s : Str) (x y : Str) (r : List Str) : Str.join s (x :: y :: r) = x ++ s ++ Str.join s (y :: r) := by
  rw [Str.join]
  intro h
  cases h
theorem join_one (s x : Str) : Str.join s [x] = x := by rw [Str.join]
theorem name_w {s : Str} (h : nameOk s = true) : wholeW s.cps.toList = true ∧ ¬ resW s = true := by
  unfold nameOk at h
  rw [Bool.and_eq_true] at h
  exact ⟨h.1, fun z => by have := h.2; rw [z] at this; (cases this)⟩
theorem tks_hid : ∀ {hs : List Str}, hs ≠ [] → (∀ s ∈ hs, nameOk s = true) → ∀ {rest : List Nat} {p : Nat} {ts : List Tk}, Tks rest (p + (Str.join (Str.ofString ", ") hs).length + 1) ts →
    ∃ th, Tks ((Str.join (Str.ofString ", ") hs).cps.toList ++ 58 :: rest) p (th ++ ts) ∧ ∀ ts', Hid (th ++ ts') hs ts'
  | [], h, _, _, _, _, _ => absurd rfl h
  | [x], _, hk, rest, p, ts, ht => by
    obtain ⟨c1, c2, c3, c4, c5, c6, c7, c8, c9, c10⟩ := l_cm
    obtain ⟨s1, s2, s3, s4, s5, s6, s7, s8⟩ := l_sp
    obtain ⟨w1, w2⟩ := name_w (hk x List.mem_cons_self)
    rw [join_one] at ht ⊢
    have t1 : Tks ((":" : Str).cps.toList ++ rest) (p + x.length) (⟨":", ":", p + x.length⟩ :: ts) := tks_sgn c6 (by rw [c8]; exact ht)
    have t2 := tks_word w1 (rest := (":" : Str).cps.toList ++ rest) (by rw [c4]; exact s7) t1
    rw [if_neg w2, c4] at t2
    exact ⟨[⟨"name", x, p⟩, ⟨":", ":", p + x.length⟩], t2, fun ts' => .one rfl rfl⟩
  | x :: y :: r, _, hk, rest, p, ts, ht => by
    obtain ⟨c1, c2, c3, c4, c5, c6, c7, c8, c9, c10⟩ := l_cm
    obtain ⟨s1, s2, s3, s4, s5, s6, s7, s8⟩ := l_sp
    obtain ⟨w1, w2⟩ := name_w (hk x List.mem_cons_self)
    rw [join_two] at ht ⊢
    rw [app_len, app_len, c9] at ht
    obtain ⟨th, h1, h2⟩ := tks_hid (hs := y :: r) (List.cons_ne_nil _ _) (fun s hs => hk s (List.mem_cons_of_mem _ hs)) (rest := rest) (p := p + x.length + 2) (ts := ts) (by
      rwa [show p + (x.length + 2 + (Str.join (Str.ofString ", ") (y :: r)).length) + 1 = p + x.length + 2 + (Str.join (Str.ofString ", ") (y :: r)).length + 1 by omega] at ht)
    have t0 := Tks.sp (p := p + x.length + 1) h1
    have t1 : Tks (("," : Str).cps.toList ++ _) (p + x.length) (⟨",", ",", p + x.length⟩ :: (th ++ ts)) := tks_sgn c5 (by rw [c7]; exact t0)
    have t2 := tks_word w1 (rest := ("," : Str).cps.toList ++ _) (by rw [c3]; exact s8) t1
    rw [if_neg w2, c3] at t2
    refine ⟨⟨"name", x, p⟩ :: ⟨",", ",", p + x.length⟩ :: th, ?_, fun ts' => .more rfl rfl (h2 ts')⟩
    rw [toL_app, toL_app, c1]
    simpa using t2
theorem head_q : ∀ {f : Fm}, Okf f → ∃ x r, tkF f = x :: r ∧ ¬ x.1 ∈ (["exists", "forall"] : List Str)
  | .c0 k, h => ⟨(k, k), [], rfl, by
    rcases h with h | h
    · rw [h]; decide +kernel
    · rw [h]; decide +kernel⟩
  | .sg s, h => ⟨("name", s), [], rfl, by
    show ¬ ("name" : Str) ∈ _
    decide +kernel⟩
  | .un k f, h => ⟨(psg k, psg k), tkF f, rfl, (show ∀ k ∈ unOps, ¬ psg k ∈ (["exists", "forall"] : List Str) by decide +kernel) k h.1⟩
  | .bin k f g, h => ⟨("(", "("), _, rfl, by
    show ¬ ("(" : Str) ∈ _
    decide +kernel⟩
theorem q_cst : ∀ k ∈ (["exists", "forall"] : List Str), wholeW k.cps.toList = true ∧ resW k = true := by decide +kernel
theorem rda_pr {p : Pr} (h : Okp p) {n : Nat} (hn0 : 6 * pdp (foP p) ≤ n) : ∃ ts, Tks (prP p).cps.toList 0 ts ∧ Rda (n + 6) ts (quP p) (hdP p) (foP p) := by
  cases p with
  | f f =>
    have h : Okf f := h
    obtain ⟨tf, h1, h2⟩ := tks_pr h (rest := []) (p := 0) (ts := [⟨"end", "", 0 + (prF f).length⟩]) trivial .nil
    rw [List.append_nil] at h1
    refine ⟨_, h1, ?_⟩
    obtain ⟨x, r, e1, e2⟩ := head_q h
    rw [e1] at h2
    obtain ⟨t, tr, et, e3, e4⟩ := List.map_eq_cons_iff.mp h2
    have hr := rdf_pr h (n := n) hn0 (tf := tf) (t := ⟨"end", "", 0 + (prF f).length⟩) (r := []) (by rw [h2, e1]) rfl
    rw [et] at hr ⊢
    exact ⟨t, ⟨"end", "", 0 + (prF f).length⟩, tr ++ [⟨"end", "", 0 + (prF f).length⟩], rfl, rfl, .inl ⟨by rw [show t.k = x.1 from congrArg Prod.fst e3]; exact e2, rfl, rfl, [], hr⟩⟩
  | q k hs f =>
    obtain ⟨hk, hne, hn, hf⟩ := h
    obtain ⟨c1, c2, c3, c4, c5, c6, c7, c8, c9, c10⟩ := l_cm
    obtain ⟨s1, s2, s3, s4, s5, s6, s7, s8⟩ := l_sp
    obtain ⟨q1, q2⟩ := q_cst k hk
    generalize hP : k.length + 1 + (Str.join (Str.ofString ", ") hs).length + 2 = P
    obtain ⟨tf, h1, h2⟩ := tks_pr hf (rest := []) (p := P) (ts := [⟨"end", "", P + (prF f).length⟩]) trivial .nil
    rw [List.append_nil] at h1
    obtain ⟨th, t1, t2⟩ := tks_hid hne hn (rest := 32 :: (prF f).cps.toList) (p := k.length + 1) (ts := tf ++ [⟨"end", "", P + (prF f).length⟩]) (.sp (by rw [show k.length + 1 + (Str.join (Str.ofString ", ") hs).length + 1 + 1 = P by omega]; exact h1))
    have t3 := Tks.sp (p := k.length) t1
    have t4 := tks_word q1 (rest := 32 :: _) (p := 0) s5 (by rw [Nat.zero_add]; exact t3)
    rw [if_pos q2] at t4
    refine ⟨⟨k, k, 0⟩ :: (th ++ (tf ++ [⟨"end", "", P + (prF f).length⟩])), ?_, ?_⟩
    · have e : (prP (.q k hs f)).cps.toList = k.cps.toList ++ 32 :: ((Str.join (Str.ofString ", ") hs).cps.toList ++ 58 :: 32 :: (prF f).cps.toList) := by
        show (k ++ Str.ofString " " ++ Str.join (Str.ofString ", ") hs ++ Str.ofString ": " ++ prF f).cps.toList = _
        rw [toL_app, toL_app, toL_app, toL_app, s1, c2]
        simp
      rw [e]
      exact t4
    · exact ⟨⟨k, k, 0⟩, ⟨"end", "", P + (prF f).length⟩, _, rfl, rfl, .inr ⟨hk, rfl, _, [], t2 _, rdf_pr hf (n := n) hn0 h2 rfl⟩⟩
theorem chn_len {R : List Tk → Fm → List Tk → Prop} {l : Nat} {ts r : List Tk} {ops : List Str} {fs : List Fm} (h : Chn R l ts ops fs r) : ops.length = fs.length := by
  induction h with
  | nil _ => rfl
  | cons _ _ _ _ ih => rw [List.length_cons, List.length_cons, ih]
theorem lev_kn : ∀ l ∈ [0, 1, 2, 3, 4], ∀ s ∈ levL.getD l [], (knd infL s).isSome = true := by decide +kernel
theorem chn_kn {R : List Tk → Fm → List Tk → Prop} {l : Nat} (hl : l < 5) {ts r : List Tk} {ops : List Str} {fs : List Fm} (h : Chn R l ts ops fs r) : ∀ s ∈ ops, (knd infL s).isSome = true := by
  induction h with
  | nil _ => intro s hs; cases hs
  | cons h1 h2 _ _ ih =>
    intro s hs
    rcases List.mem_cons.mp hs with e | e
    · rw [e, h2]; exact lev_kn l (lt5 hl) _ h1
    · exact ih s e
/-- the text gets no longer -/
theorem rd_sh {n : Nat} : ∀ {l : Nat} {ts : List Tk} {f : Fm} {r : List Tk}, RdF n l ts f r → r.length < ts.length := by
  have atm : ∀ {R : List Tk → Fm → List Tk → Prop}, (∀ ts f r, R ts f r → r.length < ts.length) → ∀ {ts f r}, Atm R ts f r → r.length < ts.length := by
    intro R hR ts f r h
    cases ts with
    | nil => exact h.elim
    | cons t r1 =>
      rcases h with ⟨_, u, h2, _⟩ | ⟨_, _, _, rfl⟩ | ⟨_, _, _, _, rfl⟩
      · have := hR _ _ _ h2
        rw [List.length_cons] at this ⊢
        omega
      · exact Nat.lt_succ_self _
      · exact Nat.lt_succ_self _
  have una : ∀ {R : List Tk → Fm → List Tk → Prop}, (∀ ts f r, R ts f r → r.length < ts.length) → ∀ {ts ss g r}, Una R ts ss g r → r.length < ts.length := by
    intro R hR ts ss g r h
    induction h with
    | nil _ h2 => exact atm hR h2
    | cons _ _ _ ih => rw [List.length_cons]; omega
  have chn : ∀ {R : List Tk → Fm → List Tk → Prop} {l : Nat}, (∀ ts f r, R ts f r → r.length < ts.length) → ∀ {ts ops fs r}, Chn R l ts ops fs r → r.length + ops.length ≤ ts.length := by
    intro R l hR ts ops fs r h
    induction h with
    | nil _ => simp
    | cons _ _ h3 _ ih =>
      have := hR _ _ _ h3
      rw [List.length_cons, List.length_cons]
      omega
  induction n with
  | zero => intro l ts f r h; exact h.elim
  | succ n ih =>
    intro l ts f r h
    rcases h with ⟨_, ss, g, h2, _⟩ | ⟨_, f1, r1, ops, fs, h1, h2, _⟩
    · exact una (fun _ _ _ h => ih h) h2
    · have a := ih h1
      have b := chn (fun _ _ _ h => ih h) h2
      omega
theorem chn_sh {n m l : Nat} {ts r : List Tk} {ops : List Str} {fs : List Fm} (h : Chn (RdF n m) l ts ops fs r) : r.length + ops.length ≤ ts.length := by
  induction h with
  | nil _ => simp
  | cons _ _ h3 _ ih =>
    have := rd_sh h3
    rw [List.length_cons, List.length_cons]
    omega
theorem una_len {R : List Tk → Fm → List Tk → Prop} {ts : List Tk} {ss : List Str} {g : Fm} {r : List Tk} (h : Una R ts ss g r) : ss.length < ts.length := by
  induction h with
  | nil _ _ => exact Nat.succ_pos _
  | cons _ _ _ ih => exact Nat.succ_lt_succ ih
theorem una_ss {R : List Tk → Fm → List Tk → Prop} {ts : List Tk} {ss : List Str} {g : Fm} {r : List Tk} (h : Una R ts ss g r) : ∀ s ∈ ss, isPre s = true := by
  induction h with
  | nil _ _ => intro s hs; cases hs
  | cons h1 h2 _ ih =>
    intro s hs
    rcases List.mem_cons.mp hs with e | e
    · rw [e, h2]; exact h1
    · exact ih s e
/-! ### where the reader stops -/
def AtE (R : List Tk → Fm → List Tk → Prop) (RE : List Tk → Nat → Prop) : List Tk → Nat → Prop
  | [], _ => False
  | t :: r1, p => (t.k = "(" ∧ (RE r1 p ∨ ∃ f u r, R r1 f (u :: r) ∧ u.k ≠ ")" ∧ p = u.p)) ∨ (t.k ≠ "(" ∧ ¬ t.k ∈ (["true", "false"] : List Str) ∧ t.k ≠ "name" ∧ p = t.p)
inductive UnE (A : List Tk → Nat → Prop) : List Tk → Nat → Prop
  | nil {t : Tk} {ts : List Tk} {p : Nat} : isPre t.k = false → A (t :: ts) p → UnE A (t :: ts) p
  | cons {t : Tk} {ts : List Tk} {p : Nat} : isPre t.k = true → UnE A ts p → UnE A (t :: ts) p
inductive ChE (R : List Tk → Fm → List Tk → Prop) (RE : List Tk → Nat → Prop) (l : Nat) : List Tk → Nat → Prop
  | here {t : Tk} {r1 : List Tk} {p : Nat} : t.k ∈ levL.getD l [] → RE r1 p → ChE R RE l (t :: r1) p
  | more {t : Tk} {r1 r2 : List Tk} {f : Fm} {p : Nat} : t.k ∈ levL.getD l [] → R r1 f r2 → ChE R RE l r2 p → ChE R RE l (t :: r1) p
def RdE : Nat → Nat → List Tk → Nat → Prop
  | 0, _, _, _ => False
  | n + 1, l, ts, p => (l = 5 ∧ UnE (AtE (RdF n 0) (RdE n 0)) ts p) ∨ (l < 5 ∧ (RdE n (l + 1) ts p ∨ ∃ f1 r1, RdF n (l + 1) ts f1 r1 ∧ ChE (RdF n (l + 1)) (RdE n (l + 1)) l r1 p))
inductive HiE : List Tk → Nat → Prop
  | nm {t : Tk} {r : List Tk} : t.k ≠ "name" → HiE (t :: r) t.p
  | sep {t u : Tk} {r : List Tk} : t.k = "name" → u.k ≠ "," → u.k ≠ ":" → HiE (t :: u :: r) u.p
  | more {t u : Tk} {r : List Tk} {p : Nat} : t.k = "name" → u.k = "," → HiE r p → HiE (t :: u :: r) p
def RlE (n : Nat) (ts : List Tk) (p : Nat) : Prop := RdE n 0 ts p ∨ ∃ f u r, RdF n 0 ts f (u :: r) ∧ u.k ≠ "end" ∧ p = u.p
def RaE (n : Nat) (ts : List Tk) (p : Nat) : Prop := ∃ (t : Tk) (r : List Tk), ts = t :: r ∧ ((¬ t.k ∈ (["exists", "forall"] : List Str) ∧ RlE n ts p) ∨ (t.k ∈ (["exists", "forall"] : List Str) ∧ (HiE r p ∨ ∃ hs r1, Hid r hs r1 ∧ RlE n r1 p)))
/-- a token as the text makes it -/
def Tg (t : Tk) : Prop := t.k ≠ "name" → t.k ≠ "end" → t.k ≠ "bad" → t.c = t.k
inductive WT : List Tk → Prop
  | last {t : Tk} : t.k = "end" ∨ t.k = "bad" → WT [t]
  | cons {t : Tk} {r : List Tk} : t.k ≠ "end" → t.k ≠ "bad" → Tg t → WT r → WT (t :: r)
abbrev infK : List Str := ["<->", "->", "|", "&", "U", "W", "R", "S", "T"]
abbrev atmK : List Str := ["name", "true", "false"]
/-- the tokens one by one: is an operand wished for, how many parentheses are open -/
def fa : Bool → Nat → List Tk → Int
  | _, _, [] => -1
  | true, k, t :: r => if t.k ∈ atmK then fa false k r else if t.k = "(" then fa true (k + 1) r else if isPre t.k = true then fa true k r else t.p
  | false, k, t :: r => if t.k ∈ infK then fa true k r else if t.k = ")" ∧ 0 < k then fa false (k - 1) r else if t.k = "end" ∧ k = 0 then -1 else t.p
def hf : List Tk → Int
  | [] => -1
  | [t] => t.p
  | t :: u :: r => if t.k = "name" then (if u.k = ":" then fa true 0 r else if u.k = "," then hf r else u.p) else t.p
def pf : List Tk → Int
  | [] => -1
  | t :: r => if t.k ∈ (["exists", "forall"] : List Str) then hf r else fa true 0 (t :: r)
def np (ts : List Tk) : Nat := (ts.filter fun t : Tk => decide (t.k = ("(" : Str))).length
theorem np_cons (t : Tk) (r : List Tk) : np (t :: r) = (if t.k = "(" then 1 else 0) + np r := by
  unfold np
  by_cases c : t.k = "("
  · rw [List.filter_cons_of_pos (by simpa using c), if_pos c, List.length_cons]; omega
  · rw [List.filter_cons_of_neg (by simpa using c), if_neg c]; omega
theorem k_lev : ∀ l ∈ [0, 1, 2, 3, 4], ∀ s ∈ levL.getD l [], s ∈ infK ∧ s ≠ "end" ∧ s ≠ "bad" ∧ s ≠ "name" := by decide +kernel
theorem k_inf : ∀ s ∈ infK, ∃ l ∈ [0, 1, 2, 3, 4], s ∈ levL.getD l [] := by decide +kernel
theorem k_atm : ∀ s ∈ atmK, isPre s = false ∧ s ≠ "(" := by decide +kernel
theorem k_par : isPre "(" = false ∧ ¬ ("(" : Str) ∈ (["true", "false"] : List Str) ∧ ¬ ("(" : Str) ∈ atmK ∧ ("(" : Str) ≠ "end" ∧ ("(" : Str) ≠ "bad" ∧ ("end" : Str) ∉ infK ∧ ("end" : Str) ≠ ")" ∧ (")" : Str) ∉ infK ∧ (")" : Str) ≠ "end" ∧ (")" : Str) ≠ "bad" ∧ ("end" : Str) ≠ "bad" := by decide +kernel
theorem k_pre : ∀ s ∈ preL.map (fun p : Str × Str => p.2), s ≠ "(" ∧ s ∉ atmK ∧ s ≠ "end" ∧ s ≠ "bad" ∧ s ≠ "name" := by decide +kernel
theorem isPre_mem {s : Str} (h : isPre s = true) : s ∈ preL.map (fun p : Str × Str => p.2) := by
  unfold isPre knd at h
  cases e : preL.find? (fun p => decide (p.2 = s)) with
  | none => rw [e] at h; cases h
  | some p =>
    have h1 := List.find?_some e
    have h2 := List.mem_of_find?_eq_some e
    rw [← of_decide_eq_true h1]
    exact List.mem_map_of_mem h2
theorem WT.ne {ts : List Tk} (h : WT ts) : ts ≠ [] := by cases h <;> simp
theorem WT.tail {t : Tk} {r : List Tk} (h : WT (t :: r)) (h1 : t.k ≠ "end") (h2 : t.k ≠ "bad") : WT r ∧ Tg t := by
  cases h with
  | last h => exact (h.elim h1 h2).elim
  | cons _ _ g w => exact ⟨w, g⟩
/-- the rest, with what does not stand at its head -/
structure Aft (l : Nat) (k : Nat) (ts r : List Tk) : Prop where
  w : WT r
  np : np r ≤ np ts
  hd : ∀ t r', r = t :: r' → ∀ j, l ≤ j → j < 5 → ¬ t.k ∈ levL.getD j []
theorem tot_una {n : Nat} (ih : ∀ (ts : List Tk), WT ts → 6 * np ts + 6 ≤ n → (∃ f r, RdF n 0 ts f r ∧ WT r ∧ np r ≤ np ts ∧ (∀ t r', r = t :: r' → ¬ t.k ∈ infK) ∧ ∀ k, fa true k ts = fa false k r) ∨ (∃ p : Nat, RdE n 0 ts p ∧ ∀ k, fa true k ts = (p : Int))) :
    ∀ (ts : List Tk), WT ts → 6 * np ts ≤ n → (∃ ss g r, Una (RdF n 0) ts ss g r ∧ WT r ∧ np r ≤ np ts ∧ ∀ k, fa true k ts = fa false k r) ∨ (∃ p : Nat, UnE (AtE (RdF n 0) (RdE n 0)) ts p ∧ ∀ k, fa true k ts = (p : Int))
  | [], w, _ => (w.ne rfl).elim
  | t :: r, w, hn => by
    obtain ⟨p1, p2, p3, p4, p5, p6, p7, p8, p9, p10, p11⟩ := k_par
    have hnp := np_cons t r
    by_cases c1 : isPre t.k = true
    · obtain ⟨q1, q2, q3, q4, q5⟩ := k_pre _ (isPre_mem c1)
      obtain ⟨w2, g2⟩ := w.tail q3 q4
      rw [if_neg q1, Nat.zero_add] at hnp
      have e : ∀ k, fa true k (t :: r) = fa true k r := fun k => by
        conv => lhs; unfold fa
        rw [if_neg q2, if_neg q1, if_pos c1]
      rcases tot_una ih r w2 (by omega) with ⟨ss, g, r', h1, h2, h3, h4⟩ | ⟨p, h1, h2⟩
      · exact .inl ⟨t.c :: ss, g, r', .cons c1 (g2 q5 q3 q4) h1, h2, by omega, fun k => (e k).trans (h4 k)⟩
      · exact .inr ⟨p, .cons c1 h1, fun k => (e k).trans (h2 k)⟩
    have c1 : isPre t.k = false := by simpa using c1
    by_cases c2 : t.k = "("
    · obtain ⟨w2, g2⟩ := w.tail (by rw [c2]; exact p4) (by rw [c2]; exact p5)
      rw [if_pos c2] at hnp
      have e : ∀ k, fa true k (t :: r) = fa true (k + 1) r := fun k => by
        conv => lhs; unfold fa
        rw [if_neg (by rw [c2]; exact p3), if_pos c2]
      rcases ih r w2 (by omega) with ⟨f, r', h1, h2, h3, h5, h4⟩ | ⟨p, h1, h2⟩
      · cases r' with
        | nil => exact (h2.ne rfl).elim
        | cons u r' =>
          have hu := h5 u r' rfl
          by_cases c3 : u.k = ")"
          · obtain ⟨w3, _⟩ := h2.tail (by rw [c3]; exact p9) (by rw [c3]; exact p10)
            refine .inl ⟨[], f, r', .nil c1 (.inl ⟨c2, u, h1, c3⟩), w3, ?_, fun k => ?_⟩
            · have := np_cons u r'
              omega
            · rw [e, h4]
              conv => lhs; unfold fa
              rw [if_neg hu, if_pos ⟨c3, Nat.succ_pos _⟩]
              rfl
          · refine .inr ⟨u.p, .nil c1 (.inl ⟨c2, .inr ⟨f, u, r', h1, c3, rfl⟩⟩), fun k => ?_⟩
            rw [e, h4]
            conv => lhs; unfold fa
            rw [if_neg hu, if_neg (fun z => c3 z.1), if_neg (fun z => absurd z.2 (Nat.succ_ne_zero _))]
      · exact .inr ⟨p, .nil c1 (.inl ⟨c2, .inl h1⟩), fun k => (e k).trans (h2 _)⟩
    by_cases c3 : t.k ∈ atmK
    · have c3' : t.k = "name" ∨ t.k ∈ (["true", "false"] : List Str) := List.mem_cons.mp c3
      have ne : t.k ≠ "end" ∧ t.k ≠ "bad" := (show ∀ s ∈ atmK, s ≠ "end" ∧ s ≠ "bad" by decide +kernel) _ c3
      obtain ⟨w2, g2⟩ := w.tail ne.1 ne.2
      have e : ∀ k, fa true k (t :: r) = fa false k r := fun k => by
        conv => lhs; unfold fa
        rw [if_pos c3]
      by_cases c4 : t.k ∈ (["true", "false"] : List Str)
      · exact .inl ⟨[], .c0 t.c, r, .nil c1 (.inr (.inl ⟨c2, c4, rfl, rfl⟩)), w2, by omega, e⟩
      · exact .inl ⟨[], .sg t.c, r, .nil c1 (.inr (.inr ⟨c2, c4, c3'.resolve_right c4, rfl, rfl⟩)), w2, by omega, e⟩
    · have c4 : ¬ t.k ∈ (["true", "false"] : List Str) := fun z => c3 (List.mem_cons_of_mem _ z)
      refine .inr ⟨t.p, .nil c1 (.inr ⟨c2, c4, fun z => c3 (by rw [z]; simp), rfl⟩), fun k => ?_⟩
      conv => lhs; unfold fa
      rw [if_neg c3, if_neg c2, if_neg (by rw [c1]; exact Bool.false_ne_true)]
theorem tot_chn {n l : Nat} (hl : l < 5) (ih : ∀ (ts : List Tk), WT ts → 6 * np ts + 6 - (l + 1) ≤ n → (∃ f r, RdF n (l + 1) ts f r ∧ WT r ∧ np r ≤ np ts ∧ (∀ t r', r = t :: r' → ∀ j, l + 1 ≤ j → j < 5 → ¬ t.k ∈ levL.getD j []) ∧ ∀ k, fa true k ts = fa false k r) ∨ (∃ p : Nat, RdE n (l + 1) ts p ∧ ∀ k, fa true k ts = (p : Int))) :
    ∀ (m : Nat) (ts : List Tk), ts.length ≤ m → WT ts → 6 * np ts + 6 - (l + 1) ≤ n → (∀ t r', ts = t :: r' → ∀ j, l + 1 ≤ j → j < 5 → ¬ t.k ∈ levL.getD j []) →
      (∃ ops fs r, Chn (RdF n (l + 1)) l ts ops fs r ∧ WT r ∧ np r ≤ np ts ∧ (∀ t r', r = t :: r' → ∀ j, l ≤ j → j < 5 → ¬ t.k ∈ levL.getD j []) ∧ ∀ k, fa false k ts = fa false k r) ∨ (∃ p : Nat, ChE (RdF n (l + 1)) (RdE n (l + 1)) l ts p ∧ ∀ k, fa false k ts = (p : Int))
  | 0, ts, hm, w, _, _ => (w.ne (List.length_eq_zero_iff.mp (Nat.le_zero.mp hm))).elim
  | m + 1, ts, hm, w, hn, hd => by
    cases ts with
    | nil => exact (w.ne rfl).elim
    | cons t r =>
      by_cases c : t.k ∈ levL.getD l []
      · obtain ⟨q1, q2, q3, q4⟩ := k_lev l (lt5 hl) _ c
        obtain ⟨w2, g2⟩ := w.tail q2 q3
        have hnp := np_cons t r
        have e : ∀ k, fa false k (t :: r) = fa true k r := fun k => by
          conv => lhs; unfold fa
          rw [if_pos q1]
        rcases ih r w2 (by split at hnp <;> omega) with ⟨f, r2, h1, h2, h3, h5, h4⟩ | ⟨p, h1, h2⟩
        · have hs := rd_sh h1
          rw [List.length_cons] at hm
          rcases tot_chn hl ih m r2 (by omega) h2 (by split at hnp <;> omega) h5 with ⟨ops, fs, r3, k1, k2, k3, k4, k5⟩ | ⟨p, k1, k2⟩
          · exact .inl ⟨t.c :: ops, f :: fs, r3, .cons c (g2 q4 q2 q3) h1 k1, k2, by split at hnp <;> omega, k4, fun k => by rw [e, h4, k5]⟩
          · exact .inr ⟨p, .more c h1 k1, fun k => by rw [e, h4, k2]⟩
        · exact .inr ⟨p, .here c h1, fun k => (e k).trans (h2 k)⟩
      · refine .inl ⟨[], [], t :: r, .nil c, w, Nat.le_refl _, fun t' r' e j h1 h2 => ?_, fun k => rfl⟩
        by_cases z : j = l
        · cases e
          rw [z]
          exact c
        · exact hd t' r' e j (by omega) h2
theorem tot_rd : ∀ (n l : Nat), l ≤ 5 → ∀ (ts : List Tk), WT ts → 6 * np ts + 6 - l ≤ n → (∃ f r, RdF n l ts f r ∧ WT r ∧ np r ≤ np ts ∧ (∀ t r', r = t :: r' → ∀ j, l ≤ j → j < 5 → ¬ t.k ∈ levL.getD j []) ∧ ∀ k, fa true k ts = fa false k r) ∨ (∃ p : Nat, RdE n l ts p ∧ ∀ k, fa true k ts = (p : Int))
  | 0, l, hl, ts, w, hn => by omega
  | n + 1, l, hl, ts, w, hn => by
    by_cases c : l = 5
    · subst c
      have ih : ∀ (ts : List Tk), WT ts → 6 * np ts + 6 ≤ n → (∃ f r, RdF n 0 ts f r ∧ WT r ∧ np r ≤ np ts ∧ (∀ t r', r = t :: r' → ¬ t.k ∈ infK) ∧ ∀ k, fa true k ts = fa false k r) ∨ (∃ p : Nat, RdE n 0 ts p ∧ ∀ k, fa true k ts = (p : Int)) := fun ts w h => by
        rcases tot_rd n 0 (Nat.zero_le _) ts w h with ⟨f, r, h1, h2, h3, h4, h5⟩ | h1
        · refine .inl ⟨f, r, h1, h2, h3, fun t r' e hk => ?_, h5⟩
          obtain ⟨j, hj, hm⟩ := k_inf _ hk
          exact h4 t r' e j (Nat.zero_le _) (by simp at hj; omega) hm
        · exact .inr h1
      rcases tot_una ih ts w (by omega) with ⟨ss, g, r, h1, h2, h3, h4⟩ | ⟨p, h1, h2⟩
      · exact .inl ⟨wrp ss g, r, .inl ⟨rfl, ss, g, h1, rfl⟩, h2, h3, fun t r' e j h1 h2 => by omega, h4⟩
      · exact .inr ⟨p, .inl ⟨rfl, h1⟩, h2⟩
    · have hl5 : l < 5 := by omega
      have ih := tot_rd n (l + 1) hl5
      rcases ih ts w (by omega) with ⟨f1, r1, h1, h2, h3, h4, h5⟩ | ⟨p, h1, h2⟩
      · rcases tot_chn hl5 ih r1.length r1 (Nat.le_refl _) h2 (by omega) h4 with ⟨ops, fs, r, k1, k2, k3, k4, k5⟩ | ⟨p, k1, k2⟩
        · exact .inl ⟨fld ops f1 fs, r, .inr ⟨hl5, f1, r1, ops, fs, h1, k1, rfl⟩, k2, by omega, k4, fun k => by rw [h5, k5]⟩
        · exact .inr ⟨p, .inr ⟨hl5, .inr ⟨f1, r1, h1, k1⟩⟩, fun k => by rw [h5, k2]⟩
      · exact .inr ⟨p, .inr ⟨hl5, .inl h1⟩, h2⟩
/-- a whole formula up to the end -/
theorem tot_rl {n : Nat} {ts : List Tk} (w : WT ts) (hn : 6 * np ts + 6 ≤ n) : (∃ f u r, RdF n 0 ts f (u :: r) ∧ u.k = "end" ∧ fa true 0 ts = -1) ∨ (∃ p : Nat, RlE n ts p ∧ fa true 0 ts = (p : Int)) := by
  obtain ⟨p1, p2, p3, p4, p5, p6, p7, p8, p9, p10, p11⟩ := k_par
  rcases tot_rd n 0 (Nat.zero_le _) ts w hn with ⟨f, r, h1, h2, h3, h4, h5⟩ | ⟨p, h1, h2⟩
  · cases r with
    | nil => exact (h2.ne rfl).elim
    | cons u r =>
      have hu : ¬ u.k ∈ infK := fun hk => by
        obtain ⟨j, hj, hm⟩ := k_inf _ hk
        exact h4 u r rfl j (Nat.zero_le _) (by simp at hj; omega) hm
      by_cases c : u.k = "end"
      · refine .inl ⟨f, u, r, h1, c, ?_⟩
        rw [h5]
        unfold fa
        rw [if_neg hu, if_neg (fun z => absurd z.2 (Nat.lt_irrefl _)), if_pos ⟨c, rfl⟩]
      · refine .inr ⟨u.p, .inr ⟨f, u, r, h1, c, rfl⟩, ?_⟩
        rw [h5]
        unfold fa
        rw [if_neg hu, if_neg (fun z => absurd z.2 (Nat.lt_irrefl _)), if_neg (fun z => c z.1)]
  · exact .inr ⟨p, .inl h1, h2 0⟩
theorem tot_hid {n : Nat} : ∀ {ts : List Tk}, WT ts → 6 * np ts + 6 ≤ n → (∃ hs r1 f u r, Hid ts hs r1 ∧ RdF n 0 r1 f (u :: r) ∧ u.k = "end" ∧ hf ts = -1) ∨ (∃ p : Nat, (HiE ts p ∨ ∃ hs r1, Hid ts hs r1 ∧ RlE n r1 p) ∧ hf ts = (p : Int))
  | [], w, _ => (w.ne rfl).elim
  | [t], w, _ => by
    have hne : t.k ≠ "name" := by
      cases w with
      | last h => rcases h with h | h <;> rw [h] <;> decide
      | cons _ _ _ w => exact (w.ne rfl).elim
    exact .inr ⟨t.p, .inl (.nm hne), rfl⟩
  | t :: u :: r, w, hn => by
    by_cases c : t.k = "name"
    · obtain ⟨w2, _⟩ := w.tail (by rw [c]; decide) (by rw [c]; decide)
      have n1 := np_cons t (u :: r)
      have n2 := np_cons u r
      have hnr : 6 * np r + 6 ≤ n := by split at n1 <;> split at n2 <;> omega
      by_cases c2 : u.k = ":"
      · obtain ⟨w3, _⟩ := w2.tail (by rw [c2]; decide) (by rw [c2]; decide)
        have e : hf (t :: u :: r) = fa true 0 r := by
          unfold hf
          rw [if_pos c, if_pos c2]
        rcases tot_rl w3 hnr with ⟨f, v, r', h1, h2, h3⟩ | ⟨p, h1, h2⟩
        · exact .inl ⟨[t.c], r, f, v, r', .one c c2, h1, h2, e.trans h3⟩
        · exact .inr ⟨p, .inr ⟨[t.c], r, .one c c2, h1⟩, e.trans h2⟩
      · by_cases c3 : u.k = ","
        · obtain ⟨w3, _⟩ := w2.tail (by rw [c3]; decide) (by rw [c3]; decide)
          have e : hf (t :: u :: r) = hf r := by
            conv => lhs; unfold hf
            rw [if_pos c, if_neg c2, if_pos c3]
          rcases tot_hid w3 hnr with ⟨hs, r1, f, v, r', h0, h1, h2, h3⟩ | ⟨p, h1, h2⟩
          · exact .inl ⟨t.c :: hs, r1, f, v, r', .more c c3 h0, h1, h2, e.trans h3⟩
          · refine .inr ⟨p, ?_, e.trans h2⟩
            rcases h1 with h1 | ⟨hs, r1, h3, h4⟩
            · exact .inl (.more c c3 h1)
            · exact .inr ⟨t.c :: hs, r1, .more c c3 h3, h4⟩
        · refine .inr ⟨u.p, .inl (.sep c c3 c2), ?_⟩
          unfold hf
          rw [if_pos c, if_neg c2, if_neg c3]
    · refine .inr ⟨t.p, .inl (.nm c), ?_⟩
      unfold hf
      rw [if_neg c]
theorem tot_all {n : Nat} {ts : List Tk} (w : WT ts) (hn : 6 * np ts + 6 ≤ n) : (∃ q hs f, Rda n ts q hs f ∧ pf ts = -1) ∨ (∃ p : Nat, RaE n ts p ∧ pf ts = (p : Int)) := by
  cases ts with
  | nil => exact (w.ne rfl).elim
  | cons t r =>
    by_cases c : t.k ∈ (["exists", "forall"] : List Str)
    · have ne : t.k ≠ "end" ∧ t.k ≠ "bad" := (show ∀ s ∈ (["exists", "forall"] : List Str), s ≠ "end" ∧ s ≠ "bad" by decide +kernel) _ c
      obtain ⟨w2, _⟩ := w.tail ne.1 ne.2
      have n1 := np_cons t r
      have e : pf (t :: r) = hf r := if_pos c
      rcases tot_hid (n := n) w2 (by split at n1 <;> omega) with ⟨hs, r1, f, u, r', h0, h1, h2, h3⟩ | ⟨p, h1, h2⟩
      · exact .inl ⟨t.c, hs, f, ⟨t, u, r, rfl, h2, .inr ⟨c, rfl, r1, r', h0, h1⟩⟩, e.trans h3⟩
      · exact .inr ⟨p, ⟨t, r, rfl, .inr ⟨c, h1⟩⟩, e.trans h2⟩
    · have e : pf (t :: r) = fa true 0 (t :: r) := if_neg c
      rcases tot_rl (n := n) w hn with ⟨f, u, r', h1, h2, h3⟩ | ⟨p, h1, h2⟩
      · exact .inl ⟨"", [], f, ⟨t, u, r, rfl, h2, .inl ⟨c, rfl, rfl, r', h1⟩⟩, e.trans h3⟩
      · exact .inr ⟨p, ⟨t, r, rfl, .inl ⟨c, h1⟩⟩, e.trans h2⟩
theorem op_inKD {X : Cx} {K : PySem.W.Frag} {w : World} {d : Addr} {es : Array DictEntry} {n : Nat} (h : X.K = K) (hw : X.w = w) (D : KDict K w d es n) :
    OpR X (compareOp .In) (fun x y H Q => ∃ (z : Str) (r : Option Value), x = .str z ∧ y = .ref d ∧ PySem.W.nsIn K d z = some r ∧ Q (.bl r.isSome) H) := by
  subst h
  subst hw
  exact op_in_kd D
theorem ix_KD {X : Cx} {K : PySem.W.Frag} {w : World} (h : X.K = K) (hw : X.w = w) : IxR X (rIxD K w) := by
  subst h
  subst hw
  exact ix_kdict
theorem gloP (T : Txt K mg w P) : ∃ aR : Addr, mg "PREFIX_SIGNS" = some (.ref aR) ∧ Kt7.KIt K w aR preL := T.er.2.2.2.1
theorem gloI (T : Txt K mg w P) : ∃ aI : Addr, mg "INFIX_SIGNS" = some (.ref aI) ∧ Kt7.KIt K w aI infL := T.er.2.2.2.2.1
theorem inC {σ : L2.St} {H : Hp} {p : Addr} {ss : List Str} {k : Str} {Q : VK} (h : SqT K H p (ss.map V.str)) (q : Q (.bl (decide (k ∈ ss))) H) : tC (V.ref p) σ H (fun y H2 => rIn K false (.str k) y H2 Q) := inq h q
theorem pr_len_un (k : Str) (f : Fm) : (prF f).length ≤ (prF (.un k f)).length := by
  show _ ≤ (psg k ++ prF f).length
  rw [app_len]
  omega
theorem pr_len_bin (k : Str) (f g : Fm) : (prF (.bin k f g)).length = 1 + (prF f).length + 1 + (isg k).length + 1 + (prF g).length + 1 := by
  obtain ⟨o1, o2, o3⟩ := l_one
  show (Str.ofString "(" ++ prF f ++ Str.ofString " " ++ isg k ++ Str.ofString " " ++ prF g ++ Str.ofString ")").length = _
  rw [app_len, app_len, app_len, app_len, app_len, app_len, o1, o2, o3]
theorem str_bin (a : Str) : Str.empty ++ a = a := by
  show (⟨Str.empty.cps ++ a.cps⟩ : Str) = a
  have : Str.empty.cps = #[] := by decide +kernel
  rw [this, Array.empty_append]
theorem un_cst : ∀ k ∈ unOps, ¬ k ∈ (["true", "false"] : List Str) ∧ preL.lookup k = some (psg k) := by decide +kernel
theorem bin_cst : ∀ k ∈ binOps, ¬ k ∈ (["true", "false"] : List Str) ∧ preL.lookup k = none ∧ infL.lookup k = some (isg k) := by decide +kernel
theorem kd_q : ∀ {f : Fm}, Okf f → ¬ kd f ∈ (["exists", "forall"] : List Str)
  | .c0 k, h => by
    show ¬ k ∈ _
    have h : k = "true" ∨ k = "false" := h
    rcases h with h | h
    · rw [h]; decide +kernel
    · rw [h]; decide +kernel
  | .sg s, h => by
    show ¬ sSig ∈ _
    decide +kernel
  | .un k f, h => (show ∀ k ∈ unOps, ¬ k ∈ (["exists", "forall"] : List Str) by decide +kernel) k h.1
  | .bin k f g, h => (show ∀ k ∈ binOps, ¬ k ∈ (["exists", "forall"] : List Str) by decide +kernel) k h.1
theorem q_len : ∀ k ∈ (["exists", "forall"] : List Str), k.length ≤ 6 := by decide +kernel
theorem sum_le {m : Nat} : ∀ {xs : List Str}, (∀ s ∈ xs, s.length ≤ m) → (xs.map (·.length)).sum ≤ xs.length * m
  | [], _ => Nat.zero_le _
  | x :: xs, h => by
    rw [List.map_cons, List.sum_cons, List.length_cons]
    have h1 := h x List.mem_cons_self
    have h2 := sum_le (xs := xs) fun s hs => h s (List.mem_cons_of_mem _ hs)
    rw [Nat.add_mul, Nat.one_mul]
    omega
theorem join_le (xs : List Str) (h1 : xs.length ≤ 10) (h2 : ∀ s ∈ xs, s.length ≤ 100) : (Str.join (Str.ofString ", ") xs).length ≤ 1020 := by
  have hjl := StrLaws.join_length_le (Str.ofString ", ") xs
  have hs := sum_le h2
  have hz : (Str.ofString ", ").length = 2 := l_cm.2.2.2.2.2.2.2.2.1
  rw [hz] at hjl
  have : xs.length * 100 ≤ 1000 := by omega
  omega
abbrev VN (n : Nat) : V := .int (n : Int)
theorem nw {H H1 : Hp} {p : Addr} {o : HO} (hp : H p = none) (e : upd H p o = H1) : Same H H1 ∧ H1 p = some o := e ▸ ⟨same_new hp, upd_same⟩
theorem mw {H0 H H1 : Hp} {p : Addr} {o : HO} (s : Same H0 H) (hp : H0 p = none) (e : upd H p o = H1) : Same H0 H1 ∧ H1 p = some o ∧ ∀ q, q ≠ p → H1 q = H q := e ▸ ⟨fun b x hb => by
  rw [upd_ne (ne_of_none hb hp)]
  exact s _ _ hb, upd_same, fun q hq => upd_ne hq⟩
theorem mwt {H H1 : Hp} {p : Addr} {o : HO} {l : List V} (h : H p = some (.lst l)) (e : upd H p o = H1) : ∀ b xs, H b = some (.tup xs) → H1 b = some (.tup xs) := e ▸ fun b xs hb => by
  rw [upd_ne (fun z => by rw [z, h] at hb; cases hb)]
  exact hb
theorem iteB_t {c : Bool} {A B : Prop} (e : c = true) (h : A) : if c = true then A else B := by rw [if_pos e]; exact h
theorem iteB_f {c : Bool} {A B : Prop} (e : c = false) (h : B) : if c = true then A else B := by rw [if_neg (by rw [e]; exact Bool.false_ne_true)]; exact h
theorem snocg {α : Type} {xs : List α} {x y : α} {j : Nat} (h : (xs ++ [x])[j]? = some y) : (j < xs.length ∧ xs[j]? = some y) ∨ (j = xs.length ∧ y = x) := by
  rcases Nat.lt_or_ge j xs.length with c | c
  · rw [List.getElem?_append_left c] at h
    exact .inl ⟨c, h⟩
  · rw [List.getElem?_append_right c] at h
    have e : j - xs.length = 0 := by
      cases e : j - xs.length with
      | zero => rfl
      | succ n => rw [e] at h; cases h
    rw [e] at h
    exact .inr ⟨by omega, (Option.some.inj h).symm⟩
theorem nats_get {xs : List Nat} {j : Nat} {y : V} (h : (xs.map VN)[j]? = some y) : ∃ t, xs[j]? = some t ∧ y = VN t := by
  rw [List.getElem?_map] at h
  cases e : xs[j]? with
  | none => rw [e] at h; cases h
  | some t => rw [e] at h; exact ⟨t, rfl, (Option.some.inj h).symm⟩
theorem refsg {as : List Addr} {i : Nat} {v : V} (h : (as.map V.ref)[i]? = some v) : ∃ a, as[i]? = some a ∧ v = .ref a := by
  rw [List.getElem?_map] at h
  cases e : as[i]? with
  | none => rw [e] at h; cases h
  | some z => rw [e] at h; exact ⟨z, rfl, (Option.some.inj h).symm⟩
theorem mapg {α β : Type} {f : α → β} {xs : List α} {i : Nat} {y : β} (h : (xs.map f)[i]? = some y) : ∃ x, xs[i]? = some x ∧ y = f x := by
  rw [List.getElem?_map] at h
  cases e : xs[i]? with
  | none => rw [e] at h; cases h
  | some z => rw [e] at h; exact ⟨z, rfl, (Option.some.inj h).symm⟩
theorem atN {α : Type} {f : α → V} {xs : List α} {i : Nat} {x : α} (h : xs[i]? = some x) : atI (xs.map f) (i : Int) = some (f x) := atI_nat (by rw [List.getElem?_map, h]; rfl)
theorem lt_of_get {α : Type} {xs : List α} {i : Nat} {x : α} (h : xs[i]? = some x) : i < xs.length := (List.getElem?_eq_some_iff.mp h).1
theorem Same_fr {H H' : Hp} {p : Addr} (s : Same H H') (h : H' p = none) : H p = none := by
  cases e : H p with
  | none => rfl
  | some o => rw [s _ _ e] at h; cases h
theorem find_at {α : Type} {p : α → Bool} : ∀ {l : List α} {i : Nat} {s : α}, l[i]? = some s → p s = true → (∀ j, j < i → ∀ u, l[j]? = some u → p u = false) → l.find? p = some s
  | [], i, s, h, _, _ => by simp at h
  | x :: l, 0, s, h, hp, _ => by
    cases h
    rw [List.find?_cons, hp]
  | x :: l, i + 1, s, h, hp, hn => by
    rw [List.find?_cons, hn 0 (Nat.succ_pos i) x rfl]
    exact find_at (i := i) (by simpa using h) hp fun j hj u hu => hn (j + 1) (Nat.succ_lt_succ hj) u (by simpa using hu)
theorem find_no {α : Type} {p : α → Bool} {l : List α} (h : ∀ j, j < l.length → ∀ u, l[j]? = some u → p u = false) : l.find? p = none :=
  List.find?_eq_none.mpr fun u hu z => by
    obtain ⟨j, hj⟩ := List.mem_iff_getElem?.mp hu
    rw [h j (lt_of_get hj) u hj] at z
    cases z
theorem cutS_mid (t : Str) (a m : Nat) (h : a ≤ t.length) : cutS t (some (a : Int)) (some ((a + m : Nat) : Int)) = ⟨((t.cps.toList.drop a).take m).toArray⟩ := by
  unfold cutS
  rw [HT.sIx_nat, HT.sIx_nat]
  rw [Nat.min_eq_left h]
  have hl := str_len t
  by_cases c : a + m ≤ t.length
  · rw [Nat.min_eq_left c]
    simp [List.take_drop, Nat.add_comm]
  · rw [Nat.min_eq_right (by omega)]
    rw [List.take_of_length_le (show (t.cps.toList.drop a).length ≤ m by rw [List.length_drop]; omega), List.take_of_length_le (show (t.cps.toList.drop a).length ≤ t.length - a by rw [List.length_drop]; omega)]
theorem mk_eq {l : List Nat} {s : Str} : (decide (V.str (⟨l.toArray⟩ : Str) = V.str s)) = decide (l = s.cps.toList) := by
  by_cases c : l = s.cps.toList
  · rw [decide_eq_true c]
    refine decide_eq_true ?_
    rw [c, Array.toArray_toList]
  · rw [decide_eq_false c]
    refine decide_eq_false fun z => c ?_
    have := V.str.inj z
    rw [← this]
def spTa (K : PySem.W.Frag) : Sp := fun vs H Q _ => ∃ (t : Str) (a : Nat), vs = [.str t, .int a] ∧ t.length ≤ 10000 ∧ a ≤ t.length ∧
  ∀ p, H p = none → Q (.ref p) (upd H p (.tup [.str (tokOf (t.cps.toList.drop a)).1, .str (tokOf (t.cps.toList.drop a)).2]))
theorem gloG (T : Txt K mg w P) : ∃ aG : Addr, GloT K mg "SIGNS" sgnL aG := by
  obtain ⟨⟨aQ, aN, aF, aP, aG, aA, _, _, _, _, g, _⟩, _⟩ := T.er
  exact ⟨aG, g⟩
theorem sgn_small : ∀ s ∈ sgnL, s.length ≤ 3 := by decide +kernel
theorem cal_ta (T : Txt K mg w P) : C8.Cal P w K mg base 2 "token_at" (spTa K) [] := by
  have C_word_at : C8.Cal P w K mg base 1 "word_at" spWat [] := cal_wat T
  have C_is_reserved : C8.Cal P w K mg base 1 "is_reserved" spRes [] := cal_res T
  obtain ⟨aG, gG⟩ := gloG T
  obtain ⟨f, fd, F, hm, hb⟩ := T.h_token_at
  refine ⟨f, fd, _, [], F.ok sc_token_at (fun vs H Q E h => ?_) (fun cdv A outer s H vs Q E hr h => ?_), hm, F.kp, hb, .nil⟩
  · obtain ⟨t, a, rfl, _⟩ := h
    rfl
  · obtain ⟨t, a, rfl, hz, ha, q⟩ := h
    refine ⟨_, (pss_cons
      (ps_for PassesOwn.never rfl (pi_tup (pe_glob (v := .ref aG) (by rfl) gG.g rfl)) (pg_name (i := 2) sc_token_at.nd rfl (.inl rfl)) (pss_one
      (ps_if (pt_cmpR op_eq (pe_slice sl_str (pv 0) (po_some (pv 1)) (po_some (pe_op op_add (pv 1) (pe_callB call_len_str (by rfl) T.z_len PySem.boot_len (pa_cons (pv 2) pa_nil))))) (pv 2) (nomark _)) (pss_one
      (ps_ret (pe_tup (pa_cons (pv 2) (pa_cons (pv 2) pa_nil))))) pss_nil)))
      (pss_cons
      (ps_set (i := 3) sc_token_at.nd rfl (Or.inl rfl) (C8.pe_c C_word_at hr (by decide) (by rfl) (pa_cons (pv 0) (pa_cons (pv 1) pa_nil))))
      (pss_cons
      (ps_if (pt_cmpR op_eq (pv 3) pe_str (nomark _)) (pss_one
      (ps_ret (pe_tup (pa_cons pe_str (pa_cons pe_str pa_nil))))) pss_nil)
      (pss_one
      (ps_ret (pe_tup (pa_cons (pe_ifExp (pt_val (C8.pe_c C_is_reserved hr (by decide) (by rfl) (pa_cons (pv 3) pa_nil))) (pv 3) pe_str) (pa_cons (pv 3) pa_nil)))))))), ?_⟩
    have big : (10000 : Nat) ≤ sizeLine := by decide
    have hz2 : t.length ≤ sizeLine := by omega
    refine ⟨aG, rfl, ⟨_, gG.q H⟩, for_tup (K := K) (a := aG) (xs := sgnL.map V.str) (fun i σ H' => ∃ v2 : Option V, σ = [some (.str t), some (.int a), v2, none] ∧ H' = H ∧ ∀ j, j < i → ∀ u, sgnL[j]? = some u → decide ((t.cps.toList.drop a).take u.length = u.cps.toList) = false)
      ⟨_, rfl, rfl, fun j hj => absurd hj (Nat.not_lt_zero j)⟩ (fun i σ H' _ _ => gG.q H') ?_ ?_⟩
    · rintro i v σ H' hi ⟨v2, rfl, rfl, hn⟩
      obtain ⟨u, hu, rfl⟩ := mapg hi
      have hus := sgn_small u (List.mem_of_getElem? hu)
      refine ⟨_, rfl, _, rfl, _, rfl, _, rfl, _, rfl, u, rfl, by omega, _, _, rfl, rfl, _, rfl, t, rfl, hz2, _, rfl, rfl, _, rfl, ?_⟩
      rw [show ((a : Int) + (u.length : Int)) = ((a + u.length : Nat) : Int) by push_cast; rfl, cutS_mid t a u.length ha, mk_eq]
      by_cases c : (t.cps.toList.drop a).take u.length = u.cps.toList
      · rw [decide_eq_true c]
        refine iteT ⟨_, rfl, _, rfl, by show 2 ≤ sizeLine; decide, fun p hp => ?_⟩
        have e : tokOf (t.cps.toList.drop a) = (u, u) := by
          unfold tokOf
          rw [find_at hu (decide_eq_true c) hn]
        have := q p hp
        rw [e] at this
        exact this
      · rw [decide_eq_false c]
        refine iteF ⟨_, rfl, rfl, fun j hj u' hu' => ?_⟩
        by_cases z : j = i
        · subst z
          rw [hu] at hu'
          cases hu'
          exact decide_eq_false c
        · exact hn j (by omega) u' hu'
    · rintro σ H' ⟨v2, rfl, rfl, hn⟩
      rw [List.length_map] at hn
      have hnone := find_no (p := fun s : Str => decide ((t.cps.toList.drop a).take s.length = s.cps.toList)) hn
      refine ⟨_, rfl, _, rfl, t, a, rfl, hz2, ha, fun e hw => ?_⟩
      have he := wlen_at hw
      rw [he, cutS_mid t a _ ha]
      refine ⟨_, rfl, rfl, _, rfl, ?_⟩
      rw [mk_eq]
      have hle := wlen_le true (t.cps.toList.drop a)
      by_cases c : wlen true (t.cps.toList.drop a) = 0
      · rw [c, List.take_zero, decide_eq_true (show ([] : List Nat) = ("" : Str).cps.toList by decide +kernel)]
        refine iteT ⟨by show 2 ≤ sizeLine; decide, fun p hp => ?_⟩
        have e : tokOf (t.cps.toList.drop a) = (("bad" : Str), ("" : Str)) := by
          unfold tokOf
          rw [hnone]
          dsimp only
          rw [if_pos c]
        have := q p hp
        rw [e] at this
        exact this
      · have hne : ¬ (t.cps.toList.drop a).take (wlen true (t.cps.toList.drop a)) = ("" : Str).cps.toList := fun z => by
          have := congrArg List.length z
          rw [List.length_take, Nat.min_eq_left hle, show (("" : Str).cps.toList).length = 0 by decide +kernel] at this
          exact c this
        rw [decide_eq_false hne]
        refine iteF ⟨_, rfl, _, rfl, _, rfl, ?_⟩
        have e : tokOf (t.cps.toList.drop a) = (if resW (⟨((t.cps.toList.drop a).take (wlen true (t.cps.toList.drop a))).toArray⟩ : Str) = true then (⟨((t.cps.toList.drop a).take (wlen true (t.cps.toList.drop a))).toArray⟩ : Str) else ("name" : Str), (⟨((t.cps.toList.drop a).take (wlen true (t.cps.toList.drop a))).toArray⟩ : Str)) := by
          unfold tokOf
          rw [hnone]
          dsimp only
          rw [if_neg c]
        rw [e] at q
        dsimp only at q
        generalize (⟨((t.cps.toList.drop a).take (wlen true (t.cps.toList.drop a))).toArray⟩ : Str) = wd at q ⊢
        by_cases r : resW wd = true
        · rw [if_pos r] at q
          exact iteB_t r ⟨_, rfl, _, rfl, by show 2 ≤ sizeLine; decide, q⟩
        · rw [if_neg r] at q
          exact iteB_f (eq_false_of_ne_true r) ⟨_, rfl, by show 2 ≤ sizeLine; decide, q⟩
/-- tokens as they lie -/
def TkA (H : Hp) (as : List Addr) (ts : List Tk) : Prop := as.length = ts.length ∧ ∀ (i : Nat) (a : Addr), as[i]? = some a → ∃ t : Tk, ts[i]? = some t ∧ H a = some (.tup [.str t.k, .str t.c, .int (t.p : Int)])
theorem TkA.tp {H H' : Hp} {as : List Addr} {ts : List Tk} (s : ∀ b xs, H b = some (.tup xs) → H' b = some (.tup xs)) (h : TkA H as ts) : TkA H' as ts := ⟨h.1, fun i a e => by
  obtain ⟨t, h1, h2⟩ := h.2 i a e
  exact ⟨t, h1, s _ _ h2⟩⟩
theorem TkA.snoc {H : Hp} {as : List Addr} {ts : List Tk} {a : Addr} {t : Tk} (h : TkA H as ts) (e : H a = some (.tup [.str t.k, .str t.c, .int (t.p : Int)])) : TkA H (as ++ [a]) (ts ++ [t]) := by
  refine ⟨by rw [List.length_append, List.length_append, h.1]; rfl, fun i x hx => ?_⟩
  rcases snocg hx with ⟨_, y⟩ | ⟨y1, y2⟩
  · obtain ⟨t', h1, h2⟩ := h.2 i x y
    exact ⟨t', by rw [List.getElem?_append_left (lt_of_get h1)]; exact h1, h2⟩
  · subst y2
    exact ⟨t, by rw [List.getElem?_append_right (by rw [y1, h.1]; exact Nat.le_refl _), y1, h.1, Nat.sub_self]; rfl, e⟩
def spSt : Sp := fun vs H Q _ => ∃ t : Str, vs = [.str t] ∧ t.length ≤ 10000 ∧ ∀ (H' : Hp) (p : Addr) (as : List Addr) (ts : List Tk), Same H H' → H' p = some (.lst (as.map V.ref)) → TkA H' as ts → Tks t.cps.toList 0 ts → ts.length ≤ 10001 → Q (.ref p) H'
theorem one_sp {c : Nat} : (decide (V.str (⟨#[c]⟩ : Str) = V.str " ")) = decide (c = 32) := by
  have := mk_eq (l := [c]) (s := " ")
  rw [show ([c].toArray) = #[c] from rfl] at this
  rw [this, l_sp.1]
  simp
theorem cal_st (T : Txt K mg w P) : C8.Cal P w K mg base 3 "split_tokens" spSt [] := by
  have C_token_at : C8.Cal P w K mg base 2 "token_at" (spTa K) [] := cal_ta T
  obtain ⟨f, fd, F, hm, hb⟩ := T.h_split_tokens
  refine ⟨f, fd, _, [], F.ok sc_split_tokens (fun vs H Q E h => ?_) (fun cdv A outer s H vs Q E hr h => ?_), hm, F.kp, hb, .nil⟩
  · obtain ⟨t, rfl, _⟩ := h
    rfl
  · obtain ⟨t, rfl, hz, q⟩ := h
    refine ⟨_, (pss_cons
      (ps_set (i := 1) sc_split_tokens.nd rfl (Or.inl rfl) (pe_lst pa_nil))
      (pss_cons
      (ps_set (i := 2) sc_split_tokens.nd rfl (Or.inl rfl) pe_int)
      (C8.pss_cut
      (ps_while PassesOwn.never (pt_cmpR op_lt (pv 2) (pe_callB call_len_str (by rfl) T.z_len PySem.boot_len (pa_cons (pv 0) pa_nil)) (nomark _)) (pss_cons
      (ps_if (pt_cmpR op_eq (pe_ix ix_str (pv 0) (pv 2) (fun _ _ => rfl)) pe_str (nomark _)) (pss_cons
      (ps_aug (i := 2) sc_split_tokens.nd rfl (.inl rfl) pe_int ip_add)
      (pss_one
      ps_continue)) pss_nil)
      (pss_cons
      (ps_asg (C8.pe_c C_token_at hr (by decide) (by rfl) (pa_cons (pv 0) (pa_cons (pv 2) pa_nil))) (pg_tup (by rfl) (pgs_cons (pg_name (i := 3) sc_split_tokens.nd rfl (.inl rfl)) (pgs_cons (pg_name (i := 4) sc_split_tokens.nd rfl (.inl rfl)) pgs_nil))))
      (pss_cons
      (ps_expr (pe_bm PySem.F.plainAttrs_list PySem.F.slot_list_append PySem.F.type_list_append mt_append (pv 1) (pa_cons (pe_tup (pa_cons (pv 3) (pa_cons (pv 4) (pa_cons (pv 2) pa_nil)))) pa_nil)))
      (pss_cons
      (ps_if (pt_cmpR op_eq (pv 3) pe_str (nomark _)) (pss_one
      (ps_ret (pv 1))) pss_nil)
      (pss_one
      (ps_aug (i := 2) sc_split_tokens.nd rfl (.inl rfl) (pe_callB call_len_str (by rfl) T.z_len PySem.boot_len (pa_cons (pv 4) pa_nil)) ip_add)))))))
      (pss_cons
      (ps_expr (pe_bm PySem.F.plainAttrs_list PySem.F.slot_list_append PySem.F.type_list_append mt_append (pv 1) (pa_cons (pe_tup (pa_cons pe_str (pa_cons pe_str (pa_cons (pe_callB call_len_str (by rfl) T.z_len PySem.boot_len (pa_cons (pv 0) pa_nil)) pa_nil)))) pa_nil)))
      (pss_one
      (ps_ret (pv 1))))))), ?_⟩
    have big : (10001 : Nat) < sizeLine := by decide
    have hz2 : t.length ≤ sizeLine := by omega
    have htl := str_len t
    refine ⟨Nat.zero_le _, fun D nD => ?_⟩
    generalize hX : upd H D _ = H1; obtain ⟨sH1, eD⟩ := nw nD hX; clear hX
    refine ⟨fun σ H' => ∃ (v3 v4 : Option V) (as : List Addr) (ts : List Tk), σ = [some (.str t), some (.ref D), some (.int (t.length : Int)), v3, v4] ∧ Same H H' ∧ H' D = some (.lst (as.map V.ref)) ∧ TkA H' as ts ∧ ts.length ≤ t.length ∧ ∀ rem, Tks [] t.length rem → Tks t.cps.toList 0 (ts ++ rem), ?_, ?_⟩
    · refine ⟨fun m σ H' => ∃ (v3 v4 : Option V) (a : Nat) (as : List Addr) (ts : List Tk), m = t.length - a ∧ a ≤ t.length ∧ σ = [some (.str t), some (.ref D), some (.int (a : Int)), v3, v4] ∧ Same H H' ∧ H' D = some (.lst (as.map V.ref)) ∧ TkA H' as ts ∧ ts.length ≤ a ∧ ∀ rem, Tks (t.cps.toList.drop a) a rem → Tks t.cps.toList 0 (ts ++ rem),
        ⟨_, none, none, 0, [], [], rfl, Nat.zero_le _, rfl, sH1, eD, ⟨rfl, fun i a e => by (cases e)⟩, Nat.le_refl _, fun rem h => h⟩, ?_⟩
      rintro m σ H2 ⟨v3, v4, a, as, ts, rfl, ha, rfl, s2, e2, k2, l2, p2⟩
      refine ⟨_, rfl, _, rfl, t, rfl, hz2, _, _, rfl, rfl, _, rfl, ?_⟩
      by_cases hlt : a < t.length
      · rw [decide_eq_true (show (a : Int) < (t.length : Int) by omega)]
        refine iteB_t rfl ⟨_, fun _ _ h => h, ?_⟩
        obtain ⟨c, hc⟩ : ∃ c, t.cps.toList[a]? = some c := ⟨_, List.getElem?_eq_getElem (by rw [htl]; exact hlt)⟩
        have hat : atI t.cps.toList (a : Int) = some c := atI_nat hc
        have hdr : t.cps.toList.drop a = c :: t.cps.toList.drop (a + 1) := by
          rw [List.drop_eq_getElem_cons (by rw [htl]; exact hlt)]
          rw [List.getElem?_eq_getElem (by rw [htl]; exact hlt)] at hc
          rw [Option.some.inj hc]
        refine ⟨_, rfl, _, rfl, t, (a : Int), c, rfl, rfl, hz2, hat, rfl, _, rfl, ?_⟩
        rw [one_sp]
        by_cases csp : c = 32
        · rw [decide_eq_true csp]
          refine iteB_t rfl ⟨_, rfl, _, _, rfl, rfl, ?_⟩
          exact ⟨t.length - (a + 1), by omega, _, _, a + 1, as, ts, rfl, by omega, rfl, s2, e2, k2, by omega, fun rem h => p2 rem (by rw [hdr, csp]; exact .sp h)⟩
        · rw [decide_eq_false csp]
          refine iteB_f rfl ⟨_, rfl, _, rfl, t, a, rfl, hz, ha, fun p np => ?_⟩
          have hbd : (tokOf (t.cps.toList.drop a)).1 = "bad" → Tks (t.cps.toList.drop a) a [⟨"bad", (tokOf (t.cps.toList.drop a)).2, a⟩] := fun e => by
            rw [hdr] at e ⊢
            exact .bad csp e
          have hgo : (tokOf (t.cps.toList.drop a)).1 ≠ "bad" → 0 < (tokOf (t.cps.toList.drop a)).2.length ∧ a + (tokOf (t.cps.toList.drop a)).2.length ≤ t.length ∧ ∀ rem, Tks (t.cps.toList.drop (a + (tokOf (t.cps.toList.drop a)).2.length)) (a + (tokOf (t.cps.toList.drop a)).2.length) rem → Tks (t.cps.toList.drop a) a (⟨(tokOf (t.cps.toList.drop a)).1, (tokOf (t.cps.toList.drop a)).2, a⟩ :: rem) := fun e => by
            have h1 := tok_pos e
            rw [List.length_drop] at h1
            refine ⟨h1.1, by omega, fun rem h => ?_⟩
            rw [← List.drop_drop] at h
            rw [hdr] at e h ⊢
            exact .tok csp e h
          generalize (tokOf (t.cps.toList.drop a)).1 = k at hbd hgo ⊢
          generalize (tokOf (t.cps.toList.drop a)).2 = ch at hbd hgo ⊢
          generalize hX : upd H2 p _ = H3; obtain ⟨sH3, ep⟩ := nw np hX; clear hX
          refine ⟨p, _, rfl, .of ep, rfl, _, _, rfl, _, _, rfl, rfl, ?_⟩
          have e3 := sH3 _ _ e2
          refine ⟨_, rfl, .inl ⟨rfl, _, .of e3⟩, _, rfl, _, rfl, _, rfl, by show 3 ≤ sizeLine; decide, fun b nb => ?_⟩
          generalize hX : upd H3 b _ = H4; obtain ⟨sH4, eb⟩ := nw nb hX; clear hX
          have e4 := sH4 _ _ e3
          have k4 := k2.tp (H' := H4) (fun x xs e => sH4 _ _ (sH3 _ _ e))
          have s4 := (s2.trans sH3).trans sH4
          have nD4 : H D = none := nD
          refine ⟨D, _, _, rfl, rfl, e4, by rw [List.length_map, k2.1]; omega, ?_⟩
          have hkb : k = "bad" ∨ k ≠ "bad" := by
            by_cases z : k = "bad"
            · exact .inl z
            · exact .inr z
          have tpk : ∀ x xs, H4 x = some (.tup xs) → (upd H4 D (.lst (as.map V.ref ++ [.ref b]))) x = some (.tup xs) := fun x xs e => by rw [upd_ne (fun z => by rw [z, e4] at e; cases e)]; exact e
          have k5 := (k4.tp tpk).snoc (t := ⟨k, ch, a⟩) (tpk _ _ eb)
          have e5 : (upd H4 D (.lst (as.map V.ref ++ [.ref b]))) D = some (.lst ((as ++ [b]).map V.ref)) := by rw [upd_same, List.map_append]; rfl
          have s5 : Same H (upd H4 D (.lst (as.map V.ref ++ [.ref b]))) := fun x o e => by rw [upd_ne (ne_of_none e nD4)]; exact s4 _ _ e
          generalize upd H4 D (.lst (as.map V.ref ++ [.ref b])) = H5 at k5 e5 s5 ⊢
          refine ⟨_, rfl, rfl, _, rfl, ?_⟩
          rcases hkb with hk | hk
          · rw [decide_eq_true (by rw [hk])]
            refine iteB_t rfl ⟨_, rfl, q H5 D _ _ s5 e5 k5 (p2 _ (by rw [hk]; exact hbd hk)) ?_⟩
            rw [List.length_append, List.length_singleton]
            omega
          · rw [decide_eq_false (fun z => hk (V.str.inj z))]
            obtain ⟨g1, g2, g3⟩ := hgo hk
            refine iteB_f rfl ⟨_, rfl, _, rfl, ch, rfl, by omega, _, _, rfl, rfl, ?_⟩
            refine ⟨t.length - (a + ch.length), by omega, _, _, a + ch.length, as ++ [b], ts ++ [⟨k, ch, a⟩], rfl, g2, rfl, s5, e5, k5, ?_, fun rem h => ?_⟩
            · rw [List.length_append, List.length_singleton]
              omega
            · rw [List.append_assoc]
              exact p2 _ (g3 rem h)
      · rw [decide_eq_false (show ¬ (a : Int) < (t.length : Int) by omega)]
        obtain rfl : a = t.length := by omega
        refine iteB_f rfl ⟨_, _, as, ts, rfl, s2, e2, k2, l2, fun rem h => p2 rem ?_⟩
        rw [List.drop_of_length_le (by omega)]
        exact h
    · rintro σ H2 ⟨v3, v4, as, ts, rfl, s2, e2, k2, l2, p2⟩
      refine ⟨_, rfl, .inl ⟨rfl, _, .of e2⟩, _, rfl, t, rfl, hz2, by show 3 ≤ sizeLine; decide, fun b nb => ?_⟩
      generalize hX : upd H2 b _ = H3; obtain ⟨sH3, eb⟩ := nw nb hX; clear hX
      have e3 := sH3 _ _ e2
      refine ⟨D, _, _, rfl, rfl, e3, by rw [List.length_map, k2.1]; omega, ?_⟩
      have tpk : ∀ x xs, H3 x = some (.tup xs) → (upd H3 D (.lst (as.map V.ref ++ [.ref b]))) x = some (.tup xs) := fun x xs e => by rw [upd_ne (fun z => by rw [z, e3] at e; cases e)]; exact e
      have k5 := ((k2.tp (H' := H3) (fun x xs e => sH3 _ _ e)).tp tpk).snoc (t := ⟨"end", "", t.length⟩) (tpk _ _ eb)
      refine ⟨_, rfl, q _ D (as ++ [b]) (ts ++ [⟨"end", "", t.length⟩]) (fun x o e => by rw [upd_ne (ne_of_none e nD)]; exact sH3 _ _ (s2 _ _ e)) (by rw [upd_same, List.map_append]; rfl) k5 (p2 _ .nil) ?_⟩
      rw [List.length_append, List.length_singleton]
      omega
def ts (n : Int) : Str := Str.ofString (toString n)
theorem ts_len {n : Int} (h0 : 0 ≤ n) (h1 : n < 1000000000000000000) : (ts n).length ≤ 18 := toString_length_le h0 (by decide) h1
theorem log_lt {n : Int} (h0 : 0 ≤ n) (h1 : n < 1000000000000000000) : n.natAbs.log2 < 1920 := by
  have : n.natAbs < 2 ^ 1920 := by
    have : n.natAbs < 1000000000000000000 := by omega
    exact Nat.lt_of_lt_of_le this (Nat.le_trans (show 1000000000000000000 ≤ 2 ^ 60 by decide) (Nat.pow_le_pow_right (by decide) (by decide)))
  by_cases z : n.natAbs = 0
  · rw [z]; decide
  · exact (Nat.log2_lt z).mpr this
theorem join1 (s x : Str) : Txt.join s [x] = x := rfl
def spDec : Sp := fun vs H Q _ => ∃ n : Int, vs = [.int n] ∧ 0 ≤ n ∧ n < 1000000000000000000 ∧ ∀ H', Same H H' → Q (.str (ts n)) H'
theorem cal_dec {tk : Tok} (T : Txt K mg w P) (gPC : mg "PIECE" = some (.int 1000000000000000000 tk)) : C8.Cal P w K mg base 1 "decimal" spDec [] := by
  obtain ⟨f, fd, F, hm, hb⟩ := T.h_decimal
  refine ⟨f, fd, _, [], F.ok sc_decimal (fun vs H Q E h => ?_) (fun cdv A outer s H vs Q E hr h => ?_), hm, F.kp, hb, .nil⟩
  · obtain ⟨n, rfl, _⟩ := h
    rfl
  · obtain ⟨n, rfl, n0, n1, q⟩ := h
    refine ⟨_, (pss_cons
      (ps_set (i := 1) sc_decimal.nd rfl (Or.inl rfl) (pe_callB call_abs (by rfl) T.z_abs (by decide +kernel) (pa_cons (pv 0) pa_nil)))
      (pss_cons
      (ps_set (i := 2) sc_decimal.nd rfl (Or.inl rfl) (pe_lst pa_nil))
      (C8.pss_cut
      (ps_while PassesOwn.never (pt_cmpR op_ge (pv 1) (pe_glob (v := .int 1000000000000000000) (by rfl) gPC ⟨_, rfl⟩) (nomark _)) (pss_cons ps_never (pss_one ps_never)))
      (pss_cons
      (ps_expr (pe_bm PySem.F.plainAttrs_list PySem.F.slot_list_append PySem.F.type_list_append mt_append (pv 2) (pa_cons (pe_callTy call_str_int (by rfl) T.z_str (by decide +kernel) (pa_cons (pv 1) pa_nil)) pa_nil)))
      (C8.pss_cut
      (ps_if (pt_cmpR op_lt (pv 0) pe_int (nomark _)) (pss_one
      (ps_expr (pe_bm PySem.F.plainAttrs_list PySem.F.slot_list_append PySem.F.type_list_append mt_append (pv 2) (pa_cons pe_str pa_nil)))) pss_nil)
      (pss_one
      (ps_ret (pe_join pe_str (pe_revLK (K := K) rfl (pv 2)))))))))), ?_⟩
    refine ⟨_, rfl, n, rfl, ?_⟩
    rw [if_neg (by omega)]
    refine ⟨Nat.zero_le _, fun p hp => ?_⟩
    have s1 := same_new (o := .lst []) hp
    have e1 := upd_same (H := H) (a := p) (o := .lst [])
    generalize upd H p (.lst []) = H1 at s1 e1 ⊢
    refine ⟨fun σ H' => σ = [some (.int n), some (.int n), some (.ref p), none] ∧ H' = H1, ?_, ?_⟩
    · refine ⟨fun _ σ H' => σ = [some (.int n), some (.int n), some (.ref p), none] ∧ H' = H1, ⟨0, rfl, rfl⟩, ?_⟩
      rintro m σ H' ⟨rfl, rfl⟩
      refine ⟨_, rfl, _, _, rfl, rfl, _, rfl, ite2 (fun k => absurd (of_decide_eq_true k) (by omega)) (fun _ => ⟨rfl, rfl⟩)⟩
    rintro σ H' ⟨rfl, rfl⟩
    refine ⟨_, rfl, .inl ⟨rfl, _, .of e1⟩, _, rfl, n, rfl, log_lt n0 n1, p, _, _, rfl, rfl, e1, by decide, ?_⟩
    refine ⟨fun σ H2 => σ = [some (.int n), some (.int n), some (.ref p), none] ∧ H2 = upd H' p (.lst [.str (ts n)]), ?_, ?_⟩
    · refine ⟨_, rfl, _, _, rfl, rfl, _, rfl, ite2 (fun k => absurd (of_decide_eq_true k) (by omega)) (fun _ => ⟨rfl, rfl⟩)⟩
    rintro σ H2 ⟨rfl, rfl⟩
    refine ⟨⟨_, rfl⟩, _, rfl, p, _, rfl, .of upd_same, fun r hr' => ⟨_, r, [ts n], rfl, rfl, .inl (.of upd_same), ?_, ?_⟩⟩
    · have := ts_len n0 n1
      show (ts n).length + 0 + (0 + 1) * _ ≤ 16777216
      have e : (Str.ofString "").length = 0 := by decide +kernel
      rw [e]
      omega
    · refine q _ fun b o hb => ?_
      have hpb : b ≠ p := ne_of_none hb hp
      have hrb : b ≠ r := fun z => by rw [← z, upd_ne hpb, s1 _ _ hb] at hr'; cases hr'
      rw [upd_ne hrb, upd_ne hpb]
      exact s1 _ _ hb
structure Rd7 (K : PySem.W.Frag) (mg : Str → Option Value) (C fI fP fT fA fH fF fU fO : Addr) (fdI fdP fdT fdA fdH fdF fdU fdO : FuncData) : Prop where
  PC : RdrC K C
  MR : Mk K C fI
  gC : mg "Reader" = some (.ref C)
  gI : L2.Fun K "__init__" "Reader.__init__" s_Reader_init fI fdI
  bI : Binds K fdI ["self", "text"] []
  MP : Meth K C "peek" fP
  gP : L2.Fun K "peek" "Reader.peek" s_Reader_peek fP fdP
  bP : Binds K fdP ["self"] []
  MT : Meth K C "take" fT
  gT : L2.Fun K "take" "Reader.take" s_Reader_take fT fdT
  bT : Binds K fdT ["self", "kind"] []
  MA : Meth K C "read_all" fA
  gA : L2.Fun K "read_all" "Reader.read_all" s_Reader_read_all fA fdA
  bA : Binds K fdA ["self"] []
  MH : Meth K C "read_hidden" fH
  gH : L2.Fun K "read_hidden" "Reader.read_hidden" s_Reader_read_hidden fH fdH
  bH : Binds K fdH ["self"] []
  MF : Meth K C "read_formula" fF
  gF : L2.Fun K "read_formula" "Reader.read_formula" s_Reader_read_formula fF fdF
  bF : Binds K fdF ["self", "level"] []
  MU : Meth K C "read_unary" fU
  gU : L2.Fun K "read_unary" "Reader.read_unary" s_Reader_read_unary fU fdU
  bU : Binds K fdU ["self"] []
  MO : Meth K C "read_atom" fO
  gO : L2.Fun K "read_atom" "Reader.read_atom" s_Reader_read_atom fO fdO
  bO : Binds K fdO ["self"] []
theorem gloR (T : Txt K mg w P) : ∃ (C fI fP fT fA fH fF fU fO : Addr) (fdI fdP fdT fdA fdH fdF fdU fdO : FuncData), Rd7 K mg C fI fP fT fA fH fF fU fO fdI fdP fdT fdA fdH fdF fdU fdO := by
  obtain ⟨C, fI, fP, fT, fA, fH, fF, fU, fO, fdI, fdP, fdT, fdA, fdH, fdF, fdU, fdO, a1, a2, a3, a4, a5, a6, a7, a8, a9, a10, a11, a12, a13, a14, a15, a16, a17, a18, a19, a20, a21, a22, a23, a24, a25, a26⟩ := T.er.2.2.1
  exact ⟨C, fI, fP, fT, fA, fH, fF, fU, fO, fdI, fdP, fdT, fdA, fdH, fdF, fdU, fdO, a1, a2, a3, a4, a5, a6, a7, a8, a9, a10, a11, a12, a13, a14, a15, a16, a17, a18, a19, a20, a21, a22, a23, a24, a25, a26⟩
/-! tuples stay -/
theorem fm_tq {K : PySem.W.Frag} {H H' : Hp} (s : ∀ a xs, SqT K H a xs → SqT K H' a xs) : ∀ {f : Fm} {v : V}, FmAt K H v f → FmAt K H' v f
  | .c0 _, _, ⟨a, h1, h2⟩ => ⟨a, h1, s _ _ h2⟩
  | .sg _, _, ⟨a, h1, h2⟩ => ⟨a, h1, s _ _ h2⟩
  | .un _ _, _, ⟨a, x, h1, h2, h3⟩ => ⟨a, x, h1, s _ _ h2, fm_tq s h3⟩
  | .bin _ _ _, _, ⟨a, x, y, h1, h2, h3, h4⟩ => ⟨a, x, y, h1, s _ _ h2, fm_tq s h3, fm_tq s h4⟩
theorem fms_tq {K : PySem.W.Frag} {H H' : Hp} (s : ∀ a xs, SqT K H a xs → SqT K H' a xs) : ∀ {vs : List V} {fs : List Fm}, FmsAt K H vs fs → FmsAt K H' vs fs
  | [], [], _ => trivial
  | _ :: _, _ :: _, h => ⟨fm_tq s h.1, fms_tq s h.2⟩
theorem tq_kp {H H' : Hp} {x C dx : Addr} {fs : List (Str × V)} (hx : H x = some (.ins C dx fs)) (k : Kp x H H') : ∀ a xs, SqT K H a xs → SqT K H' a xs := fun a xs h => by
  have ne : ∀ {o : HO}, H a = some o → (∀ (c d : Addr) (f : List (Str × V)), o ≠ .ins c d f) → a ≠ x := fun e n z => by
    rw [z, hx] at e
    exact n _ _ _ (Option.some.inj e).symm
  rcases h with (h | ⟨o, h⟩) | h
  · exact .inl (.inl (k _ _ (ne h (fun _ _ _ z => by cases z)) h))
  · exact .inl (.inr ⟨o, k _ _ (ne h (fun _ _ _ z => by cases z)) h⟩)
  · exact .inr h
theorem tq_same {H H' : Hp} (s : Same H H') : ∀ a xs, SqT K H a xs → SqT K H' a xs := fun _ _ h => sqt_same s h
theorem tq_l {H H' : Hp} {d : Addr} {ys : List V} (hd : H d = some (.lst ys)) (k : Kp d H H') : ∀ a xs, SqT K H a xs → SqT K H' a xs := fun _ _ h => sqt_kp hd k h
/-- a reader at token i -/
structure Rs (C : Addr) (H : Hp) (x dx ta pa : Addr) (ts : List Tk) (i : Nat) : Prop where
  hx : H x = some (.ins C dx (rf ta (i : Int) pa))
  ht : ∃ as : List Addr, H ta = some (.lst (as.map V.ref)) ∧ TkA H as ts
  hp : H pa = some (.dK (preL.map fun p => ((Sum.inr p.2 : L2.Key), V.str p.1)))
theorem Rs.next {C x dx ta pa : Addr} {H H' : Hp} {ts : List Tk} {i j : Nat} (r : Rs C H x dx ta pa ts i) (k : Kp x H H') (e : H' x = some (.ins C dx (rf ta (j : Int) pa))) : Rs C H' x dx ta pa ts j := by
  obtain ⟨as, h1, h2⟩ := r.ht
  refine ⟨e, ⟨as, k _ _ (fun z => by rw [z, r.hx] at h1; cases h1) h1, h2.1, fun i a ha => ?_⟩, k _ _ (fun z => by have := r.hp; rw [z, r.hx] at this; cases this) r.hp⟩
  obtain ⟨t, q1, q2⟩ := h2.2 i a ha
  exact ⟨t, q1, k _ _ (fun z => by rw [z, r.hx] at q2; cases q2) q2⟩
theorem Rs.same {C x dx ta pa : Addr} {H H' : Hp} {ts : List Tk} {i : Nat} (r : Rs C H x dx ta pa ts i) (s : Same H H') : Rs C H' x dx ta pa ts i := r.next (Same.kp s) (s _ _ r.hx)
theorem Rs.lst {C x dx ta pa d : Addr} {H H' : Hp} {ts : List Tk} {i : Nat} (r : Rs C H x dx ta pa ts i) {ys : List V} (hd : H d = some (.lst ys)) (n : d ≠ ta) (k : Kp d H H') : Rs C H' x dx ta pa ts i := by
  obtain ⟨as, h1, h2⟩ := r.ht
  refine ⟨k _ _ (fun z => by have := r.hx; rw [z, hd] at this; cases this) r.hx, ⟨as, k _ _ n.symm h1, h2.1, fun i a ha => ?_⟩, k _ _ (fun z => by have := r.hp; rw [z, hd] at this; cases this) r.hp⟩
  obtain ⟨t, q1, q2⟩ := h2.2 i a ha
  exact ⟨t, q1, k _ _ (fun z => by rw [z, hd] at q2; cases q2) q2⟩
theorem drop_get {α : Type} {ts : List α} {i : Nat} {t : α} {r : List α} (h : ts.drop i = t :: r) : ts[i]? = some t ∧ ts.drop (i + 1) = r := by
  constructor
  · have : (ts.drop i)[0]? = some t := by rw [h]; rfl
    rwa [List.getElem?_drop, Nat.add_zero] at this
  · rw [← List.drop_drop, h]
    rfl
section
variable {C fI fP fT fA fH fF fU fO : Addr} {fdI fdP fdT fdA fdH fdF fdU fdO : FuncData}
def spPeek (C : Addr) : Sp := fun vs H Q _ => ∃ (x dx ta pa : Addr) (ts : List Tk) (i : Nat) (t : Tk), vs = [.ref x] ∧ Rs C H x dx ta pa ts i ∧ ts[i]? = some t ∧ Q (.str t.k) H
theorem ok_peek (R : Rd7 K mg C fI fP fT fA fH fF fU fO fdI fdP fdT fdA fdH fdF fdU fdO) : FnOk P w K mg base CX0 1 fP fdP ["self"] (spPeek C) := by
  have PC := R.PC
  refine R.gP.ok sc_Reader_peek (fun vs H Q E h => ?_) (fun cdv A outer s H vs Q E hr h => ?_)
  · obtain ⟨x, dx, ta, pa, ts, i, t, rfl, _⟩ := h
    rfl
  · obtain ⟨x, dx, ta, pa, ts, i, t, rfl, r, ht, q⟩ := h
    refine ⟨_, (pss_one
      (ps_ret (pe_ix (ix_tupK (K := K) rfl) (pe_ix (ix_listK (K := K) rfl) (pe_fld (pv 0) rfl) (pe_fld (pv 0) rfl) (fun _ _ => rfl)) pe_int (fun _ _ => rfl)))), ?_⟩
    obtain ⟨as, h1, h2⟩ := r.ht
    obtain ⟨a, ha⟩ : ∃ a, as[i]? = some a := ⟨_, List.getElem?_eq_getElem (by rw [h2.1]; exact lt_of_get ht)⟩
    obtain ⟨t', q1, q2⟩ := h2.2 i a ha
    rw [ht] at q1
    obtain rfl := Option.some.inj q1
    exact ⟨_, rfl, x, C, dx, _, _, rfl, r.hx, PC.cl, PC.nt, rl_t _ _ _, _, rfl, x, C, dx, _, _, rfl, r.hx, PC.cl, PC.na, rl_a _ _ _, ta, _, _, _, rfl, rfl, .of h1, atN ha, a, _, _, _, rfl, rfl, .of q2, rfl, q⟩
/-- the error with this position leaves -/
def XP (c : Addr) (p : Nat) (E : XK) : Prop := ∀ (H' : Hp) (d : Addr), H' d = some (.xd [("position", .int (p : Int))]) → E (.ref c) (some d) H'
def spZf (C : Addr) : Sp := fun vs H Q _ => ∃ (a : Addr) (p : Nat), vs = [.ref a, .int (p : Int)] ∧ p ≤ 1000000 ∧ H a = some (exo a C none) ∧ ∀ H1 d, Same H H1 → H1 d = none → d ≠ a → Q .non (upd (upd H1 d (exd d [("position", .int (p : Int))])) a (exo a C (some d)))
abbrev FSE (P : Program) (K : PySem.W.Frag) (mg : Str → Option Value) (cF f : Addr) (fd : FuncData) : Prop := Sup.InitK P K mg "FormulaSyntaxError" cF f "__init__" "FormulaSyntaxError.__init__" (defArgs s_FormulaSyntaxError_init) (defBody s_FormulaSyntaxError_init) (defScope s_FormulaSyntaxError_init) fd
/-- all about this error -/
structure FsE (P : Program) (K : PySem.W.Frag) (mg : Str → Option Value) (cF f : Addr) (fd : FuncData) : Prop where
  I : FSE P K mg cF f fd
  no : PySem.W.findIn K (.ref cF) "position" = some none
  pc : ∃ tk : Tok, mg "PIECE" = some (.int 1000000000000000000 tk)
theorem ok_zf {cF f : Addr} {fd : FuncData} (T : Txt K mg w P) (Z : FsE P K mg cF f fd) : FnOk P w K mg base CX0 3 f fd ["self", "position"] (spZf cF) := by
  obtain ⟨tk, hpc⟩ := Z.pc
  have C_decimal : C8.Cal P w K mg base 1 "decimal" spDec [] := cal_dec T hpc
  refine Z.I.ok sc_FormulaSyntaxError_init rfl rfl (fun en => rfl) (fun en => rfl) (fun en => rfl) (fun vs H Q E h => ?_) (fun cda cc A outer s H vs Q E hr h => ?_)
  · obtain ⟨a, p, rfl, _⟩ := h
    rfl
  · obtain ⟨a, p, rfl, hl, ha, q⟩ := h
    refine ⟨_, _, a, (pe_op op_add_str pe_str (C8.pe_c C_decimal hr (by decide) (by rfl) (pa_cons (pv 1) pa_nil))), (pss_one (ps_ost (pv 0) (pv 1))), rfl, ha, ?_⟩
    have big : (100000 : Nat) ≤ sizeLine := by decide
    have hw : (Str.ofString "no property goes on at position ").length = 32 := by decide +kernel
    refine ⟨_, rfl, (p : Int), rfl, by omega, by omega, fun H1 s1 => ?_⟩
    have h1 := ts_len (n := (p : Int)) (by omega) (by omega)
    refine ⟨_, _, rfl, rfl, by rw [hw]; omega, ?_⟩
    have ha1 := s1 _ _ ha
    exact ⟨ha1, _, rfl, _, rfl, a, cF, rfl, Z.I.T, Z.no, .inl ⟨ha1, fun d hd hne => q H1 d s1 hd hne⟩⟩
theorem mk_xp {C : Addr} {p : Nat} {H1 : Hp} {E : XK} (hl : p ≤ 1000000) (q : XP C p E) : ∀ a, H1 a = none → spZf C (.ref a :: ([.int (p : Int)] ++ [])) (upd H1 a (exo a C none))
    (fun v H2 => v = .non ∧ ∃ (d : Addr) (fs : List (Str × V)), H2 a = some (exo a C (some d)) ∧ H2 d = some (exd d fs) ∧ H1 d = none ∧ E (.ref C) (some d) (upd (del H2 a) d (.xd fs))) (fun _ _ _ => False) := fun a na => by
  refine ⟨a, p, rfl, hl, upd_same, fun H2 d s2 hd hne => ⟨rfl, d, [("position", .int (p : Int))], upd_same, by rw [upd_ne hne, upd_same], ?_, q _ d upd_same⟩⟩
  have := Same_fr s2 hd
  rw [upd_ne hne] at this
  exact this
def spTkX (C cF : Addr) : Sp := fun vs H Q E => ∃ (x dx ta pa : Addr) (ts : List Tk) (i : Nat) (t : Tk) (k : Str), vs = [.ref x, .str k] ∧ Rs C H x dx ta pa ts i ∧ ts[i]? = some t ∧ (t.k = k → ∀ H', Kp x H H' → Rs C H' x dx ta pa ts (i + 1) → Q (.str t.c) H') ∧ (t.k ≠ k → t.p ≤ 1000000 ∧ XP cF t.p E)
theorem ok_take {cF fE : Addr} {fdE : FuncData} (T : Txt K mg w P) (Z : FsE P K mg cF fE fdE) (R : Rd7 K mg C fI fP fT fA fH fF fU fO fdI fdP fdT fdA fdH fdF fdU fdO) : FnOk P w K mg base (L2.CX P w) 5 fT fdT ["self", "kind"] (spTkX C cF) := by
  have PC := R.PC
  have IF := Z.I
  have FF : FnOk P w K mg base CX0 3 fE fdE ["self", "position"] (spZf cF) := ok_zf T Z
  have bF : Binds K fdE ["self", "position"] [] := IF.binds fun _ _ _ _ _ _ _ us hl => match us, hl with | [_, _], _ => rfl
  refine R.gT.okX sc_Reader_take (fun vs H Q E h => ?_) (fun cdv A outer s H vs Q E hr h => ?_)
  · obtain ⟨x, dx, ta, pa, ts, i, t, k, rfl, _⟩ := h
    rfl
  · obtain ⟨x, dx, ta, pa, ts, i, t, k, rfl, r, ht, q, qe⟩ := h
    refine ⟨_, (pss_cons
      (ps_asg (pe_ix (ix_listK (K := K) rfl) (pe_fld (pv 0) rfl) (pe_fld (pv 0) rfl) (fun _ _ => rfl)) (pg_tup (by rfl) (pgs_cons (pg_name (i := 2) sc_Reader_take.nd rfl (.inl rfl)) (pgs_cons (pg_name (i := 3) sc_Reader_take.nd rfl (.inl rfl)) (pgs_cons (pg_name (i := 4) sc_Reader_take.nd rfl (.inl rfl)) pgs_nil)))))
      (pss_cons
      (ps_if (pt_cmpR op_ne (pv 2) (pv 1) (nomark _)) (pss_one
      (ps_raise rfl (takes_of rfl rfl rfl rfl) (pmk_oex IF.T IF.iC IF.tI FF (hr.mono (by omega)) bF .nil pass0 (by rfl) IF.gC (pa_cons (pv 4) pa_nil)))) pss_nil)
      (pss_cons
      (ps_fldaug (pv 0) pe_int in_add)
      (pss_one
      (ps_ret (pv 3)))))), ?_⟩
    obtain ⟨as, h1, h2⟩ := r.ht
    obtain ⟨a, ha⟩ : ∃ a, as[i]? = some a := ⟨_, List.getElem?_eq_getElem (by rw [h2.1]; exact lt_of_get ht)⟩
    obtain ⟨t', q1, q2⟩ := h2.2 i a ha
    rw [ht] at q1
    obtain rfl := Option.some.inj q1
    refine ⟨_, rfl, x, C, dx, _, _, rfl, r.hx, PC.cl, PC.nt, rl_t _ _ _, _, rfl, x, C, dx, _, _, rfl, r.hx, PC.cl, PC.na, rl_a _ _ _, ta, _, _, _, rfl, rfl, .of h1, atN ha, a, _, rfl, .of q2, rfl, _, _, rfl, _, _, rfl, _, _, rfl, rfl, ?_⟩
    refine ⟨_, rfl, _, rfl, rfl, _, rfl, ?_⟩
    by_cases c : t.k = k
    · rw [decide_eq_true (show V.str t.k = V.str k by rw [c])]
      refine iteB_f rfl ?_
      refine ⟨_, rfl, x, C, dx, _, _, rfl, r.hx, PC.cl, PC.na, rl_a _ _ _, _, _, rfl, rfl, dx, _, r.hx, by show 3 < 1000; decide, _, rfl, q c _ Kp.own (r.next Kp.own ?_)⟩
      rw [upd_same, rf_at]
      rfl
    · rw [decide_eq_false (fun z => c (V.str.inj z))]
      refine iteB_t rfl ?_
      exact ⟨_, rfl, by show 1 ≤ 1000; decide, mk_xp (qe c).1 (qe c).2⟩
def spRI (C : Addr) : Sp := fun vs H Q _ => ∃ (x dx : Addr) (t : Str), vs = [.ref x, .str t] ∧ H x = some (.ins C dx []) ∧ t.length ≤ 10000 ∧ ∀ (H' : Hp) (ta pa : Addr) (ts : List Tk), Kp x H H' → Rs C H' x dx ta pa ts 0 → Tks t.cps.toList 0 ts → ts.length ≤ 10001 → Q .non H'
theorem knd_nd : (preL.map (·.2)).Nodup ∧ (infL.map (·.2)).Nodup := by decide +kernel
abbrev swp (p : Str × Str) : L2.Key × V := (Sum.inr p.2, V.str p.1)
theorem val_swp {s : Str} : ∀ {kvs : List (Str × Str)}, valV (kvs.map swp) (Sum.inr s) = (knd kvs s).map V.str
  | [] => rfl
  | p :: r => by
    by_cases c : p.2 = s
    · subst c
      rw [List.map_cons, valV_pos rfl]
      unfold knd
      rw [List.find?_cons, decide_eq_true rfl]
      rfl
    · rw [List.map_cons, valV_neg (fun z => c (Sum.inr.inj z)), val_swp]
      unfold knd
      rw [List.find?_cons, decide_eq_false c]
theorem put_swp {kvs : List (Str × Str)} (hn : (kvs.map (·.2)).Nodup) {i : Nat} {k v : Str} (h : kvs[i]? = some (k, v)) : putK ((kvs.take i).map swp) (Sum.inr v) (V.str k) = (kvs.take (i + 1)).map swp := by
  have e : kvs.take (i + 1) = kvs.take i ++ [(k, v)] := by rw [List.take_add_one, h]; rfl
  have hno : knd (kvs.take i) v = none := by
    unfold knd
    rw [List.find?_eq_none.mpr]
    · rfl
    · intro p hp
      have hd : ((kvs.take i ++ [(k, v)]).map (·.2)).Nodup := by
        rw [← e]
        exact (List.Sublist.map _ (List.take_sublist _ _)).nodup hn
      rw [List.map_append, List.nodup_append] at hd
      have := hd.2.2 p.2 (List.mem_map_of_mem hp) v (by simp)
      simpa using this
  rw [putK_new _ (by rw [val_swp, hno]; rfl), e, List.map_append]
  rfl
theorem ok_rinit (T : Txt K mg w P) (R : Rd7 K mg C fI fP fT fA fH fF fU fO fdI fdP fdT fdA fdH fdF fdU fdO) : FnOk P w K mg base CX0 4 fI fdI ["self", "text"] (spRI C) := by
  have PC := R.PC
  have C_split_tokens : C8.Cal P w K mg base 3 "split_tokens" spSt [] := cal_st T
  obtain ⟨aR, gRg, gPR⟩ := gloP T
  refine R.gI.ok sc_Reader_init (fun vs H Q E h => ?_) (fun cdv A outer s H vs Q E hr h => ?_)
  · obtain ⟨x, dx, t, rfl, _⟩ := h
    rfl
  · obtain ⟨x, dx, t, rfl, hx, hz, q⟩ := h
    refine ⟨_, (pss_cons
      (ps_fld (pv 0) (C8.pe_c C_split_tokens hr (by decide) (by rfl) (pa_cons (pv 1) pa_nil)) rfl)
      (pss_cons
      (ps_fld (pv 0) pe_int rfl)
      (pss_one
      (ps_fld (pv 0) (pe_dc (own := [("kind", 2), ("sign", 3)]) (g := gTup K 2 (gCons (gName 2) (gCons (gName 3) gNil))) (tt := tYes) rfl sc_Reader_init.nd (Kt7.pi_kit (pe_glob (v := .ref aR) (by rfl) gRg rfl)) (blkOk_by (N := N_Reader_init) (sc := defScope s_Reader_init) (by decide +kernel)) (fun _ _ _ _ _ => (pg_tup (by rfl) (pgs_cons (pg_name (i := 2) sc_Reader_init.nd rfl (Or.inl rfl)) (pgs_cons (pg_name (i := 3) sc_Reader_init.nd rfl (Or.inl rfl)) pgs_nil)))) (fun _ _ _ _ _ => pts_nil) (fun _ _ _ _ _ => (pv 3)) (fun _ _ _ _ _ => (pv 2))) rfl)))), ?_⟩
    refine ⟨_, rfl, t, rfl, hz, fun H1 ta as ts s1 et hk htk hl => ?_⟩
    refine ⟨_, rfl, x, C, dx, _, rfl, s1 _ _ hx, PC.cl, PC.nt, by decide, ?_⟩
    refine ⟨_, rfl, x, C, dx, _, rfl, upd_same, PC.cl, PC.na, by show 1 < 1000; decide, ?_⟩
    have kB : Kp x H (upd (upd H1 x (.ins C dx (putF "tokens" (.ref ta) []))) x (.ins C dx (putF "at" (.int 0) (putF "tokens" (.ref ta) [])))) := ((Same.kp s1).trans Kp.own).trans Kp.own
    have kB1 : Kp x H1 (upd (upd H1 x (.ins C dx (putF "tokens" (.ref ta) []))) x (.ins C dx (putF "at" (.int 0) (putF "tokens" (.ref ta) [])))) := Kp.own.trans Kp.own
    have xB := upd_same (H := upd H1 x (.ins C dx (putF "tokens" (.ref ta) []))) (a := x) (o := .ins C dx (putF "at" (.int 0) (putF "tokens" (.ref ta) [])))
    generalize upd (upd H1 x (.ins C dx (putF "tokens" (.ref ta) []))) x (.ins C dx (putF "at" (.int 0) (putF "tokens" (.ref ta) []))) = HB at kB kB1 xB ⊢
    have etB := kB1 _ _ (fun z => by rw [z, s1 _ _ hx] at et; cases et) et
    have hkB : TkA HB as ts := hk.tp fun b xs e => kB1 _ _ (fun z => by rw [z, s1 _ _ hx] at e; cases e) e
    refine ⟨aR, preL, rfl, gPR, fun D nD => ⟨fun i m H' => m = 8 - i ∧ i ≤ 8 ∧ Same HB H' ∧ H' D = some (.dK ((preL.take i).map swp)), ⟨8, rfl, Nat.zero_le _, same_new nD, upd_same⟩, ?_⟩⟩
    rintro i m H2 ⟨rfl, hi, s2, e2⟩
    by_cases c : i < 8
    · refine .inr ⟨c, fun H' => Same HB H' ∧ H' D = some (.dK ((preL.take (i + 1)).map swp)), fun H' ⟨a, b⟩ => ⟨8 - (i + 1), by omega, rfl, by omega, a, b⟩, ?_⟩
      rintro _ _ ⟨p, k, v, hkv, rfl, np, rfl⟩
      generalize hX : upd H2 p _ = H3; obtain ⟨sH3, ep⟩ := nw np hX; clear hX
      have e3 := sH3 _ _ e2
      refine ⟨p, _, rfl, .of ep, rfl, _, _, rfl, _, _, rfl, rfl, rfl, ?_⟩
      dsimp only [tYes]
      rw [if_pos rfl]
      refine ⟨_, rfl, _, rfl, _, Sum.inr v, rfl, e3, ?_, ?_, ?_⟩
      · rw [List.length_map, List.length_take]
        exact Nat.lt_of_le_of_lt (show min i preL.length ≤ 8 by omega) (by decide)
      · exact fun b o e => by rw [upd_ne (ne_of_none e nD)]; exact sH3 _ _ (s2 _ _ e)
      · rw [upd_same, put_swp knd_nd.1 hkv]
    · obtain rfl : i = 8 := by omega
      refine .inl ⟨Nat.le_refl 8, ?_⟩
      refine ⟨_, rfl, x, C, dx, _, rfl, s2 _ _ xB, PC.cl, PC.np, by show 2 < 1000; decide, ?_⟩
      have kC : Kp x HB (upd H2 x (.ins C dx (putF "prefixes" (.ref D) (putF "at" (.int 0) (putF "tokens" (.ref ta) []))))) := (Same.kp s2).trans Kp.own
      have nDx : D ≠ x := fun z => by rw [z, xB] at nD; cases nD
      refine q _ ta D ts (kB.trans kC) ⟨upd_same, ⟨as, kC _ _ (fun z => by rw [z, xB] at etB; cases etB) etB, hkB.tp fun b xs e => kC _ _ (fun z => by rw [z, xB] at e; cases e) e⟩, ?_⟩ htk hl
      rw [upd_ne nDx, e2]
      rfl
end
/-! own rule: a dict comprehension given to a local name, on one line -/
theorem sw_dict {k v : Expr} {gens : List Comprehension} {sc : Scope} {p q : Pos} {x : Str} {ln : Nat} {en : Env} (a : en.scope.kind = .function) (b : en.scope.names.lookup x = some .local) (c : (q.line == p.line) = true)
    (d : (sc.names.any fun (m, kd) => m == x && (kd == .local || kd == .cell)) = false) : swapsWith (.DictComp k v gens sc p) (some (.Name x q)) ln en = pure true := by
  have e1 : en.kindOf x = some .local := b
  have e2 : en.blockKind = .function := by
    unfold Env.blockKind
    rw [a]
    rfl
  simp only [swapsWith, e1, e2, d, Expr.pos, c]
  rfl
theorem ps_setDc {X : Cx} {n : Nat} {x : Str} {q p sp : Pos} {kx vx tg iter : Expr} {ifs : List Expr} {sc : Scope} {own : List (Str × Nat)} {wi : TI} {g : TG} {tt : TT} {tk tv : TE} (hc : X.calm = true) (nd : X.N.Nodup) (hx : X.N[n]? = some x) (hl : X.env.scope.names.lookup x = some .local)
    (sw : swapsWith (.DictComp kx vx [⟨tg, iter, ifs, 0⟩] sc p) (some (.Name x q)) sp.line X.env = pure true) (hi : PI X tg iter wi) (ok : BlkOk X.N X.env.scope sc own)
    (hg : ∀ (s1 : Shared) (Hh : Hp) (Cc : Addr) (cs : List (Str × Addr)) (fs : List Addr), PG (X.blk s1 Hh sc (compEnvC sc cs Cc X.env) fs) tg g)
    (ht : ∀ (s1 : Shared) (Hh : Hp) (Cc : Addr) (cs : List (Str × Addr)) (fs : List Addr), PTs (X.blk s1 Hh sc (compEnvC sc cs Cc X.env) fs) ifs tt)
    (hk : ∀ (s1 : Shared) (Hh : Hp) (Cc : Addr) (cs : List (Str × Addr)) (fs : List Addr), PE (X.blk s1 Hh sc (compEnvC sc cs Cc X.env) fs) kx tk)
    (hv : ∀ (s1 : Shared) (Hh : Hp) (Cc : Addr) (cs : List (Str × Addr)) (fs : List Addr), PE (X.blk s1 Hh sc (compEnvC sc cs Cc X.env) fs) vx tv) (hs : ∀ z, foldedSetIterable iter X.env z = pure z := by intro _; rfl) :
    PS X (.Assign [.Name x q] (.DictComp kx vx [⟨tg, iter, ifs, 0⟩] sc p) sp) (tAsg (tDc wi g tt tk tv (own.map (·.2))) (gName n)) := by
  refine ⟨fun pins s σ H D I hh => ?_⟩
  rw [exec_Assign_Name_used (hs := sw)]
  refine wpAny_bind (wpAny_standAt (wpAny_bind ?_))
  show wpAny _ X.A (do let _ ← comprehension (.DictComp kx vx [⟨tg, iter, ifs, 0⟩] sc p) sc X.env (firstIterPos [⟨tg, iter, ifs, 0⟩] p) newDict false (eval iter X.env) (some (assign (.Name x q) X.env))) _ _ s
  have hh : tDc wi g tt tk tv (own.map (·.2)) σ H (fun y H1 => gName n y σ H1 D.nx) := hh
  refine wpAny_bind (thn (dc_core (Qf := fun _ r => SP X pins D .next r) hc nd I hi ok hg ht hk hv hs hh fun L C r m H' J w ns f => ?_) fun _ r hr => wpAny_pure (wpAny_pure hr))
  show wpAny _ _ (assign (.Name x q) X.env (.ref L)) _ _ _
  refine wpAny_assign_Name (store_ok2 (v := V.ref L) J nd hx (.inl hl) rfl (fun r2 J2 ⟨a, sb, ha⟩ => ?_) (.inr hl))
  have hCa : C ≠ a := ha.elim (fun z => z ▸ f.2.1) fun z e => f.2.2.2.2.1 x a z e.symm
  exact ⟨m, ns.sameBut sb hCa, fun h3 sb3 => ⟨_, H', J2.turned (t' := r2.toks) (fun b o hb e => (sb3.2 b hb).trans e) f.1 f.2.1 f.2.2.2.1 f.2.2.2.2.1 f.2.2.2.2.2, w⟩⟩
def spFl (K : PySem.W.Frag) (g : List Str → Fm → List Fm → Fm) : Sp := fun vs H Q _ => ∃ (o p : Addr) (ops : List Str) (us : List V) (f : Fm) (fs : List Fm), vs = [.ref o, .ref p] ∧ H o = some (.lst (ops.map V.str)) ∧ H p = some (.lst us) ∧ FmsAt K H us (f :: fs) ∧ ops.length = fs.length ∧ 0 < ops.length ∧ ops.length ≤ 1000 ∧ (∀ s ∈ ops, (knd infL s).isSome = true) ∧
  ∀ (H' : Hp) (v : V), Same H H' → FmAt K H' v (g ops f fs) → Q v H'
theorem kndI_of {s : Str} (h : (knd infL s).isSome = true) : knd infL s = some (kndI s) := by
  unfold kndI
  cases e : knd infL s with
  | none => rw [e] at h; cases h
  | some k => rfl
theorem cutV_one (x : V) (l : List V) : cutV (x :: l) (some 1) none = l := by
  unfold cutV
  rw [show (1 : Int) = ((1 : Nat) : Int) from rfl, HT.sIx_nat, HT.sIx_none, Nat.min_eq_left (show 1 ≤ (x :: l).length by simp)]
  simp
theorem cal_fl (T : Txt K mg w P) : C8.Cal P w K mg base 1 "fold_left" (spFl K fun ops f fs => fldL ops fs f) [] := by
  obtain ⟨aI, gIg, gIN⟩ := gloI T
  obtain ⟨fa, fd, F, hm, hb⟩ := T.h_fold_left
  refine ⟨fa, fd, _, [], F.ok sc_fold_left (fun vs H Q E h => ?_) (fun cdv A outer s H vs Q E hr h => ?_), hm, F.kp, hb, .nil⟩
  · obtain ⟨o, p, ops, us, f, fs, rfl, _⟩ := h
    rfl
  · obtain ⟨o, p, ops, us, f, fs, rfl, ho, hp, hf, hl, hl0, hl2, hk, q⟩ := h
    refine ⟨_, (pss_cons
      (ps_setDc (n := 2) (own := [("kind", 6), ("sign", 4)]) (g := gTup K 2 (gCons (gName 6) (gCons (gName 4) gNil))) (tt := tYes) rfl sc_fold_left.nd rfl rfl (sw_dict rfl rfl rfl (by decide +kernel)) (Kt7.pi_kit (pe_glob (v := .ref aI) (by rfl) gIg rfl)) (blkOk_by (N := N_fold_left) (sc := defScope s_fold_left) (by decide +kernel)) (fun _ _ _ _ _ => (pg_tup (by rfl) (pgs_cons (pg_name (i := 6) sc_fold_left.nd rfl (Or.inl rfl)) (pgs_cons (pg_name (i := 4) sc_fold_left.nd rfl (Or.inl rfl)) pgs_nil)))) (fun _ _ _ _ _ => pts_nil) (fun _ _ _ _ _ => (pv 4)) (fun _ _ _ _ _ => (pv 6)))
      (pss_cons
      (ps_set (i := 3) sc_fold_left.nd rfl (Or.inl rfl) (pe_ix (ix_listK (K := K) rfl) (pv 1) pe_int (fun _ _ => rfl)))
      (pss_cons
      (ps_for PassesOwn.never rfl (pi_zip (by rfl) T.z_zip (pa_cons (pv 0) (pa_cons (pe_slice (sl_listK (K := K) rfl) (pv 1) (po_some pe_int) po_none) pa_nil))) (pg_tup (by rfl) (pgs_cons (pg_name (i := 4) sc_fold_left.nd rfl (.inl rfl)) (pgs_cons (pg_name (i := 5) sc_fold_left.nd rfl (.inl rfl)) pgs_nil))) (pss_one
      (ps_set (i := 3) sc_fold_left.nd rfl (Or.inl rfl) (pe_tup (pa_cons (pe_dget (hu_of hr) (pv 2) (pv 4) (fun _ _ => rfl)) (pa_cons (pv 3) (pa_cons (pv 5) pa_nil)))))))
      (pss_one
      (ps_ret (pv 3)))))), ?_⟩
    refine ⟨aI, infL, rfl, gIN, fun D nD => ⟨fun i m H' => m = 9 - i ∧ i ≤ 9 ∧ Same H H' ∧ H' D = some (.dK ((infL.take i).map swp)), ⟨9, rfl, Nat.zero_le _, same_new nD, upd_same⟩, ?_⟩⟩
    rintro i m H2 ⟨rfl, hi, s2, e2⟩
    by_cases c : i < 9
    · refine .inr ⟨c, fun H' => Same H H' ∧ H' D = some (.dK ((infL.take (i + 1)).map swp)), fun H' ⟨a, b⟩ => ⟨9 - (i + 1), by omega, rfl, by omega, a, b⟩, ?_⟩
      rintro _ _ ⟨t, k, v, hkv, rfl, nt, rfl⟩
      generalize hX : upd H2 t _ = H3; obtain ⟨sH3, et⟩ := nw nt hX; clear hX
      have e3 := sH3 _ _ e2
      refine ⟨t, _, rfl, .of et, rfl, _, _, rfl, _, _, rfl, rfl, rfl, ?_⟩
      dsimp only [tYes]
      rw [if_pos rfl]
      refine ⟨_, rfl, _, rfl, _, Sum.inr v, rfl, e3, ?_, ?_, ?_⟩
      · rw [List.length_map, List.length_take]
        exact Nat.lt_of_le_of_lt (show min i infL.length ≤ 9 by omega) (by decide)
      · exact fun b o e => by rw [upd_ne (ne_of_none e nD)]; exact sH3 _ _ (s2 _ _ e)
      · rw [upd_same, put_swp knd_nd.2 hkv]
    obtain rfl : i = 9 := by omega
    refine .inl ⟨Nat.le_refl 9, ?_⟩
    have ho2 := s2 _ _ ho
    have hp2 := s2 _ _ hp
    have hf2 := hf.same s2
    have e2 : H2 D = some (.dK (infL.map swp)) := e2
    obtain ⟨u0, us', rfl⟩ : ∃ u0 us', us = u0 :: us' := by
      cases us with
      | nil => exact absurd hf (by simp [FmsAt])
      | cons a b => exact ⟨a, b, rfl⟩
    have hul := hf2.2.len
    refine ⟨_, rfl, p, _, _, u0, rfl, rfl, .of hp2, atI_nat (j := 0) rfl, ?_⟩
    refine ⟨_, rfl, _, rfl, _, rfl, p, _, rfl, .of hp2, fun z nz => ?_⟩
    rw [cutV_one]
    generalize hX : upd H2 z _ = H3; obtain ⟨sH3, ez⟩ := nw nz hX; clear hX
    have ho3 := sH3 _ _ ho2
    have hul2 : us'.length = ops.length := by rw [hul, hl]
    refine ⟨o, z, _, _, rfl, .of ho3, .of ez, ?_⟩
    refine for_it (walk_zip (K := K) (a := o) (b := z) (xs := ops.map V.str) (ys := us') (n := ops.length) (by rw [List.length_map, hul2, Nat.min_self])) (fun i σ H' => ∃ (v4 v5 : Option V) (w3 : V) (g : Fm), σ = [some (.ref o), some (.ref p), some (.ref D), some w3, v4, v5, none] ∧ Same H3 H' ∧ FmAt K H' w3 g ∧ fldL (ops.drop i) (fs.drop i) g = fldL ops fs f)
      ⟨none, none, u0, f, rfl, Same.refl _, hf2.1.same sH3, rfl⟩ (fun i σ H' _ ⟨_, _, _, _, _, x, _⟩ => ⟨.of (x _ _ ho3), .of (x _ _ ez)⟩) ?_ ?_
    · rintro i v σ H5 H6 hi ⟨v4, v5, w3, g, rfl, s5, hg, hfl⟩ ⟨t, x, y, rfl, nt, rfl, hx, hy⟩
      obtain ⟨sg, hsg, rfl⟩ := mapg hx
      obtain ⟨h, hh, hy2⟩ := FmsAt.get hf2.2 hy
      have hy6 := hy2.same (sH3.trans s5)
      generalize hX : upd H5 t _ = H6; obtain ⟨sH6, et⟩ := nw nt hX; clear hX
      have s6 := s5.trans sH6
      have eD6 := s6 _ _ (sH3 _ _ e2)
      refine ⟨t, _, rfl, .of et, rfl, _, _, rfl, _, _, rfl, rfl, ?_⟩
      have hkk := hk sg (List.mem_of_getElem? hsg)
      have dg := DGet.k (k := Sum.inr sg) eD6
      rw [val_swp, kndI_of hkk] at dg
      refine ⟨_, rfl, _, rfl, D, _, rfl, dg, _, rfl, _, rfl, by show 3 ≤ sizeLine; decide, fun b nb => ?_⟩
      generalize hX : upd H6 b _ = H7; obtain ⟨sH7, eb⟩ := nw nb hX; clear hX
      refine ⟨_, _, .ref b, .bin (kndI sg) g h, rfl, s6.trans sH7, ⟨b, w3, y, rfl, .of eb, (hg.same sH6).same sH7, (hy6.same sH6).same sH7⟩, ?_⟩
      rw [← hfl, List.drop_eq_getElem_cons (lt_of_get hsg), List.drop_eq_getElem_cons (lt_of_get hh)]
      rw [List.getElem?_eq_getElem (lt_of_get hsg)] at hsg
      rw [List.getElem?_eq_getElem (lt_of_get hh)] at hh
      rw [Option.some.inj hsg, Option.some.inj hh]
      rfl
    · rintro σ H5 ⟨v4, v5, w3, g, rfl, s5, hg, hfl⟩
      rw [List.drop_length, hl, List.drop_length] at hfl
      refine ⟨_, rfl, q H5 w3 ((s2.trans sH3).trans s5) ?_⟩
      show FmAt K H5 w3 (fldL ops fs f)
      rw [← hfl]
      exact hg
theorem at_m1 {α : Type} {us : List α} (h : 0 < us.length) : atI us (-1) = us[us.length - 1]? := by
  have e : ixN us.length (-1) = some (us.length - 1) := by
    unfold ixN
    rw [if_neg (by decide)]
    have : ((us.length : Int) + -1).toNat = us.length - 1 := by omega
    simp
    omega
  unfold atI
  rw [e]
  rfl
def suf (ops : List Str) (F : List Fm) (k : Nat) : Fm := match F.drop k with
  | g :: gs => fldR (ops.drop k) g gs
  | [] => .c0 ""
theorem suf_top {ops : List Str} {F : List Fm} {g : Fm} (hl : F.length = ops.length + 1) (hg : F[ops.length]? = some g) : suf ops F ops.length = g := by
  have e : F.drop ops.length = [g] := by
    rw [List.drop_eq_getElem_cons (lt_of_get hg), List.drop_of_length_le (show F.length ≤ ops.length + 1 by omega)]
    rw [List.getElem?_eq_getElem (lt_of_get hg)] at hg
    rw [Option.some.inj hg]
  unfold suf
  rw [e, List.drop_length]
  rfl
theorem suf_step {ops : List Str} {F : List Fm} {k : Nat} {sg : Str} {h : Fm} (hs : ops[k]? = some sg) (hh : F[k]? = some h) (hl : k + 1 < F.length) : suf ops F k = .bin (kndI sg) h (suf ops F (k + 1)) := by
  have e1 : F.drop k = h :: F.drop (k + 1) := by
    rw [List.drop_eq_getElem_cons (lt_of_get hh)]
    rw [List.getElem?_eq_getElem (lt_of_get hh)] at hh
    rw [Option.some.inj hh]
  have e2 : ops.drop k = sg :: ops.drop (k + 1) := by
    rw [List.drop_eq_getElem_cons (lt_of_get hs)]
    rw [List.getElem?_eq_getElem (lt_of_get hs)] at hs
    rw [Option.some.inj hs]
  unfold suf
  rw [e1, e2, List.drop_eq_getElem_cons hl]
  rfl
theorem cal_fr (T : Txt K mg w P) : C8.Cal P w K mg base 1 "fold_right" (spFl K fldR) [] := by
  obtain ⟨aI, gIg, gIN⟩ := gloI T
  obtain ⟨fa, fd, F, hm, hb⟩ := T.h_fold_right
  refine ⟨fa, fd, _, [], F.ok sc_fold_right (fun vs H Q E h => ?_) (fun cdv A outer s H vs Q E hr h => ?_), hm, F.kp, hb, .nil⟩
  · obtain ⟨o, p, ops, us, f, fs, rfl, _⟩ := h
    rfl
  · obtain ⟨o, p, ops, us, f, fs, rfl, ho, hp, hf, hl, hl0, hl2, hk, q⟩ := h
    refine ⟨_, (pss_cons
      (ps_setDc (n := 2) (own := [("kind", 6), ("sign", 4)]) (g := gTup K 2 (gCons (gName 6) (gCons (gName 4) gNil))) (tt := tYes) rfl sc_fold_right.nd rfl rfl (sw_dict rfl rfl rfl (by decide +kernel)) (Kt7.pi_kit (pe_glob (v := .ref aI) (by rfl) gIg rfl)) (blkOk_by (N := N_fold_right) (sc := defScope s_fold_right) (by decide +kernel)) (fun _ _ _ _ _ => (pg_tup (by rfl) (pgs_cons (pg_name (i := 6) sc_fold_right.nd rfl (Or.inl rfl)) (pgs_cons (pg_name (i := 4) sc_fold_right.nd rfl (Or.inl rfl)) pgs_nil)))) (fun _ _ _ _ _ => pts_nil) (fun _ _ _ _ _ => (pv 4)) (fun _ _ _ _ _ => (pv 6)))
      (pss_cons
      (ps_set (i := 3) sc_fold_right.nd rfl (Or.inl rfl) (pe_ix (ix_listK (K := K) rfl) (pv 1) (pe_un un_neg pe_int) (fun _ _ => rfl)))
      (pss_cons
      (ps_for PassesOwn.never rfl (pi_zip (by rfl) T.z_zip (pa_cons (pe_revLK (K := K) rfl (pv 0)) (pa_cons (Kt7.pe_dlr (K := K) rfl (pv 1)) pa_nil))) (pg_tup (by rfl) (pgs_cons (pg_name (i := 4) sc_fold_right.nd rfl (.inl rfl)) (pgs_cons (pg_name (i := 5) sc_fold_right.nd rfl (.inl rfl)) pgs_nil))) (pss_one
      (ps_set (i := 3) sc_fold_right.nd rfl (Or.inl rfl) (pe_tup (pa_cons (pe_dget (hu_of hr) (pv 2) (pv 4) (fun _ _ => rfl)) (pa_cons (pv 5) (pa_cons (pv 3) pa_nil)))))))
      (pss_one
      (ps_ret (pv 3)))))), ?_⟩
    refine ⟨aI, infL, rfl, gIN, fun D nD => ⟨fun i m H' => m = 9 - i ∧ i ≤ 9 ∧ Same H H' ∧ H' D = some (.dK ((infL.take i).map swp)), ⟨9, rfl, Nat.zero_le _, same_new nD, upd_same⟩, ?_⟩⟩
    rintro i m H2 ⟨rfl, hi, s2, e2⟩
    by_cases c : i < 9
    · refine .inr ⟨c, fun H' => Same H H' ∧ H' D = some (.dK ((infL.take (i + 1)).map swp)), fun H' ⟨a, b⟩ => ⟨9 - (i + 1), by omega, rfl, by omega, a, b⟩, ?_⟩
      rintro _ _ ⟨t, k, v, hkv, rfl, nt, rfl⟩
      generalize hX : upd H2 t _ = H3; obtain ⟨sH3, et⟩ := nw nt hX; clear hX
      have e3 := sH3 _ _ e2
      refine ⟨t, _, rfl, .of et, rfl, _, _, rfl, _, _, rfl, rfl, rfl, ?_⟩
      dsimp only [tYes]
      rw [if_pos rfl]
      refine ⟨_, rfl, _, rfl, _, Sum.inr v, rfl, e3, ?_, ?_, ?_⟩
      · rw [List.length_map, List.length_take]
        exact Nat.lt_of_le_of_lt (show min i infL.length ≤ 9 by omega) (by decide)
      · exact fun b o e => by rw [upd_ne (ne_of_none e nD)]; exact sH3 _ _ (s2 _ _ e)
      · rw [upd_same, put_swp knd_nd.2 hkv]
    obtain rfl : i = 9 := by omega
    refine .inl ⟨Nat.le_refl 9, ?_⟩
    have ho2 := s2 _ _ ho
    have hp2 := s2 _ _ hp
    have hf2 := hf.same s2
    have e2 : H2 D = some (.dK (infL.map swp)) := e2
    have hul := hf2.len
    rw [List.length_cons] at hul
    have hn0 : 0 < us.length := by omega
    have hlast : atI us (-1) = some (us[us.length - 1]'(by omega)) := by rw [at_m1 hn0]; exact List.getElem?_eq_getElem _
    refine ⟨_, rfl, _, rfl, p, _, _, _, rfl, rfl, .of hp2, hlast, ?_⟩
    refine ⟨_, rfl, o, _, rfl, .of ho2, fun z nz => ?_⟩
    generalize hX : upd H2 z _ = H3; obtain ⟨sH3, ez⟩ := nw nz hX; clear hX
    have hp3 := sH3 _ _ hp2
    refine ⟨_, rfl, p, _, rfl, .of hp3, by omega, fun y ny => ?_⟩
    generalize hX : upd H3 y _ = H4; obtain ⟨sH4, ey⟩ := nw ny hX; clear hX
    have s24 := sH3.trans sH4
    have ez4 := sH4 _ _ ez
    have hdl : us.dropLast.reverse.length = ops.length := by rw [List.length_reverse, List.length_dropLast]; omega
    refine ⟨z, y, _, _, rfl, .of ez4, .of ey, ?_⟩
    refine for_it (walk_zip (K := K) (a := z) (b := y) (xs := (ops.map V.str).reverse) (ys := us.dropLast.reverse) (n := ops.length) (by rw [List.length_reverse, List.length_map, hdl, Nat.min_self])) (fun i σ H' => ∃ (v4 v5 : Option V) (w3 : V), σ = [some (.ref o), some (.ref p), some (.ref D), some w3, v4, v5, none] ∧ Same H4 H' ∧ FmAt K H' w3 (suf ops (f :: fs) (ops.length - i)))
      ⟨none, none, _, rfl, Same.refl _, ?_⟩ (fun i σ H' _ ⟨_, _, _, _, x, _⟩ => ⟨.of (x _ _ ez4), .of (x _ _ ey)⟩) ?_ ?_
    · obtain ⟨g, hg, hx⟩ := FmsAt.get hf2 (i := us.length - 1) (List.getElem?_eq_getElem (by omega))
      have hn : us.length - 1 = ops.length - 0 := by omega
      rw [hn] at hg
      rw [Nat.sub_zero] at hg ⊢
      rw [suf_top (by rw [List.length_cons, hl]) hg]
      exact hx.same s24
    · rintro i v σ H5 H6 hi ⟨v4, v5, w3, rfl, s5, hg⟩ ⟨t, x, y2, rfl, nt, rfl, hx, hy⟩
      have hx : ((ops.map V.str).reverse)[i]? = some x := hx
      have hy : (us.dropLast.reverse)[i]? = some y2 := hy
      rw [List.getElem?_reverse (by rw [List.length_map]; omega), List.length_map] at hx
      obtain ⟨sg, hsg, rfl⟩ := mapg hx
      rw [List.getElem?_reverse (by rw [List.length_dropLast]; omega), List.length_dropLast] at hy
      have hy2 : us[ops.length - 1 - i]? = some y2 := by
        rw [List.getElem?_dropLast] at hy
        split at hy
        · rw [← hy]
          congr 1
          omega
        · cases hy
      obtain ⟨h, hh, hy3⟩ := FmsAt.get hf2 hy2
      have hy6 := hy3.same (s24.trans s5)
      generalize hX : upd H5 t _ = H6; obtain ⟨sH6, et⟩ := nw nt hX; clear hX
      have s6 := s5.trans sH6
      have eD6 := s6 _ _ (s24 _ _ e2)
      refine ⟨t, _, rfl, .of et, rfl, _, _, rfl, _, _, rfl, rfl, ?_⟩
      have hkk := hk sg (List.mem_of_getElem? hsg)
      have dg := DGet.k (k := Sum.inr sg) eD6
      rw [val_swp, kndI_of hkk] at dg
      refine ⟨_, rfl, _, rfl, D, _, rfl, dg, _, rfl, _, rfl, by show 3 ≤ sizeLine; decide, fun b nb => ?_⟩
      generalize hX : upd H6 b _ = H7; obtain ⟨sH7, eb⟩ := nw nb hX; clear hX
      refine ⟨_, _, .ref b, rfl, s6.trans sH7, ?_⟩
      have hsuf : suf ops (f :: fs) (ops.length - (i + 1)) = .bin (kndI sg) h (suf ops (f :: fs) (ops.length - i)) := by
        have ei : ops.length - (i + 1) = ops.length - 1 - i := by omega
        have ej : ops.length - i = ops.length - 1 - i + 1 := by omega
        have hlt2 : ops.length - 1 - i + 1 < (f :: fs).length := by rw [List.length_cons]; omega
        rw [ei, ej]
        exact suf_step hsg hh hlt2
      rw [hsuf]
      exact ⟨b, y2, w3, rfl, .of eb, (hy6.same sH6).same sH7, (hg.same sH6).same sH7⟩
    · rintro σ H5 ⟨v4, v5, w3, rfl, s5, hg⟩
      rw [Nat.sub_self] at hg
      exact ⟨_, rfl, q H5 w3 ((s2.trans s24).trans s5) hg⟩
def spFd (K : PySem.W.Frag) : Sp := fun vs H Q _ => ∃ (o p : Addr) (ops : List Str) (us : List V) (f : Fm) (fs : List Fm), vs = [.ref o, .ref p] ∧ H o = some (.lst (ops.map V.str)) ∧ H p = some (.lst us) ∧ FmsAt K H us (f :: fs) ∧ ops.length = fs.length ∧ ops.length ≤ 1000 ∧ (∀ s ∈ ops, (knd infL s).isSome = true) ∧
  ∀ (H' : Hp) (v : V), Same H H' → FmAt K H' v (fld ops f fs) → Q v H'
theorem gloA (T : Txt K mg w P) : ∃ aA : Addr, GloT K mg "ASSOCIATE_TO_THE_LEFT" ["|", "&"] aA := by
  obtain ⟨⟨aQ, aN, aF, aP, aG, aA, _, _, _, _, _, g⟩, _⟩ := T.er
  exact ⟨aA, g⟩
theorem cal_fold (T : Txt K mg w P) : C8.Cal P w K mg base 2 "fold" (spFd K) [] := by
  have C_fold_left : C8.Cal P w K mg base 1 "fold_left" (spFl K fun ops f fs => fldL ops fs f) [] := cal_fl T
  have C_fold_right : C8.Cal P w K mg base 1 "fold_right" (spFl K fldR) [] := cal_fr T
  obtain ⟨aA, gA⟩ := gloA T
  obtain ⟨fa, fd, F, hm, hb⟩ := T.h_fold
  refine ⟨fa, fd, _, [], F.ok sc_fold (fun vs H Q E h => ?_) (fun cdv A outer s H vs Q E hr h => ?_), hm, F.kp, hb, .nil⟩
  · obtain ⟨o, p, ops, us, f, fs, rfl, _⟩ := h
    rfl
  · obtain ⟨o, p, ops, us, f, fs, rfl, ho, hp, hf, hl, hl2, hk, q⟩ := h
    refine ⟨_, (pss_cons
      (ps_if (pt_cmpR op_eq (pe_callB (call_lenK (K := K) rfl) (by rfl) T.z_len PySem.boot_len (pa_cons (pv 0) pa_nil)) pe_int (nomark _)) (pss_one
      (ps_ret (pe_ix (ix_listK (K := K) rfl) (pv 1) pe_int (fun _ _ => rfl)))) pss_nil)
      (pss_cons
      (ps_if (pt_cmpR (op_inK (K := K) rfl) (pe_ix (ix_listK (K := K) rfl) (pv 0) pe_int (fun _ _ => rfl)) (pe_glob (v := .ref aA) (by rfl) gA.g rfl) (by rfl)) (pss_one
      (ps_ret (C8.pe_c C_fold_left hr (by decide) (by rfl) (pa_cons (pv 0) (pa_cons (pv 1) pa_nil))))) pss_nil)
      (pss_one
      (ps_ret (C8.pe_c C_fold_right hr (by decide) (by rfl) (pa_cons (pv 0) (pa_cons (pv 1) pa_nil))))))), ?_⟩
    refine ⟨_, rfl, o, _, rfl, .inl (.of ho), rfl, _, rfl, ?_⟩
    rw [List.length_map]
    cases ops with
    | nil =>
      refine iteB_t (by rfl) ?_
      obtain ⟨u0, us', rfl⟩ : ∃ u0 us', us = u0 :: us' := by
        cases us with
        | nil => exact absurd hf (by simp [FmsAt])
        | cons a b => exact ⟨a, b, rfl⟩
      exact ⟨_, rfl, p, _, _, u0, rfl, rfl, .of hp, atI_nat (j := 0) rfl, q H u0 (Same.refl _) hf.1⟩
    | cons a ops =>
      refine iteB_f (decide_eq_false fun z => by have := V.int.inj z; rw [List.length_cons] at this; omega) ?_
      refine ⟨_, rfl, o, _, _, .str a, rfl, rfl, .of ho, atI_nat (j := 0) rfl, inC (gA.q H) ⟨_, rfl, ?_⟩⟩
      by_cases c : a ∈ (["|", "&"] : List Str)
      · refine iteB_t (decide_eq_true c) ⟨_, rfl, _, rfl, o, p, a :: ops, us, f, fs, rfl, ho, hp, hf, hl, Nat.succ_pos _, hl2, hk, fun H' v s' h' => q H' v s' ?_⟩
        show FmAt K H' v (if a ∈ (["|", "&"] : List Str) then _ else _)
        rw [if_pos c]
        exact h'
      · refine iteB_f (decide_eq_false c) ⟨_, rfl, _, rfl, o, p, a :: ops, us, f, fs, rfl, ho, hp, hf, hl, Nat.succ_pos _, hl2, hk, fun H' v s' h' => q H' v s' ?_⟩
        show FmAt K H' v (if a ∈ (["|", "&"] : List Str) then _ else _)
        rw [if_neg c]
        exact h'
section
variable {C fI fP fT fA fH fF fU fO : Addr} {fdI fdP fdT fdA fdH fdF fdU fdO : FuncData}
theorem peekq {x dx ta pa : Addr} {ts : List Tk} {i : Nat} {t : Tk} {σ : L2.St} {H : Hp} {Q : VK} {E : XK} (hσ : σ[0]? = some (some (.ref x))) (r : Rs C H x dx ta pa ts i) (ht : ts[i]? = some t) (q : Q (.str t.k) H) : tMeth C "peek" (spPeek C) [] E (tVar 0) tNil σ H Q :=
  ⟨_, hσ, x, dx, _, rfl, r.hx, rfl, x, dx, ta, pa, ts, i, t, rfl, r, ht, q⟩
theorem takeq {x dx ta pa cF : Addr} {ts : List Tk} {i : Nat} {t : Tk} {k : Str} {σ : L2.St} {H : Hp} {Q : VK} {W : WX} (hσ : σ[0]? = some (some (.ref x))) (r : Rs C H x dx ta pa ts i) (ht : ts[i]? = some t) (hk : t.k = k) (q : ∀ H', Kp x H H' → Rs C H' x dx ta pa ts (i + 1) → Q (.str t.c) H') : Mx.tMethX C "take" (spTkX C cF) (WE W) (tVar 0) (tCons (tC (.str k)) tNil) σ H Q :=
  ⟨_, hσ, x, dx, _, rfl, r.hx, rfl, x, dx, ta, pa, ts, i, t, k, rfl, r, ht, fun _ => q, fun z => absurd hk z⟩
theorem takee {x dx ta pa cF : Addr} {ts : List Tk} {i : Nat} {t : Tk} {k : Str} {σ : L2.St} {H : Hp} {Q : VK} {W : WX} (hσ : σ[0]? = some (some (.ref x))) (r : Rs C H x dx ta pa ts i) (ht : ts[i]? = some t) (hk : t.k ≠ k) (hp : t.p ≤ 1000000) (q : XP cF t.p (WE W σ)) : Mx.tMethX C "take" (spTkX C cF) (WE W) (tVar 0) (tCons (tC (.str k)) tNil) σ H Q :=
  ⟨_, hσ, x, dx, _, rfl, r.hx, rfl, x, dx, ta, pa, ts, i, t, k, rfl, r, ht, fun z => absurd z hk, fun _ => ⟨hp, q⟩⟩
theorem takep {x dx ta pa cF : Addr} {ts : List Tk} {i : Nat} {t : Tk} {σ : L2.St} {H : Hp} {Q : VK} {W : WX} {E' : XK} (hσ : σ[0]? = some (some (.ref x))) (r : Rs C H x dx ta pa ts i) (ht : ts[i]? = some t) (q : ∀ H', Kp x H H' → Rs C H' x dx ta pa ts (i + 1) → Q (.str t.c) H') : Mx.tMethX C "take" (spTkX C cF) (WE W) (tVar 0) (tCons (tMeth C "peek" (spPeek C) [] E' (tVar 0) tNil) tNil) σ H Q :=
  ⟨_, hσ, x, dx, _, rfl, r.hx, rfl, _, hσ, x, dx, _, rfl, r.hx, rfl, x, dx, ta, pa, ts, i, t, rfl, r, ht, x, dx, ta, pa, ts, i, t, t.k, rfl, r, ht, fun _ => q, fun z => absurd rfl z⟩
/-- positions are small -/
abbrev Ps (ts : List Tk) : Prop := ts.length ≤ 1000 ∧ ∀ t ∈ ts, t.p ≤ 1000000
def spRf (K : PySem.W.Frag) (C cF : Addr) (n l : Nat) : Sp := fun vs H Q E => ∃ (x dx ta pa : Addr) (ts : List Tk) (i : Nat), vs = [.ref x, .int (l : Int)] ∧ Rs C H x dx ta pa ts i ∧ Ps ts ∧
  ((∃ f r, RdF n l (ts.drop i) f r ∧ ∀ (H' : Hp) (v : V) (j : Nat), Kp x H H' → Rs C H' x dx ta pa ts j → ts.drop j = r → FmAt K H' v f → Q v H') ∨ (∃ p, RdE n l (ts.drop i) p ∧ XP cF p E))
def spAt (K : PySem.W.Frag) (C cF : Addr) (n : Nat) : Sp := fun vs H Q E => ∃ (x dx ta pa : Addr) (ts : List Tk) (i : Nat), vs = [.ref x] ∧ Rs C H x dx ta pa ts i ∧ Ps ts ∧
  ((∃ f r, Atm (RdF n 0) (ts.drop i) f r ∧ ∀ (H' : Hp) (v : V) (j : Nat), Kp x H H' → Rs C H' x dx ta pa ts j → ts.drop j = r → FmAt K H' v f → Q v H') ∨ (∃ p, AtE (RdF n 0) (RdE n 0) (ts.drop i) p ∧ XP cF p E))
def Lv (n l : Nat) : Nat := 6 + n + 2 * ((n + l) / 6)
theorem ok_atom {n : Nat} {cF fE : Addr} {fdE : FuncData} (T : Txt K mg w P) (Z : FsE P K mg cF fE fdE) (R : Rd7 K mg C fI fP fT fA fH fF fU fO fdI fdP fdT fdA fdH fdF fdU fdO) (FF : FnOk P w K mg base (L2.CX P w) (Lv n 0) fF fdF ["self", "level"] (spRf K C cF n 0)) : FnOk P w K mg base (L2.CX P w) (Lv n 0 + 1) fO fdO ["self"] (spAt K C cF n) := by
  have PC := R.PC
  have MP := R.MP
  have bP := R.bP
  have MT := R.MT
  have bT := R.bT
  have MF := R.MF
  have bF := R.bF
  have hLv : 6 ≤ Lv n 0 := by unfold Lv; omega
  have FP : FnOk P w K mg base CX0 1 fP fdP ["self"] (spPeek C) := ok_peek R
  have FT : FnOk P w K mg base (L2.CX P w) 5 fT fdT ["self", "kind"] (spTkX C cF) := ok_take T Z R
  obtain ⟨aQ, aN, gQ, gN⟩ := gloQ T
  refine R.gO.okX sc_Reader_read_atom (fun vs H Q E h => ?_) (fun cdv A outer s H vs Q E hr h => ?_)
  · obtain ⟨x, dx, ta, pa, ts, i, rfl, _⟩ := h
    rfl
  · obtain ⟨x, dx, ta, pa, ts, i, rfl, rs, hl, hq⟩ := h
    refine ⟨_, (pss_cons
      (ps_if (pt_cmpR op_eq (pe_meth0 (pv 0) PC.cl MP FP (hr.mono (by omega)) bP .nil pass0) pe_str (nomark _)) (pss_cons
      (ps_expr (Mx.pe_methX (pv 0) PC.cl MT FT (hr.mono (by omega)) bT (takes_of rfl rfl rfl rfl) (pa_cons pe_str pa_nil)))
      (pss_cons
      (ps_set (i := 1) sc_Reader_read_atom.nd rfl (Or.inl rfl) (Mx.pe_methX (pv 0) PC.cl MF FF (hr.mono (by omega)) bF (takes_of rfl rfl rfl rfl) (pa_cons pe_int pa_nil)))
      (pss_cons
      (ps_expr (Mx.pe_methX (pv 0) PC.cl MT FT (hr.mono (by omega)) bT (takes_of rfl rfl rfl rfl) (pa_cons pe_str pa_nil)))
      (pss_one
      (ps_ret (pv 1)))))) pss_nil)
      (pss_cons
      (ps_if (pt_cmpR (op_inK (K := K) rfl) (pe_meth0 (pv 0) PC.cl MP FP (hr.mono (by omega)) bP .nil pass0) (pe_glob (v := .ref aN) (by rfl) gN.g rfl) (by rfl)) (pss_one
      (ps_ret (pe_tup (pa_cons (Mx.pe_methX (pv 0) PC.cl MT FT (hr.mono (by omega)) bT (takes_of rfl rfl rfl rfl) (pa_cons (pe_meth0 (pv 0) PC.cl MP FP (hr.mono (by omega)) bP .nil pass0) pa_nil)) pa_nil)))) pss_nil)
      (pss_one
      (ps_ret (pe_tup (pa_cons pe_str (pa_cons (Mx.pe_methX (pv 0) PC.cl MT FT (hr.mono (by omega)) bT (takes_of rfl rfl rfl rfl) (pa_cons pe_str pa_nil)) pa_nil))))))), ?_⟩
    rcases hq with ⟨f, r, ha, q⟩ | ⟨p, ha, q⟩
    · cases hd : ts.drop i with
      | nil => rw [hd] at ha; exact ha.elim
      | cons t r1 =>
        rw [hd] at ha
        obtain ⟨ht, hd1⟩ := drop_get hd
        refine peekq rfl rs ht ?_
        rcases ha with ⟨h1, u, h2, h3⟩ | ⟨h1, h2, rfl, rfl⟩ | ⟨h1, h2, h3, rfl, rfl⟩
        · refine ⟨rfl, _, rfl, iteB_t (decide_eq_true (by rw [h1])) ?_⟩
          refine takeq rfl rs ht h1 fun H1 k1 r1' => ?_
          refine ⟨_, rfl, x, dx, _, rfl, r1'.hx, rfl, x, dx, ta, pa, ts, i + 1, rfl, r1', hl, .inl ⟨f, u :: r, by rw [hd1]; exact h2, fun H2 v j k2 r2 hj hv => ?_⟩⟩
          obtain ⟨hu, hj1⟩ := drop_get hj
          refine takeq rfl r2 hu h3 fun H3 k3 r3 => ?_
          exact ⟨_, rfl, q H3 v (j + 1) ((k1.trans k2).trans k3) r3 hj1 (fm_tq (tq_kp r2.hx k3) hv)⟩
        · refine ⟨rfl, _, rfl, iteB_f (decide_eq_false fun z => h1 (V.str.inj z)) ?_⟩
          refine peekq rfl rs ht (inC (gN.q H) ⟨_, rfl, iteB_t (decide_eq_true h2) ?_⟩)
          refine takep rfl rs ht fun H1 k1 r1' => ?_
          refine ⟨by show 1 ≤ sizeLine; decide, fun b nb => ?_⟩
          generalize hX : upd H1 b _ = H2; obtain ⟨sH2, eb⟩ := nw nb hX; clear hX
          exact q H2 (.ref b) (i + 1) (k1.trans (Same.kp sH2)) (r1'.same sH2) hd1 ⟨b, rfl, .of eb⟩
        · refine ⟨rfl, _, rfl, iteB_f (decide_eq_false fun z => h1 (V.str.inj z)) ?_⟩
          refine peekq rfl rs ht (inC (gN.q H) ⟨_, rfl, iteB_f (decide_eq_false h2) ?_⟩)
          refine takeq rfl rs ht h3 fun H1 k1 r1' => ?_
          refine ⟨by show 2 ≤ sizeLine; decide, fun b nb => ?_⟩
          generalize hX : upd H1 b _ = H2; obtain ⟨sH2, eb⟩ := nw nb hX; clear hX
          exact q H2 (.ref b) (i + 1) (k1.trans (Same.kp sH2)) (r1'.same sH2) hd1 ⟨b, rfl, .of eb⟩
    · cases hd : ts.drop i with
      | nil => rw [hd] at ha; exact ha.elim
      | cons t r1 =>
        rw [hd] at ha
        obtain ⟨ht, hd1⟩ := drop_get hd
        have hpt : t.p ≤ 1000000 := hl.2 t (List.mem_of_getElem? ht)
        refine peekq rfl rs ht ?_
        rcases ha with ⟨h1, h2⟩ | ⟨h1, h2, h3, rfl⟩
        · refine ⟨rfl, _, rfl, iteB_t (decide_eq_true (by rw [h1])) ?_⟩
          refine takeq rfl rs ht h1 fun H1 k1 r1' => ?_
          refine ⟨_, rfl, x, dx, _, rfl, r1'.hx, rfl, x, dx, ta, pa, ts, i + 1, rfl, r1', hl, ?_⟩
          rcases h2 with h2 | ⟨f, u, r, h2, h3, rfl⟩
          · exact .inr ⟨p, by rw [hd1]; exact h2, q⟩
          · refine .inl ⟨f, u :: r, by rw [hd1]; exact h2, fun H2 v j k2 r2 hj hv => ?_⟩
            obtain ⟨hu, hj1⟩ := drop_get hj
            exact takee rfl r2 hu h3 (hl.2 u (List.mem_of_getElem? hu)) q
        · refine ⟨rfl, _, rfl, iteB_f (decide_eq_false fun z => h1 (V.str.inj z)) ?_⟩
          refine peekq rfl rs ht (inC (gN.q H) ⟨_, rfl, iteB_f (decide_eq_false h2) ?_⟩)
          exact takee rfl rs ht h3 hpt q
def spUn (K : PySem.W.Frag) (C cF : Addr) (n : Nat) : Sp := fun vs H Q E => ∃ (x dx ta pa : Addr) (ts : List Tk) (i : Nat), vs = [.ref x] ∧ Rs C H x dx ta pa ts i ∧ Ps ts ∧
  ((∃ ss g r, Una (RdF n 0) (ts.drop i) ss g r ∧ ∀ (H' : Hp) (v : V) (j : Nat), Kp x H H' → Rs C H' x dx ta pa ts j → ts.drop j = r → FmAt K H' v (wrp ss g) → Q v H') ∨ (∃ p, UnE (AtE (RdF n 0) (RdE n 0)) (ts.drop i) p ∧ XP cF p E))
theorem ok_unary {n : Nat} {cF fE : Addr} {fdE : FuncData} (T : Txt K mg w P) (Z : FsE P K mg cF fE fdE) (R : Rd7 K mg C fI fP fT fA fH fF fU fO fdI fdP fdT fdA fdH fdF fdU fdO) (FF : FnOk P w K mg base (L2.CX P w) (Lv n 0) fF fdF ["self", "level"] (spRf K C cF n 0)) : FnOk P w K mg base (L2.CX P w) (Lv n 0 + 2) fU fdU ["self"] (spUn K C cF n) := by
  have PC := R.PC
  have MP := R.MP
  have bP := R.bP
  have MT := R.MT
  have bT := R.bT
  have MO := R.MO
  have bO := R.bO
  have FP : FnOk P w K mg base CX0 1 fP fdP ["self"] (spPeek C) := ok_peek R
  have hLv : 6 ≤ Lv n 0 := by unfold Lv; omega
  have FT : FnOk P w K mg base (L2.CX P w) 5 fT fdT ["self", "kind"] (spTkX C cF) := ok_take T Z R
  have FO := ok_atom T Z R FF
  refine R.gU.okX sc_Reader_read_unary (fun vs H Q E h => ?_) (fun cdv A outer s H vs Q E hr h => ?_)
  · obtain ⟨x, dx, ta, pa, ts, i, rfl, _⟩ := h
    rfl
  · obtain ⟨x, dx, ta, pa, ts, i, rfl, rs, hl, hq⟩ := h
    refine ⟨_, (pss_cons
      (ps_set (i := 1) sc_Reader_read_unary.nd rfl (Or.inl rfl) (pe_lst pa_nil))
      (C8.pss_cut
      (ps_while (passes_of rfl) (pt_cmp (pc_din (hu_of hr) (pe_meth0 (pv 0) PC.cl MP FP (hr.mono (by omega)) bP .nil pass0) (pe_fld (pv 0) rfl))) (pss_one
      (ps_expr (pe_bm PySem.F.plainAttrs_list PySem.F.slot_list_append PySem.F.type_list_append mt_append (pv 1) (pa_cons (Mx.pe_methX (pv 0) PC.cl MT FT (hr.mono (by omega)) bT (takes_of rfl rfl rfl rfl) (pa_cons (pe_meth0 (pv 0) PC.cl MP FP (hr.mono (by omega)) bP .nil pass0) pa_nil)) pa_nil)))))
      (pss_cons
      (ps_set (i := 2) sc_Reader_read_unary.nd rfl (Or.inl rfl) (Mx.pe_methX0 (pv 0) PC.cl MO FO (hr.mono (by omega)) bO (takes_of rfl rfl rfl rfl)))
      (pss_cons
      (ps_for (passes_of rfl) rfl (pi_list (pe_revLK (K := K) rfl (pv 1))) (pg_name (i := 3) sc_Reader_read_unary.nd rfl (.inl rfl)) (pss_one
      (ps_set (i := 2) sc_Reader_read_unary.nd rfl (Or.inl rfl) (pe_tup (pa_cons (pe_dget (hu_of hr) (pe_fld (pv 0) rfl) (pv 3) (fun _ _ => rfl)) (pa_cons (pv 2) pa_nil))))))
      (pss_one
      (ps_ret (pv 2))))))), ?_⟩
    rcases hq with ⟨ss, g, r, hu, q⟩ | ⟨p, hu, q⟩
    case inr =>
      refine ⟨Nat.zero_le _, fun D nD => ?_⟩
      generalize hX : upd H D _ = H1; obtain ⟨sH1, eD⟩ := nw nD hX; clear hX
      have nDx : D ≠ x := fun z => by rw [z, rs.hx] at nD; cases nD
      have nDt : D ≠ ta := fun z => by
        obtain ⟨as, q1, _⟩ := rs.ht
        rw [← z] at q1
        rw [nD] at q1
        cases q1
      have hl1 := hl.1
      refine ⟨fun σ H' => ∃ (j : Nat), σ = [some (.ref x), some (.ref D), none, none] ∧ Rs C H' x dx ta pa ts j ∧ AtE (RdF n 0) (RdE n 0) (ts.drop j) p, ?_, ?_⟩
      · refine ⟨fun m σ H' => ∃ (j : Nat) (sd : List Str), m = ts.length - j ∧ σ = [some (.ref x), some (.ref D), none, none] ∧ Rs C H' x dx ta pa ts j ∧ H' D = some (.lst (sd.map V.str)) ∧ sd.length ≤ j ∧ UnE (AtE (RdF n 0) (RdE n 0)) (ts.drop j) p,
          ⟨_, i, [], rfl, rfl, rs.same sH1, eD, Nat.zero_le _, hu⟩, ?_⟩
        rintro m σ H2 ⟨j, sd, rfl, rfl, r2, e2, l2, u2⟩
        cases hd : ts.drop j with
        | nil => rw [hd] at u2; cases u2
        | cons t rr =>
          rw [hd] at u2
          obtain ⟨ht, hd1⟩ := drop_get hd
          have hjl := lt_of_get ht
          refine peekq rfl r2 ht ?_
          refine ⟨_, rfl, x, C, dx, _, _, rfl, r2.hx, PC.cl, PC.np, rl_p _ _ _, pa, _, rfl, DGet.k (k := Sum.inr t.k) r2.hp, _, rfl, ?_⟩
          have hval : (valV (preL.map fun p => ((Sum.inr p.2 : L2.Key), V.str p.1)) (Sum.inr t.k)).isSome = isPre t.k := by
            have e := val_swp (s := t.k) (kvs := preL)
            show (valV (preL.map swp) (Sum.inr t.k)).isSome = _
            rw [e]
            unfold isPre
            cases knd preL t.k <;> rfl
          cases u2 with
          | nil h1 h2 => exact iteB_f (hval.trans h1) ⟨j, rfl, r2, by rw [hd]; exact h2⟩
          | cons h1 h3 =>
            refine iteB_t (hval.trans h1) ⟨_, fun _ _ h => h, ?_⟩
            refine ⟨_, rfl, .inl ⟨rfl, _, .of e2⟩, takep rfl r2 ht fun H3 k3 r3 => ?_⟩
            have e3 := k3 _ _ nDx e2
            refine ⟨D, _, _, rfl, rfl, e3, by rw [List.length_map]; exact Nat.lt_of_le_of_lt (show sd.length ≤ 1000 by omega) (by decide), ?_⟩
            exact ⟨ts.length - (j + 1), by omega, j + 1, sd ++ [t.c], rfl, rfl, r3.lst e3 nDt Kp.own, by rw [upd_same, List.map_append]; rfl, by rw [List.length_append, List.length_singleton]; omega, by rw [hd1]; exact h3⟩
      · rintro σ H2 ⟨j, rfl, r2, u2⟩
        exact ⟨_, rfl, x, dx, _, rfl, r2.hx, rfl, x, dx, ta, pa, ts, j, rfl, r2, hl, .inr ⟨p, u2, q⟩⟩
    have hl1 := hl.1
    have hsl : ss.length < 1000 := by
      have := una_len hu
      rw [List.length_drop] at this
      omega
    have hpre := una_ss hu
    refine ⟨Nat.zero_le _, fun D nD => ?_⟩
    generalize hX : upd H D _ = H1; obtain ⟨sH1, eD⟩ := nw nD hX; clear hX
    refine ⟨fun σ H' => ∃ (j : Nat), σ = [some (.ref x), some (.ref D), none, none] ∧ (∀ b o, b ≠ x → H b = some o → H' b = some o) ∧ Rs C H' x dx ta pa ts j ∧ H' D = some (.lst (ss.map V.str)) ∧ Una (RdF n 0) (ts.drop j) [] g r, ?_, ?_⟩
    · refine ⟨fun m σ H' => ∃ (j : Nat) (sd sr : List Str), m = sr.length ∧ ss = sd ++ sr ∧ σ = [some (.ref x), some (.ref D), none, none] ∧ (∀ b o, b ≠ x → H b = some o → H' b = some o) ∧ Rs C H' x dx ta pa ts j ∧ H' D = some (.lst (sd.map V.str)) ∧ Una (RdF n 0) (ts.drop j) sr g r,
        ⟨_, i, [], ss, rfl, rfl, rfl, fun b o _ e => sH1 _ _ e, rs.same sH1, eD, hu⟩, ?_⟩
      rintro m σ H2 ⟨j, sd, sr, rfl, hss, rfl, k2, r2, e2, u2⟩
      cases hd : ts.drop j with
      | nil => rw [hd] at u2; cases u2
      | cons t rr =>
        rw [hd] at u2
        obtain ⟨ht, hd1⟩ := drop_get hd
        refine peekq rfl r2 ht ?_
        refine ⟨_, rfl, x, C, dx, _, _, rfl, r2.hx, PC.cl, PC.np, rl_p _ _ _, pa, _, rfl, DGet.k (k := Sum.inr t.k) r2.hp, _, rfl, ?_⟩
        have hval : (valV (preL.map fun p => ((Sum.inr p.2 : L2.Key), V.str p.1)) (Sum.inr t.k)).isSome = isPre t.k := by
          have e := val_swp (s := t.k) (kvs := preL)
          show (valV (preL.map swp) (Sum.inr t.k)).isSome = _
          rw [e]
          unfold isPre
          cases knd preL t.k <;> rfl
        cases u2 with
        | nil h1 h2 =>
          refine iteB_f (hval.trans h1) ⟨j, rfl, k2, r2, ?_, by rw [hd]; exact .nil h1 h2⟩
          rw [e2, hss, List.append_nil]
        | cons h1 h2 h3 =>
          rename_i ss'
          refine iteB_t (hval.trans h1) ⟨_, fun _ _ h => h, ?_⟩
          refine ⟨_, rfl, .inl ⟨rfl, _, .of e2⟩, takep rfl r2 ht fun H3 k3 r3 => ?_⟩
          have nDx : D ≠ x := fun z => by have := r2.hx; rw [z] at e2; rw [e2] at this; cases this
          have e3 := k3 _ _ nDx e2
          have nDt : D ≠ ta := fun z => by
            obtain ⟨as, q1, _⟩ := rs.ht
            rw [← z] at q1
            rw [nD] at q1
            cases q1
          have hsd : sd.length < 1000 := by
            have := congrArg List.length hss
            rw [List.length_append] at this
            omega
          refine ⟨D, _, _, rfl, rfl, e3, by rw [List.length_map]; exact Nat.lt_of_lt_of_le hsd (by decide), ?_⟩
          refine ⟨ss'.length, Nat.lt_succ_self _, j + 1, sd ++ [t.c], ss', rfl, by rw [hss]; simp, rfl, fun b o nb e => ?_, r3.lst e3 nDt Kp.own, by rw [upd_same, List.map_append]; rfl, by rw [hd1]; exact h3⟩
          rw [upd_ne (ne_of_none e nD)]
          exact k3 _ _ nb (k2 _ _ nb e)
    · rintro σ H2 ⟨j, rfl, k2, r2, e2, u2⟩
      have u2' : Atm (RdF n 0) (ts.drop j) g r := by
        cases hd : ts.drop j with
        | nil => rw [hd] at u2; cases u2
        | cons t rr =>
          rw [hd] at u2
          cases u2 with
          | nil _ h2 => exact h2
      refine ⟨_, rfl, x, dx, _, rfl, r2.hx, rfl, x, dx, ta, pa, ts, j, rfl, r2, hl, .inl ⟨g, r, u2', fun H3 v j3 k3 r3 hj3 hv => ?_⟩⟩
      have nDx : D ≠ x := fun z => by have := r2.hx; rw [z] at e2; rw [e2] at this; cases this
      have e3 := k3 _ _ nDx e2
      refine ⟨_, rfl, D, _, rfl, .of e3, fun z nz => ?_⟩
      generalize hX : upd H3 z _ = H4; obtain ⟨sH4, ez⟩ := nw nz hX; clear hX
      refine ⟨z, rfl, ⟨_, .of ez⟩, for_list (K := K) (a := z) (xs := (ss.map V.str).reverse) (fun i σ H' => ∃ (v3 : Option V) (fv : V), σ = [some (.ref x), some (.ref D), some fv, v3] ∧ Same H4 H' ∧ FmAt K H' fv (wrp (ss.drop (ss.length - i)) g))
        ⟨none, v, rfl, Same.refl _, by rw [Nat.sub_zero, List.drop_length]; exact hv.same sH4⟩ (fun i σ H' _ ⟨_, _, _, x, _⟩ => .of (x _ _ ez)) ?_ ?_⟩
      · rintro i v' σ H5 hi ⟨v3, fv, rfl, s5, hfv⟩
        have hlt : i < ss.length := by
          have := lt_of_get hi
          rwa [List.length_reverse, List.length_map] at this
        rw [List.getElem?_reverse (by rw [List.length_map]; exact hlt), List.length_map] at hi
        obtain ⟨sg, hsg, rfl⟩ := mapg hi
        have hp := hpre sg (List.mem_of_getElem? hsg)
        have r5 := (r3.same sH4).same s5
        have dg := DGet.k (k := Sum.inr sg) r5.hp
        have hkp : knd preL sg = some (kndP sg) := by
          unfold isPre at hp
          unfold kndP
          cases e : knd preL sg with
          | none => rw [e] at hp; cases hp
          | some k => rfl
        have ev : valV (preL.map fun p => ((Sum.inr p.2 : L2.Key), V.str p.1)) (Sum.inr sg) = some (.str (kndP sg)) := by
          have e := val_swp (s := sg) (kvs := preL)
          show valV (preL.map swp) (Sum.inr sg) = _
          rw [e, hkp]
          rfl
        rw [ev] at dg
        refine ⟨_, rfl, x, C, dx, _, _, rfl, r5.hx, PC.cl, PC.np, rl_p _ _ _, _, rfl, pa, _, rfl, dg, _, rfl, by show 2 ≤ sizeLine; decide, fun b nb => ?_⟩
        generalize hX : upd H5 b _ = H6; obtain ⟨sH6, eb⟩ := nw nb hX; clear hX
        refine ⟨_, .ref b, rfl, s5.trans sH6, ?_⟩
        have ew : ss.drop (ss.length - (i + 1)) = sg :: ss.drop (ss.length - i) := by
          rw [show ss.length - (i + 1) = ss.length - 1 - i by omega, List.drop_eq_getElem_cons (lt_of_get hsg), show ss.length - 1 - i + 1 = ss.length - i by omega]
          rw [List.getElem?_eq_getElem (lt_of_get hsg)] at hsg
          rw [Option.some.inj hsg]
        rw [ew]
        exact ⟨b, fv, rfl, .of eb, hfv.same sH6⟩
      · rintro σ H5 ⟨v3, fv, rfl, s5, hfv⟩
        rw [List.length_reverse, List.length_map, Nat.sub_self] at hfv
        have k5 : Kp x H H5 := fun b o nb e => s5 _ _ (sH4 _ _ (k3 _ _ nb (k2 _ _ nb e)))
        exact ⟨_, rfl, q H5 fv j3 k5 ((r3.same sH4).same s5) hj3 hfv⟩
end
section
variable {C fI fP fT fA fH fF fU fO : Addr} {fdI fdP fdT fdA fdH fdF fdU fdO : FuncData}
theorem gloL (T : Txt K mg w P) : ∃ aL : Addr, mg "LEVELS" = some (.ref aL) ∧ ∃ bs : List Addr, bs.length = 5 ∧ (∀ H, SqT K H aL (bs.map V.ref)) ∧ ∀ l, l < 5 → ∃ b, bs[l]? = some b ∧ ∀ H, SqT K H b ((levL.getD l []).map V.str) := T.er.2.2.2.2.2.1
theorem ok_formL {n l : Nat} {cF fE : Addr} {fdE : FuncData} (hl5 : l < 5) (T : Txt K mg w P) (Z : FsE P K mg cF fE fdE) (R : Rd7 K mg C fI fP fT fA fH fF fU fO fdI fdP fdT fdA fdH fdF fdU fdO) (FF : FnOk P w K mg base (L2.CX P w) (Lv n (l + 1)) fF fdF ["self", "level"] (spRf K C cF n (l + 1))) : FnOk P w K mg base (L2.CX P w) (Lv (n + 1) l) fF fdF ["self", "level"] (spRf K C cF (n + 1) l) := by
  have PC := R.PC
  have MP := R.MP
  have bP := R.bP
  have MT := R.MT
  have bT := R.bT
  have MU := R.MU
  have bU := R.bU
  have MF := R.MF
  have bF := R.bF
  have hLv : 6 ≤ Lv n (l + 1) := by unfold Lv; omega
  have hLs : Lv (n + 1) l = Lv n (l + 1) + 1 := by unfold Lv; rw [show n + 1 + l = n + (l + 1) by omega]; omega
  rw [hLs]
  have FP : FnOk P w K mg base CX0 1 fP fdP ["self"] (spPeek C) := ok_peek R
  have FT : FnOk P w K mg base (L2.CX P w) 5 fT fdT ["self", "kind"] (spTkX C cF) := ok_take T Z R
  have FU : FnOk P w K mg base (L2.CX P w) 1 fU fdU ["self"] (fun _ _ _ _ => False) := R.gU.okX sc_Reader_read_unary (fun vs H Q E h => h.elim) (fun cdv A outer s H vs Q E hr h => h.elim)
  have C_fold : C8.Cal P w K mg base 2 "fold" (spFd K) [] := cal_fold T
  obtain ⟨aL, gLV, bs, hb5, hbs, hbl⟩ := gloL T
  refine R.gF.okX sc_Reader_read_formula (fun vs H Q E h => ?_) (fun cdv A outer s H vs Q E hr h => ?_)
  · obtain ⟨x, dx, ta, pa, ts, i, rfl, _⟩ := h
    rfl
  · obtain ⟨x, dx, ta, pa, ts, i, rfl, rs, hlen, hq⟩ := h
    refine ⟨_, (pss_cons
      (ps_if (pt_cmpR op_eq (pv 1) (pe_callB (call_lenK (K := K) rfl) (by rfl) T.z_len PySem.boot_len (pa_cons (pe_glob (v := .ref aL) (by rfl) gLV rfl) pa_nil)) (nomark _)) (pss_one
      (ps_ret (Mx.pe_methX0 (pv 0) PC.cl MU FU (hr.mono (by omega)) bU (takes_of rfl rfl rfl rfl)))) pss_nil)
      (pss_cons
      (ps_set (i := 2) sc_Reader_read_formula.nd rfl (Or.inl rfl) (pe_lst (pa_cons (Mx.pe_methX (pv 0) PC.cl MF FF (hr.mono (by omega)) bF (takes_of rfl rfl rfl rfl) (pa_cons (pe_op op_add (pv 1) pe_int) pa_nil)) pa_nil)))
      (pss_cons
      (ps_set (i := 3) sc_Reader_read_formula.nd rfl (Or.inl rfl) (pe_lst pa_nil))
      (C8.pss_cut
      (ps_while (passes_of rfl) (pt_cmpR (op_inK (K := K) rfl) (pe_meth0 (pv 0) PC.cl MP FP (hr.mono (by omega)) bP .nil pass0) (pe_ix (ix_tupK (K := K) rfl) (pe_glob (v := .ref aL) (by rfl) gLV rfl) (pv 1) (fun _ _ => rfl)) (by rfl)) (pss_cons
      (ps_expr (pe_bm PySem.F.plainAttrs_list PySem.F.slot_list_append PySem.F.type_list_append mt_append (pv 3) (pa_cons (Mx.pe_methX (pv 0) PC.cl MT FT (hr.mono (by omega)) bT (takes_of rfl rfl rfl rfl) (pa_cons (pe_meth0 (pv 0) PC.cl MP FP (hr.mono (by omega)) bP .nil pass0) pa_nil)) pa_nil)))
      (pss_one
      (ps_expr (pe_bm PySem.F.plainAttrs_list PySem.F.slot_list_append PySem.F.type_list_append mt_append (pv 2) (pa_cons (Mx.pe_methX (pv 0) PC.cl MF FF (hr.mono (by omega)) bF (takes_of rfl rfl rfl rfl) (pa_cons (pe_op op_add (pv 1) pe_int) pa_nil)) pa_nil))))))
      (pss_one
      (ps_ret (C8.pe_c C_fold hr (by omega) (by rfl) (pa_cons (pv 3) (pa_cons (pv 2) pa_nil))))))))), ?_⟩
    refine ⟨_, rfl, aL, _, rfl, .inr (hbs H), rfl, _, rfl, ?_⟩
    rw [List.length_map, hb5]
    refine iteB_f (decide_eq_false fun z => by have := V.int.inj z; omega) ?_
    have hlen1 := hlen.1
    rcases hq with ⟨f, r, hrd, q⟩ | ⟨p, hrd, q⟩
    case inr =>
      rcases hrd with ⟨z, _⟩ | ⟨_, h1 | ⟨f1, r1, h1, hch⟩⟩
      · omega
      · exact ⟨_, rfl, x, dx, _, rfl, rs.hx, rfl, _, rfl, _, _, rfl, rfl, x, dx, ta, pa, ts, i, rfl, rs, hlen, .inr ⟨p, h1, q⟩⟩
      refine ⟨_, rfl, x, dx, _, rfl, rs.hx, rfl, _, rfl, _, _, rfl, rfl, x, dx, ta, pa, ts, i, rfl, rs, hlen, .inl ⟨f1, r1, h1, fun H1 v1 j1 k1 rs1 hj1 hv1 => ?_⟩⟩
      rw [← hj1] at hch
      refine ⟨by show 1 ≤ sizeLine; decide, fun PL nPL => ?_⟩
      generalize hX : upd H1 PL _ = H2; obtain ⟨sH2, ePL⟩ := nw nPL hX; clear hX
      refine ⟨Nat.zero_le _, fun OL nOL => ?_⟩
      generalize hX : upd H2 OL _ = H3; obtain ⟨sH3, eOL⟩ := nw nOL hX; clear hX
      have nOP : OL ≠ PL := fun z => by rw [z, ePL] at nOL; cases nOL
      have rs3 := (rs1.same sH2).same sH3
      have ePL3 := sH3 _ _ ePL
      have nPx : PL ≠ x := fun z => by rw [z, rs1.hx] at nPL; cases nPL
      have nOx : OL ≠ x := fun z => by have := (rs1.same sH2).hx; rw [z, this] at nOL; cases nOL
      obtain ⟨asT, q1, q2⟩ := id rs1.ht
      have nPt : PL ≠ ta := fun z => by rw [z, q1] at nPL; cases nPL
      have nOt : OL ≠ ta := fun z => by rw [z, sH2 _ _ q1] at nOL; cases nOL
      refine ⟨fun σ H' => False, ?_, fun σ H' h => h.elim⟩
      refine ⟨fun m σ H' => ∃ (j : Nat) (us : List V) (od : List Str), m = (ts.drop j).length ∧ σ = [some (.ref x), some (.int (l : Int)), some (.ref PL), some (.ref OL)] ∧ Rs C H' x dx ta pa ts j ∧ H' PL = some (.lst us) ∧ H' OL = some (.lst (od.map V.str)) ∧ us.length + (ts.drop j).length ≤ 1001 ∧ od.length + (ts.drop j).length ≤ 1000 ∧ ChE (RdF n (l + 1)) (RdE n (l + 1)) l (ts.drop j) p,
        ⟨_, j1, [v1], [], rfl, rfl, rs3, ePL3, eOL, by rw [List.length_drop, List.length_singleton]; omega, by rw [List.length_drop, List.length_nil]; omega, hch⟩, ?_⟩
      clear hv1 ePL3 eOL rs3 hch rs1 k1 nPL nOL ePL q1 q2
      rintro m σ H4 ⟨j, us, od, rfl, rfl, r4, e4, o4, l4, m4, c4⟩
      obtain ⟨b, hb, hbq⟩ := hbl l hl5
      cases hd : ts.drop j with
      | nil => rw [hd] at c4; cases c4
      | cons t rr =>
        rw [hd, List.length_cons] at l4 m4
        rw [hd] at c4
        obtain ⟨ht, hd1⟩ := drop_get hd
        refine peekq rfl r4 ht ?_
        refine ⟨_, rfl, aL, _, _, _, rfl, rfl, hbs H4, atN hb, inq (hbq H4) ⟨_, rfl, ?_⟩⟩
        have hin : t.k ∈ levL.getD l [] := by cases c4 <;> assumption
        refine iteB_t (decide_eq_true hin) ⟨_, fun _ _ h => h, ?_⟩
        refine ⟨_, rfl, .inl ⟨rfl, _, .of o4⟩, takep rfl r4 ht fun H5 k5 r5 => ?_⟩
        have o5 := k5 _ _ nOx o4
        have e5 := k5 _ _ nPx e4
        refine ⟨OL, _, _, rfl, rfl, o5, by rw [List.length_map]; exact Nat.lt_of_le_of_lt (show od.length ≤ 1000 by omega) (by decide), ?_⟩
        have k6 : Kp OL H5 (upd H5 OL (.lst (od.map V.str ++ [.str t.c]))) := Kp.own
        have o6 : (upd H5 OL (.lst (od.map V.str ++ [.str t.c]))) OL = some (.lst ((od ++ [t.c]).map V.str)) := by rw [upd_same, List.map_append]; rfl
        generalize upd H5 OL (.lst (od.map V.str ++ [.str t.c])) = H6 at k6 o6 ⊢
        have r6 := r5.lst o5 nOt k6
        have e6 := k6 _ _ nOP.symm e5
        refine ⟨_, rfl, .inl ⟨rfl, _, .of e6⟩, _, rfl, x, dx, _, rfl, r6.hx, rfl, _, rfl, _, _, rfl, rfl, x, dx, ta, pa, ts, j + 1, rfl, r6, hlen, ?_⟩
        cases c4 with
        | here _ h2 => exact .inr ⟨p, by rw [hd1]; exact h2, q⟩
        | more hx h2 h3 =>
          rename_i r2 f'
          refine .inl ⟨f', r2, by rw [hd1]; exact h2, fun H7 v7 j7 k7 r7 hj7 hv7 => ?_⟩
          have o7 := k7 _ _ nOx o6
          have e7 := k7 _ _ nPx e6
          have hsh := rd_sh h2
          refine ⟨PL, _, _, rfl, rfl, e7, Nat.lt_of_le_of_lt (show us.length ≤ 1000 by omega) (by decide), ?_⟩
          have k8 : Kp PL H7 (upd H7 PL (.lst (us ++ [v7]))) := Kp.own
          exact ⟨(ts.drop j7).length, by rw [hj7, List.length_cons]; omega, j7, us ++ [v7], od ++ [t.c], rfl, rfl, r7.lst e7 nPt k8, upd_same, k8 _ _ nOP o7, by rw [hj7, List.length_append, List.length_singleton]; omega, by rw [hj7, List.length_append, List.length_singleton]; omega, by rw [hj7]; exact h3⟩
    rcases hrd with ⟨z, _⟩ | ⟨_, f1, r1, ops, fs, h1, hch, rfl⟩
    · omega
    refine ⟨_, rfl, x, dx, _, rfl, rs.hx, rfl, _, rfl, _, _, rfl, rfl, x, dx, ta, pa, ts, i, rfl, rs, hlen, .inl ⟨f1, r1, h1, fun H1 v1 j1 k1 rs1 hj1 hv1 => ?_⟩⟩
    have hops := chn_sh hch
    have hol := chn_len hch
    have hkn := chn_kn hl5 hch
    have hj1l : (ts.drop j1).length ≤ ts.length := by rw [List.length_drop]; omega
    rw [← hj1] at hch hops
    refine ⟨by show 1 ≤ sizeLine; decide, fun PL nPL => ?_⟩
    generalize hX : upd H1 PL _ = H2; obtain ⟨sH2, ePL⟩ := nw nPL hX; clear hX
    refine ⟨Nat.zero_le _, fun OL nOL => ?_⟩
    generalize hX : upd H2 OL _ = H3; obtain ⟨sH3, eOL⟩ := nw nOL hX; clear hX
    have nOP : OL ≠ PL := fun z => by rw [z, ePL] at nOL; cases nOL
    have rs3 := (rs1.same sH2).same sH3
    have ePL3 := sH3 _ _ ePL
    have nPx : PL ≠ x := fun z => by rw [z, rs1.hx] at nPL; cases nPL
    have nOx : OL ≠ x := fun z => by have := (rs1.same sH2).hx; rw [z, this] at nOL; cases nOL
    obtain ⟨asT, q1, q2⟩ := id rs1.ht
    have nPt : PL ≠ ta := fun z => by rw [z, q1] at nPL; cases nPL
    have nOt : OL ≠ ta := fun z => by rw [z, sH2 _ _ q1] at nOL; cases nOL
    have frP : ∀ b o, b ≠ x → H b = some o → b ≠ PL := fun b o nb e z => by
      have := k1 _ _ nb e
      rw [z, nPL] at this
      cases this
    have frO : ∀ b o, b ≠ x → H b = some o → b ≠ OL := fun b o nb e z => by
      have := sH2 _ _ (k1 _ _ nb e)
      rw [z, nOL] at this
      cases this
    have kk : ∀ b o, b ≠ x → H b = some o → H3 b = some o := fun b o nb e => sH3 _ _ (sH2 _ _ (k1 _ _ nb e))
    have hv3 : FmsAt K H3 [v1] [f1] := ⟨(hv1.same sH2).same sH3, trivial⟩
    clear k1 rs1 hv1 sH2 sH3 ePL q1 q2 nPL nOL
    refine ⟨fun σ H' => ∃ (j : Nat) (us : List V), σ = [some (.ref x), some (.int (l : Int)), some (.ref PL), some (.ref OL)] ∧ (∀ b o, b ≠ x → H b = some o → H' b = some o) ∧ Rs C H' x dx ta pa ts j ∧ H' PL = some (.lst us) ∧ H' OL = some (.lst (ops.map V.str)) ∧ FmsAt K H' us (f1 :: fs) ∧ ts.drop j = r, ?_, ?_⟩
    · refine ⟨fun m σ H' => ∃ (j : Nat) (us : List V) (od or : List Str) (gd gr : List Fm), m = or.length ∧ ops = od ++ or ∧ fs = gd ++ gr ∧ σ = [some (.ref x), some (.int (l : Int)), some (.ref PL), some (.ref OL)] ∧ (∀ b o, b ≠ x → H b = some o → H' b = some o) ∧ Rs C H' x dx ta pa ts j ∧ H' PL = some (.lst us) ∧ H' OL = some (.lst (od.map V.str)) ∧ FmsAt K H' us (f1 :: gd) ∧ Chn (RdF n (l + 1)) l (ts.drop j) or gr r,
        ⟨_, j1, [v1], [], ops, [], fs, rfl, rfl, rfl, rfl, kk, rs3, ePL3, eOL, hv3, hch⟩, ?_⟩
      clear hv3 ePL3 eOL rs3 kk hch
      rintro m σ H4 ⟨j, us, od, or, gd, gr, rfl, hod, hgd, rfl, k4, r4, e4, o4, f4, c4⟩
      obtain ⟨b, hb, hbq⟩ := hbl l hl5
      cases hd : ts.drop j with
      | nil => rw [hd] at c4; cases c4
      | cons t rr =>
        rw [hd] at c4
        obtain ⟨ht, hd1⟩ := drop_get hd
        refine peekq rfl r4 ht ?_
        refine ⟨_, rfl, aL, _, _, _, rfl, rfl, hbs H4, atN hb, inq (hbq H4) ⟨_, rfl, ?_⟩⟩
        cases c4 with
        | nil h1 =>
          refine iteB_f (decide_eq_false h1) ⟨j, us, rfl, k4, r4, e4, ?_, ?_, hd⟩
          · rw [o4, hod, List.append_nil]
          · rw [hgd, List.append_nil]
            exact f4
        | cons h1 h2 h3 h4 =>
          rename_i r2 f' or' gr'
          refine iteB_t (decide_eq_true h1) ⟨_, fun _ _ h => h, ?_⟩
          have hodl : od.length < 1000 := by
            have := congrArg List.length hod
            rw [List.length_append, List.length_cons] at this
            omega
          have hgdl : gd.length < 1000 := by
            have := congrArg List.length hgd
            rw [List.length_append, List.length_cons] at this
            omega
          refine ⟨_, rfl, .inl ⟨rfl, _, .of o4⟩, takep rfl r4 ht fun H5 k5 r5 => ?_⟩
          have o5 := k5 _ _ nOx o4
          have e5 := k5 _ _ nPx e4
          have f5 := fms_tq (tq_kp r4.hx k5) f4
          refine ⟨OL, _, _, rfl, rfl, o5, by rw [List.length_map]; exact Nat.lt_of_lt_of_le hodl (by decide), ?_⟩
          have k6 : Kp OL H5 (upd H5 OL (.lst (od.map V.str ++ [.str t.c]))) := Kp.own
          have o6 : (upd H5 OL (.lst (od.map V.str ++ [.str t.c]))) OL = some (.lst ((od ++ [t.c]).map V.str)) := by rw [upd_same, List.map_append]; rfl
          generalize upd H5 OL (.lst (od.map V.str ++ [.str t.c])) = H6 at k6 o6 ⊢
          have r6 := r5.lst o5 nOt k6
          have e6 := k6 _ _ nOP.symm e5
          have f6 := fms_tq (tq_l o5 k6) f5
          refine ⟨_, rfl, .inl ⟨rfl, _, .of e6⟩, _, rfl, x, dx, _, rfl, r6.hx, rfl, _, rfl, _, _, rfl, rfl, x, dx, ta, pa, ts, j + 1, rfl, r6, hlen, .inl ⟨f', r2, by rw [hd1]; exact h3, fun H7 v7 j7 k7 r7 hj7 hv7 => ?_⟩⟩
          have o7 := k7 _ _ nOx o6
          have e7 := k7 _ _ nPx e6
          have f7 := fms_tq (tq_kp r6.hx k7) f6
          have hul := f7.len
          rw [List.length_cons] at hul
          refine ⟨PL, _, _, rfl, rfl, e7, by rw [hul]; exact Nat.lt_of_le_of_lt (show gd.length + 1 ≤ 1000 by omega) (by decide), ?_⟩
          have k8 : Kp PL H7 (upd H7 PL (.lst (us ++ [v7]))) := Kp.own
          refine ⟨or'.length, Nat.lt_succ_self _, j7, us ++ [v7], od ++ [t.c], or', gd ++ [f'], gr', rfl, by rw [hod]; simp, by rw [hgd]; simp, rfl, fun b o nb e => ?_, r7.lst e7 nPt k8, upd_same, k8 _ _ nOP o7, ?_, by rw [hj7]; exact h4⟩
          · exact k8 _ _ (frP b o nb e) (k7 _ _ nb (k6 _ _ (frO b o nb e) (k5 _ _ nb (k4 _ _ nb e))))
          · have := (fms_tq (tq_l e7 k8) f7).app (us := [v7]) (gs := [f']) ⟨fm_tq (tq_l e7 k8) hv7, trivial⟩
            simpa using this
    · clear hv3 ePL3 eOL rs3 kk hch
      rintro σ H4 ⟨j, us, rfl, k4, r4, e4, o4, f4, hj⟩
      exact ⟨_, rfl, _, rfl, OL, PL, ops, us, f1, fs, rfl, o4, e4, f4, hol, by omega, hkn, fun H5 v s5 hv => q H5 v j (fun b o nb e => s5 _ _ (k4 _ _ nb e)) (r4.same s5) hj hv⟩
theorem ok_form5 {n : Nat} {cF fE : Addr} {fdE : FuncData} (T : Txt K mg w P) (Z : FsE P K mg cF fE fdE) (R : Rd7 K mg C fI fP fT fA fH fF fU fO fdI fdP fdT fdA fdH fdF fdU fdO) (FF : FnOk P w K mg base (L2.CX P w) (Lv n 0) fF fdF ["self", "level"] (spRf K C cF n 0)) : FnOk P w K mg base (L2.CX P w) (Lv (n + 1) 5) fF fdF ["self", "level"] (spRf K C cF (n + 1) 5) := by
  have PC := R.PC
  have MP := R.MP
  have bP := R.bP
  have MT := R.MT
  have bT := R.bT
  have MU := R.MU
  have bU := R.bU
  have MF := R.MF
  have bF := R.bF
  have hLv : 6 ≤ Lv n 0 := by unfold Lv; omega
  have hLs : Lv (n + 1) 5 = Lv n 0 + 3 := by unfold Lv; omega
  rw [hLs]
  have FP : FnOk P w K mg base CX0 1 fP fdP ["self"] (spPeek C) := ok_peek R
  have FT : FnOk P w K mg base (L2.CX P w) 5 fT fdT ["self", "kind"] (spTkX C cF) := ok_take T Z R
  have FU := ok_unary T Z R FF
  have C_fold : C8.Cal P w K mg base 2 "fold" (spFd K) [] := cal_fold T
  obtain ⟨aL, gLV, bs, hb5, hbs, hbl⟩ := gloL T
  refine R.gF.okX sc_Reader_read_formula (fun vs H Q E h => ?_) (fun cdv A outer s H vs Q E hr h => ?_)
  · obtain ⟨x, dx, ta, pa, ts, i, rfl, _⟩ := h
    rfl
  · obtain ⟨x, dx, ta, pa, ts, i, rfl, rs, hlen, hq⟩ := h
    refine ⟨_, (pss_cons
      (ps_if (pt_cmpR op_eq (pv 1) (pe_callB (call_lenK (K := K) rfl) (by rfl) T.z_len PySem.boot_len (pa_cons (pe_glob (v := .ref aL) (by rfl) gLV rfl) pa_nil)) (nomark _)) (pss_one
      (ps_ret (Mx.pe_methX0 (pv 0) PC.cl MU FU (hr.mono (by omega)) bU (takes_of rfl rfl rfl rfl)))) pss_nil)
      (pss_cons
      (ps_set (i := 2) sc_Reader_read_formula.nd rfl (Or.inl rfl) (pe_lst (pa_cons (Mx.pe_methX (pv 0) PC.cl MF FF (hr.mono (by omega)) bF (takes_of rfl rfl rfl rfl) (pa_cons (pe_op op_add (pv 1) pe_int) pa_nil)) pa_nil)))
      (pss_cons
      (ps_set (i := 3) sc_Reader_read_formula.nd rfl (Or.inl rfl) (pe_lst pa_nil))
      (C8.pss_cut
      (ps_while (passes_of rfl) (pt_cmpR (op_inK (K := K) rfl) (pe_meth0 (pv 0) PC.cl MP FP (hr.mono (by omega)) bP .nil pass0) (pe_ix (ix_tupK (K := K) rfl) (pe_glob (v := .ref aL) (by rfl) gLV rfl) (pv 1) (fun _ _ => rfl)) (by rfl)) (pss_cons
      (ps_expr (pe_bm PySem.F.plainAttrs_list PySem.F.slot_list_append PySem.F.type_list_append mt_append (pv 3) (pa_cons (Mx.pe_methX (pv 0) PC.cl MT FT (hr.mono (by omega)) bT (takes_of rfl rfl rfl rfl) (pa_cons (pe_meth0 (pv 0) PC.cl MP FP (hr.mono (by omega)) bP .nil pass0) pa_nil)) pa_nil)))
      (pss_one
      (ps_expr (pe_bm PySem.F.plainAttrs_list PySem.F.slot_list_append PySem.F.type_list_append mt_append (pv 2) (pa_cons (Mx.pe_methX (pv 0) PC.cl MF FF (hr.mono (by omega)) bF (takes_of rfl rfl rfl rfl) (pa_cons (pe_op op_add (pv 1) pe_int) pa_nil)) pa_nil))))))
      (pss_one
      (ps_ret (C8.pe_c C_fold hr (by omega) (by rfl) (pa_cons (pv 3) (pa_cons (pv 2) pa_nil))))))))), ?_⟩
    refine ⟨_, rfl, aL, _, rfl, .inr (hbs H), rfl, _, rfl, ?_⟩
    rw [List.length_map, hb5]
    refine iteB_t (by rfl) ?_
    refine ⟨_, rfl, x, dx, _, rfl, rs.hx, rfl, x, dx, ta, pa, ts, i, rfl, rs, hlen, ?_⟩
    rcases hq with ⟨f, r, ⟨_, ss, g, hu, rfl⟩ | ⟨z, _⟩, q⟩ | ⟨p, ⟨_, hu⟩ | ⟨z, _⟩, q⟩
    · exact .inl ⟨ss, g, r, hu, q⟩
    · omega
    · exact .inr ⟨p, hu, q⟩
    · omega
theorem ok_formula {cF fE : Addr} {fdE : FuncData} (T : Txt K mg w P) (Z : FsE P K mg cF fE fdE) (R : Rd7 K mg C fI fP fT fA fH fF fU fO fdI fdP fdT fdA fdH fdF fdU fdO) : ∀ n l, l ≤ 5 → FnOk P w K mg base (L2.CX P w) (Lv n l) fF fdF ["self", "level"] (spRf K C cF n l)
  | 0, l, _ => by
    rw [show Lv 0 l = 5 + 2 * ((0 + l) / 6) + 1 by unfold Lv; omega]
    refine R.gF.okX sc_Reader_read_formula (fun vs H Q E h => ?_) (fun cdv A outer s H vs Q E hr h => ?_)
    · obtain ⟨x, dx, ta, pa, ts, i, rfl, _⟩ := h
      rfl
    · exfalso
      obtain ⟨x, dx, ta, pa, ts, i, rfl, rs, hlen, ⟨f, r, h, _⟩ | ⟨p, h, _⟩⟩ := h
      · exact h.elim
      · exact h.elim
  | n + 1, l, hl => by
    by_cases c : l = 5
    · subst c
      exact ok_form5 T Z R (ok_formula T Z R n 0 (Nat.zero_le _))
    · exact ok_formL (by omega) T Z R (ok_formula T Z R n (l + 1) (by omega))
end
section
variable {C fI fP fT fA fH fF fU fO : Addr} {fdI fdP fdT fdA fdH fdF fdU fdO : FuncData}
theorem hid_len {ts r : List Tk} {hs : List Str} (h : Hid ts hs r) : hs.length ≤ ts.length := by
  induction h with
  | one _ _ => simp
  | more _ _ _ ih => rw [List.length_cons, List.length_cons, List.length_cons]; omega
theorem kc_ne : ("," : Str) ≠ ":" := by decide +kernel
def spHd (C cF : Addr) : Sp := fun vs H Q E => ∃ (x dx ta pa : Addr) (ts : List Tk) (i : Nat), vs = [.ref x] ∧ Rs C H x dx ta pa ts i ∧ Ps ts ∧
  ((∃ hs r, Hid (ts.drop i) hs r ∧ ∀ (H' : Hp) (p : Addr) (j : Nat), Kp x H H' → Rs C H' x dx ta pa ts j → ts.drop j = r → p ≠ x → H' p = some (.lst (hs.map V.str)) → Q (.ref p) H') ∨ (∃ p, HiE (ts.drop i) p ∧ XP cF p E))
theorem ok_hidden {cF fE : Addr} {fdE : FuncData} (T : Txt K mg w P) (Z : FsE P K mg cF fE fdE) (R : Rd7 K mg C fI fP fT fA fH fF fU fO fdI fdP fdT fdA fdH fdF fdU fdO) : FnOk P w K mg base (L2.CX P w) 6 fH fdH ["self"] (spHd C cF) := by
  have PC := R.PC
  have MP := R.MP
  have bP := R.bP
  have MT := R.MT
  have bT := R.bT
  have FP : FnOk P w K mg base CX0 1 fP fdP ["self"] (spPeek C) := ok_peek R
  have FT : FnOk P w K mg base (L2.CX P w) 5 fT fdT ["self", "kind"] (spTkX C cF) := ok_take T Z R
  refine R.gH.okX sc_Reader_read_hidden (fun vs H Q E h => ?_) (fun cdv A outer s H vs Q E hr h => ?_)
  · obtain ⟨x, dx, ta, pa, ts, i, rfl, _⟩ := h
    rfl
  · obtain ⟨x, dx, ta, pa, ts, i, rfl, rs, hl2, hq⟩ := h
    refine ⟨_, (pss_cons
      (ps_set (i := 1) sc_Reader_read_hidden.nd rfl (Or.inl rfl) (pe_lst (pa_cons (Mx.pe_methX (pv 0) PC.cl MT FT (hr.mono (by omega)) bT (takes_of rfl rfl rfl rfl) (pa_cons pe_str pa_nil)) pa_nil)))
      (C8.pss_cut
      (ps_while (passes_of rfl) (pt_cmpR op_eq (pe_meth0 (pv 0) PC.cl MP FP (hr.mono (by omega)) bP .nil pass0) pe_str (nomark _)) (pss_cons
      (ps_expr (Mx.pe_methX (pv 0) PC.cl MT FT (hr.mono (by omega)) bT (takes_of rfl rfl rfl rfl) (pa_cons pe_str pa_nil)))
      (pss_one
      (ps_expr (pe_bm PySem.F.plainAttrs_list PySem.F.slot_list_append PySem.F.type_list_append mt_append (pv 1) (pa_cons (Mx.pe_methX (pv 0) PC.cl MT FT (hr.mono (by omega)) bT (takes_of rfl rfl rfl rfl) (pa_cons pe_str pa_nil)) pa_nil))))))
      (pss_cons
      (ps_expr (Mx.pe_methX (pv 0) PC.cl MT FT (hr.mono (by omega)) bT (takes_of rfl rfl rfl rfl) (pa_cons pe_str pa_nil)))
      (pss_one
      (ps_ret (pv 1)))))), ?_⟩
    have hl := hl2.1
    rcases hq with ⟨hs, r, hh, q⟩ | ⟨p, hh, q⟩
    case inr =>
      have bd : ∀ {i : Nat} {t : Tk}, ts[i]? = some t → t.p ≤ 1000000 := fun h => hl2.2 _ (List.mem_of_getElem? h)
      cases hd : ts.drop i with
      | nil => rw [hd] at hh; cases hh
      | cons t tl =>
        rw [hd] at hh
        obtain ⟨ht, hd1⟩ := drop_get hd
        by_cases hn : t.k = "name"
        case neg =>
          cases hh with
          | nm h1 => exact takee rfl rs ht hn (bd ht) q
          | sep h1 _ _ => exact absurd h1 hn
          | more h1 _ _ => exact absurd h1 hn
        obtain ⟨u, rr, rfl, hor⟩ : ∃ u rr, tl = u :: rr ∧ ((u.k ≠ "," ∧ u.k ≠ ":" ∧ p = u.p) ∨ (u.k = "," ∧ HiE rr p)) := by
          cases hh with
          | nm h1 => exact absurd hn h1
          | sep h1 h2 h3 => exact ⟨_, _, rfl, .inl ⟨h2, h3, rfl⟩⟩
          | more h1 h2 h3 => exact ⟨_, _, rfl, .inr ⟨h2, h3⟩⟩
        refine takeq rfl rs ht hn fun H1 k1 r1 => ?_
        refine ⟨by show 1 ≤ sizeLine; decide, fun D nD => ?_⟩
        have nDx : D ≠ x := fun z => by rw [z, r1.hx] at nD; cases nD
        have nDt : D ≠ ta := fun z => by
          obtain ⟨as, q1, _⟩ := r1.ht
          rw [← z] at q1
          rw [nD] at q1
          cases q1
        generalize hX : upd H1 D _ = H2; obtain ⟨sH2, eD⟩ := nw nD hX; clear hX
        refine ⟨fun σ H' => ∃ (j : Nat) (u : Tk) (rr : List Tk), σ = [some (.ref x), some (.ref D)] ∧ Rs C H' x dx ta pa ts j ∧ ts.drop j = u :: rr ∧ u.k ≠ ":" ∧ p = u.p, ?_, ?_⟩
        · refine ⟨fun m σ H' => ∃ (j : Nat) (u : Tk) (rr : List Tk) (hd : List Str), m = ts.length - j ∧ ts.drop j = u :: rr ∧ ((u.k ≠ "," ∧ u.k ≠ ":" ∧ p = u.p) ∨ (u.k = "," ∧ HiE rr p)) ∧ σ = [some (.ref x), some (.ref D)] ∧ Rs C H' x dx ta pa ts j ∧ H' D = some (.lst (hd.map V.str)) ∧ hd.length ≤ j,
            ⟨_, i + 1, u, rr, [t.c], rfl, hd1, hor, rfl, r1.same sH2, eD, by simp⟩, ?_⟩
          clear hor hd1 ht hd hn hh
          rintro m σ H3 ⟨j, u, rr, hdn, rfl, hd, hor, rfl, r3, e3, l3⟩
          obtain ⟨ht, hd1⟩ := drop_get hd
          have hjl := lt_of_get ht
          refine peekq rfl r3 ht ⟨rfl, _, rfl, ?_⟩
          rcases hor with ⟨h1, h2, h3⟩ | ⟨hu, hid⟩
          · exact iteB_f (decide_eq_false fun z => h1 (V.str.inj z)) ⟨j, u, rr, rfl, r3, hd, h2, h3⟩
          · refine iteB_t (decide_eq_true (by rw [hu])) ⟨_, fun _ _ h => h, ?_⟩
            refine takeq rfl r3 ht hu fun H4 k4 r4 => ?_
            have e4 := k4 _ _ nDx e3
            refine ⟨_, rfl, .inl ⟨rfl, _, .of e4⟩, ?_⟩
            cases rr with
            | nil => cases hid
            | cons t' tl' =>
              obtain ⟨ht', hd2⟩ := drop_get hd1
              by_cases hn : t'.k = "name"
              case neg =>
                cases hid with
                | nm h1 => exact takee rfl r4 ht' hn (bd ht') q
                | sep h1 _ _ => exact absurd h1 hn
                | more h1 _ _ => exact absurd h1 hn
              obtain ⟨u', rr', rfl, hor'⟩ : ∃ u rr, tl' = u :: rr ∧ ((u.k ≠ "," ∧ u.k ≠ ":" ∧ p = u.p) ∨ (u.k = "," ∧ HiE rr p)) := by
                cases hid with
                | nm h1 => exact absurd hn h1
                | sep h1 h2 h3 => exact ⟨_, _, rfl, .inl ⟨h2, h3, rfl⟩⟩
                | more h1 h2 h3 => exact ⟨_, _, rfl, .inr ⟨h2, h3⟩⟩
              refine takeq rfl r4 ht' hn fun H5 k5 r5 => ?_
              have e5 := k5 _ _ nDx e4
              refine ⟨D, _, _, rfl, rfl, e5, by rw [List.length_map]; exact Nat.lt_of_le_of_lt (show hdn.length ≤ 1000 by omega) (by decide), ?_⟩
              exact ⟨ts.length - (j + 1 + 1), by omega, j + 1 + 1, u', rr', hdn ++ [t'.c], rfl, hd2, hor', rfl, r5.lst e5 nDt Kp.own, by rw [upd_same, List.map_append]; rfl, by rw [List.length_append, List.length_singleton]; omega⟩
        · rintro σ H3 ⟨j, u, rr, rfl, r3, hd, h2, rfl⟩
          obtain ⟨ht, hd1⟩ := drop_get hd
          exact takee rfl r3 ht h2 (bd ht) q
    have hlen : hs.length ≤ 1000 := by
      have := hid_len hh
      rw [List.length_drop] at this
      omega
    obtain ⟨t, u, rr, hr, hd, hn, hs1, hor⟩ : ∃ (t u : Tk) (rr : List Tk) (hr : List Str), ts.drop i = t :: u :: rr ∧ t.k = "name" ∧ hs = [t.c] ++ hr ∧ ((hr = [] ∧ u.k = ":" ∧ rr = r) ∨ (u.k = "," ∧ Hid rr hr r)) := by
      cases e : ts.drop i with
      | nil => rw [e] at hh; cases hh
      | cons t tl =>
        rw [e] at hh
        cases hh with
        | one h1 h2 => exact ⟨t, _, _, [], rfl, h1, rfl, .inl ⟨rfl, h2, rfl⟩⟩
        | more h1 h2 h3 => exact ⟨t, _, _, _, rfl, h1, rfl, .inr ⟨h2, h3⟩⟩
    obtain ⟨ht, hd1⟩ := drop_get hd
    refine takeq rfl rs ht hn fun H1 k1 r1 => ?_
    refine ⟨by show 1 ≤ sizeLine; decide, fun D nD => ?_⟩
    have nDx : D ≠ x := fun z => by rw [z, r1.hx] at nD; cases nD
    have frD : ∀ b o, b ≠ x → H b = some o → b ≠ D := fun b o nb e z => by
      have := k1 _ _ nb e
      rw [z, nD] at this
      cases this
    have nDt : D ≠ ta := fun z => by
      obtain ⟨as, q1, _⟩ := r1.ht
      rw [← z] at q1
      rw [nD] at q1
      cases q1
    generalize hX : upd H1 D _ = H2; obtain ⟨sH2, eD⟩ := nw nD hX; clear hX
    refine ⟨fun σ H' => ∃ (j : Nat) (u : Tk), σ = [some (.ref x), some (.ref D)] ∧ (∀ b o, b ≠ x → H b = some o → H' b = some o) ∧ Rs C H' x dx ta pa ts j ∧ H' D = some (.lst (hs.map V.str)) ∧ ts.drop j = u :: r ∧ u.k = ":", ?_, ?_⟩
    · refine ⟨fun m σ H' => ∃ (j : Nat) (u : Tk) (rr : List Tk) (hd hr : List Str), m = hr.length ∧ ts.drop j = u :: rr ∧ hs = hd ++ hr ∧ ((hr = [] ∧ u.k = ":" ∧ rr = r) ∨ (u.k = "," ∧ Hid rr hr r)) ∧ σ = [some (.ref x), some (.ref D)] ∧ (∀ b o, b ≠ x → H b = some o → H' b = some o) ∧ Rs C H' x dx ta pa ts j ∧ H' D = some (.lst (hd.map V.str)),
        ⟨_, i + 1, u, rr, [t.c], hr, rfl, hd1, hs1, hor, rfl, fun b o nb e => sH2 _ _ (k1 _ _ nb e), r1.same sH2, eD⟩, ?_⟩
      clear hor hd1 ht hd hs1 hn
      rintro m σ H3 ⟨j, u, rr, hdn, hr, rfl, hd, hs1, hor, rfl, k3, r3, e3⟩
      obtain ⟨ht, hd1⟩ := drop_get hd
      refine peekq rfl r3 ht ⟨rfl, _, rfl, ?_⟩
      rcases hor with ⟨rfl, hu, rfl⟩ | ⟨hu, hid⟩
      · refine iteB_f (decide_eq_false fun z => kc_ne ((V.str.inj z).symm.trans hu)) ⟨j, u, rfl, k3, r3, ?_, hd, hu⟩
        rw [e3, hs1, List.append_nil]
      · refine iteB_t (decide_eq_true (by rw [hu])) ⟨_, fun _ _ h => h, ?_⟩
        refine takeq rfl r3 ht hu fun H4 k4 r4 => ?_
        have e4 := k4 _ _ nDx e3
        obtain ⟨t', u', rr', hr', hd', hn', hs', hor'⟩ : ∃ (t u : Tk) (r2 : List Tk) (h2 : List Str), rr = t :: u :: r2 ∧ t.k = "name" ∧ hr = [t.c] ++ h2 ∧ ((h2 = [] ∧ u.k = ":" ∧ r2 = r) ∨ (u.k = "," ∧ Hid r2 h2 r)) := by
          cases hid with
          | one h1 h2 => exact ⟨_, _, _, [], rfl, h1, rfl, .inl ⟨rfl, h2, rfl⟩⟩
          | more h1 h2 h3 => exact ⟨_, _, _, _, rfl, h1, rfl, .inr ⟨h2, h3⟩⟩
        rw [hd'] at hd1
        obtain ⟨ht', hd2⟩ := drop_get hd1
        refine ⟨_, rfl, .inl ⟨rfl, _, .of e4⟩, takeq rfl r4 ht' hn' fun H5 k5 r5 => ?_⟩
        have e5 := k5 _ _ nDx e4
        have hdl : hdn.length < 1000 := by
          have := congrArg List.length hs1
          rw [hs', List.length_append, List.length_append, List.length_singleton] at this
          omega
        refine ⟨D, _, _, rfl, rfl, e5, by rw [List.length_map]; exact Nat.lt_of_lt_of_le hdl (by decide), ?_⟩
        refine ⟨hr'.length, by rw [hs', List.length_append, List.length_singleton]; omega, j + 1 + 1, u', rr', hdn ++ [t'.c], hr', rfl, hd2, by rw [hs1, hs']; simp, hor', rfl, fun b o nb e => ?_, r5.lst e5 nDt Kp.own, by rw [upd_same, List.map_append]; rfl⟩
        rw [upd_ne (frD b o nb e)]
        exact k5 _ _ nb (k4 _ _ nb (k3 _ _ nb e))
    · rintro σ H3 ⟨j, u, rfl, k3, r3, e3, hd, hu⟩
      obtain ⟨ht, hd1⟩ := drop_get hd
      refine takeq rfl r3 ht hu fun H4 k4 r4 => ?_
      exact ⟨_, rfl, q H4 D (j + 1) (fun b o nb e => k4 _ _ nb (k3 _ _ nb e)) r4 hd1 nDx (k4 _ _ nDx e3)⟩
def spRa (K : PySem.W.Frag) (C cF : Addr) (n : Nat) : Sp := fun vs H Q E => ∃ (x dx ta pa : Addr) (ts : List Tk), vs = [.ref x] ∧ Rs C H x dx ta pa ts 0 ∧ Ps ts ∧
  ((∃ qu hs f, Rda n ts qu hs f ∧ ∀ (H' : Hp) (p hp : Addr) (v : V), Kp x H H' → H' p = some (.tup [.str qu, .ref hp, v]) → H' hp = some (.lst (hs.map V.str)) → FmAt K H' v f → Q (.ref p) H') ∨ (∃ p, RaE n ts p ∧ XP cF p E))
theorem ok_all {n : Nat} {cF fE : Addr} {fdE : FuncData} (T : Txt K mg w P) (Z : FsE P K mg cF fE fdE) (R : Rd7 K mg C fI fP fT fA fH fF fU fO fdI fdP fdT fdA fdH fdF fdU fdO) : FnOk P w K mg base (L2.CX P w) (Lv n 0 + 1) fA fdA ["self"] (spRa K C cF n) := by
  have PC := R.PC
  have MP := R.MP
  have bP := R.bP
  have MT := R.MT
  have bT := R.bT
  have MH := R.MH
  have bH := R.bH
  have MF := R.MF
  have bF := R.bF
  have hLv : 6 ≤ Lv n 0 := by unfold Lv; omega
  have FP : FnOk P w K mg base CX0 1 fP fdP ["self"] (spPeek C) := ok_peek R
  have FT : FnOk P w K mg base (L2.CX P w) 5 fT fdT ["self", "kind"] (spTkX C cF) := ok_take T Z R
  have FH : FnOk P w K mg base (L2.CX P w) 6 fH fdH ["self"] (spHd C cF) := ok_hidden T Z R
  have FF := ok_formula (P := P) (w := w) (base := base) T Z R n 0 (Nat.zero_le _)
  obtain ⟨aQ, aN, gQ, gN⟩ := gloQ T
  refine R.gA.okX sc_Reader_read_all (fun vs H Q E h => ?_) (fun cdv A outer s H vs Q E hr h => ?_)
  · obtain ⟨x, dx, ta, pa, ts, rfl, _⟩ := h
    rfl
  · obtain ⟨x, dx, ta, pa, ts, rfl, rs, hl, hq⟩ := h
    refine ⟨_, (pss_cons
      (ps_set (i := 1) sc_Reader_read_all.nd rfl (Or.inl rfl) pe_str)
      (pss_cons
      (ps_set (i := 2) sc_Reader_read_all.nd rfl (Or.inl rfl) (pe_lst pa_nil))
      (C8.pss_cut
      (ps_if (pt_cmpR (op_inK (K := K) rfl) (pe_meth0 (pv 0) PC.cl MP FP (hr.mono (by omega)) bP .nil pass0) (pe_glob (v := .ref aQ) (by rfl) gQ.g rfl) (by rfl)) (pss_cons
      (ps_set (i := 1) sc_Reader_read_all.nd rfl (Or.inl rfl) (Mx.pe_methX (pv 0) PC.cl MT FT (hr.mono (by omega)) bT (takes_of rfl rfl rfl rfl) (pa_cons (pe_meth0 (pv 0) PC.cl MP FP (hr.mono (by omega)) bP .nil pass0) pa_nil)))
      (pss_one
      (ps_set (i := 2) sc_Reader_read_all.nd rfl (Or.inl rfl) (Mx.pe_methX0 (pv 0) PC.cl MH FH (hr.mono (by omega)) bH (takes_of rfl rfl rfl rfl))))) pss_nil)
      (pss_cons
      (ps_set (i := 3) sc_Reader_read_all.nd rfl (Or.inl rfl) (Mx.pe_methX (pv 0) PC.cl MF FF (hr.mono (by omega)) bF (takes_of rfl rfl rfl rfl) (pa_cons pe_int pa_nil)))
      (pss_cons
      (ps_expr (Mx.pe_methX (pv 0) PC.cl MT FT (hr.mono (by omega)) bT (takes_of rfl rfl rfl rfl) (pa_cons pe_str pa_nil)))
      (pss_one
      (ps_ret (pe_tup (pa_cons (pv 1) (pa_cons (pv 2) (pa_cons (pv 3) pa_nil))))))))))), ?_⟩
    rcases hq with ⟨qu, hs, f, hrd, q⟩ | ⟨p, hrd, q⟩
    case inr =>
      obtain ⟨t, r, ets, hor⟩ := hrd
      have hd : ts.drop 0 = t :: r := ets
      obtain ⟨ht, hd1⟩ := drop_get hd
      refine ⟨Nat.zero_le _, fun D nD => ?_⟩
      generalize hX : upd H D _ = H1; obtain ⟨sH1, eD⟩ := nw nD hX; clear hX
      have r1 := rs.same sH1
      refine ⟨fun σ H' => ∃ (hp : Addr) (j : Nat) (qv : V), σ = [some (.ref x), some qv, some (.ref hp), none] ∧ Rs C H' x dx ta pa ts j ∧ RlE n (ts.drop j) p, ?_, ?_⟩
      · refine peekq rfl r1 ht (inC (gQ.q H1) ⟨_, rfl, ?_⟩)
        rcases hor with ⟨h1, h2⟩ | ⟨h1, h2⟩
        · exact iteB_f (decide_eq_false h1) ⟨D, 0, _, rfl, r1, h2⟩
        · refine iteB_t (decide_eq_true h1) (takep rfl r1 ht fun H2 k2 rs2 => ?_)
          refine ⟨_, rfl, x, dx, _, rfl, rs2.hx, rfl, x, dx, ta, pa, ts, 1, rfl, rs2, hl, ?_⟩
          rcases h2 with h2 | ⟨hs, r3, h2, h3⟩
          · exact .inr ⟨p, by rw [hd1]; exact h2, q⟩
          · exact .inl ⟨hs, r3, by rw [hd1]; exact h2, fun H3 p' j k3 rs3 hj np ep => ⟨p', j, _, rfl, rs3, by rw [hj]; exact h3⟩⟩
      · rintro σ H2 ⟨hp, j, qv, rfl, rs2, h2⟩
        refine ⟨_, rfl, x, dx, _, rfl, rs2.hx, rfl, x, dx, ta, pa, ts, j, rfl, rs2, hl, ?_⟩
        rcases h2 with h2 | ⟨f, u, r2, h2, h3, rfl⟩
        · exact .inr ⟨p, h2, q⟩
        · refine .inl ⟨f, u :: r2, h2, fun H3 v j3 k3 rs3 hj3 hv => ?_⟩
          obtain ⟨ht3, hd3⟩ := drop_get hj3
          exact takee rfl rs3 ht3 h3 (hl.2 u (List.mem_of_getElem? ht3)) q
    obtain ⟨t, u, r, ets, hu, hor⟩ := hrd
    have hd : ts.drop 0 = t :: r := ets
    obtain ⟨ht, hd1⟩ := drop_get hd
    refine ⟨Nat.zero_le _, fun D nD => ?_⟩
    generalize hX : upd H D _ = H1; obtain ⟨sH1, eD⟩ := nw nD hX; clear hX
    have r1 := rs.same sH1
    have nDx : D ≠ x := fun z => by rw [z, rs.hx] at nD; cases nD
    refine ⟨fun σ H' => ∃ (hp : Addr) (j : Nat) (r2 : List Tk), σ = [some (.ref x), some (.str qu), some (.ref hp), none] ∧ Kp x H H' ∧ Rs C H' x dx ta pa ts j ∧ hp ≠ x ∧ H' hp = some (.lst (hs.map V.str)) ∧ RdF n 0 (ts.drop j) f (u :: r2), ?_, ?_⟩
    · refine peekq rfl r1 ht (inC (gQ.q H1) ⟨_, rfl, ?_⟩)
      rcases hor with ⟨h1, rfl, rfl, r2, h2⟩ | ⟨h1, rfl, r3, r2, h2, h3⟩
      · exact iteB_f (decide_eq_false h1) ⟨D, 0, r2, rfl, Same.kp sH1, r1, nDx, eD, h2⟩
      · refine iteB_t (decide_eq_true h1) (takep rfl r1 ht fun H2 k2 rs2 => ?_)
        refine ⟨_, rfl, x, dx, _, rfl, rs2.hx, rfl, x, dx, ta, pa, ts, 1, rfl, rs2, hl, .inl ⟨hs, r3, by rw [hd1]; exact h2, fun H3 p j k3 rs3 hj np ep => ?_⟩⟩
        exact ⟨p, j, r2, rfl, (Same.kp sH1).trans (k2.trans k3), rs3, np, ep, by rw [hj]; exact h3⟩
    · rintro σ H2 ⟨hp, j, r2, rfl, k2, rs2, np, ep, h2⟩
      refine ⟨_, rfl, x, dx, _, rfl, rs2.hx, rfl, x, dx, ta, pa, ts, j, rfl, rs2, hl, .inl ⟨f, u :: r2, h2, fun H3 v j3 k3 rs3 hj3 hv => ?_⟩⟩
      obtain ⟨ht3, hd3⟩ := drop_get hj3
      refine takeq rfl rs3 ht3 hu fun H4 k4 rs4 => ?_
      have ep4 := k4 _ _ np (k3 _ _ np ep)
      have hv4 := fm_tq (tq_kp rs3.hx k4) hv
      refine ⟨_, rfl, _, rfl, _, rfl, by show 3 ≤ sizeLine; decide, fun b nb => ?_⟩
      generalize hX : upd H4 b _ = H5; obtain ⟨sH5, eb⟩ := nw nb hX; clear hX
      exact q H5 b hp v (((k2.trans k3).trans k4).trans (Same.kp sH5)) eb (sH5 _ _ ep4) (hv4.same sH5)
end
theorem cal_opers (T : Txt K mg w P) : C8.Cal P w K mg base 1 "operands" (spOpers K) [] := by
  obtain ⟨f, fd, F, hm, hb⟩ := T.h_operands
  refine ⟨f, fd, _, [], F.ok sc_operands (fun vs H Q E h => ?_) (fun cdv A outer s H vs Q E hr h => ?_), hm, F.kp, hb, .nil⟩
  · obtain ⟨v, f, nm, rfl, _⟩ := h
    rfl
  · obtain ⟨v, f, nm, rfl, hf, hw, q⟩ := h
    refine ⟨_, (pss_cons
      (ps_if (pt_cmpR op_eq (pe_ix (ix_tupK (K := K) rfl) (pv 0) pe_int (fun _ _ => rfl)) pe_str (nomark _)) (pss_one
      (ps_ret (pe_tup pa_nil))) pss_nil)
      (pss_one
      (ps_ret (pe_slice (sl_tupK (K := K) rfl) (pv 0) (po_some pe_int) po_none)))), ?_⟩
    have nz : ∀ {k : Str}, k ≠ sSig → (decide (V.str k = V.str "signal")) = false := fun hk => decide_eq_false fun z => hk (V.str.inj z)
    cases f with
    | sg s =>
      obtain ⟨a, rfl, ha⟩ := hf
      refine ⟨_, rfl, a, _, _, _, rfl, rfl, ha, rfl, rfl, _, rfl, iteT ?_⟩
      exact ⟨by show 0 ≤ sizeLine; decide, fun p hp => q _ p [] (same_new hp) upd_same trivial⟩
    | c0 k =>
      obtain ⟨a, rfl, ha⟩ := hf
      refine ⟨_, rfl, a, _, _, _, rfl, rfl, ha, rfl, rfl, _, rfl, ?_⟩
      rw [nz hw]
      refine iteF ?_
      refine ⟨_, rfl, _, rfl, a, _, rfl, ha, (fun z => absurd z.1 (by show ¬ HT.sIx 1 0 (some 1) = 0; decide)), fun _ p hp => q _ p [] (same_new hp) upd_same trivial⟩
    | un k f =>
      obtain ⟨a, x, rfl, ha, hx⟩ := hf
      refine ⟨_, rfl, a, _, _, _, rfl, rfl, ha, rfl, rfl, _, rfl, ?_⟩
      rw [nz hw.1]
      refine iteF ?_
      refine ⟨_, rfl, _, rfl, a, _, rfl, ha, (fun z => absurd z.1 (by show ¬ HT.sIx 2 0 (some 1) = 0; decide)), fun _ p hp => q _ p [x] (same_new hp) upd_same ⟨hx.same (same_new hp), trivial⟩⟩
    | bin k f g =>
      obtain ⟨a, x, y, rfl, ha, hx, hy⟩ := hf
      refine ⟨_, rfl, a, _, _, _, rfl, rfl, ha, rfl, rfl, _, rfl, ?_⟩
      rw [nz hw.1]
      refine iteF ?_
      refine ⟨_, rfl, _, rfl, a, _, rfl, ha, (fun z => absurd z.1 (by show ¬ HT.sIx 3 0 (some 1) = 0; decide)), fun _ p hp => q _ p [x, y] (same_new hp) upd_same ⟨hx.same (same_new hp), hy.same (same_new hp), trivial⟩⟩
theorem flat_ge (gs : List Fm) : gs.length ≤ (gs.reverse.map pre).flatten.length := by
  induction gs with
  | nil => exact Nat.zero_le _
  | cons a l ih =>
    have : 0 < (pre a).length := by rw [pre_len]; exact sz_pos a
    rw [List.reverse_cons, List.map_append, List.flatten_append, List.length_append]
    simp
    simp at ih
    omega
theorem unsnoc {K : PySem.W.Frag} {H : Hp} {ws : List V} {x : V} {gs : List Fm} {g : Fm} (h : FmsAt K H (ws ++ [x]) (gs ++ [g])) : FmsAt K H ws gs ∧ FmAt K H x g := by
  have r := h.rev
  rw [List.reverse_append, List.reverse_append] at r
  have r2 : FmsAt K H ws.reverse gs.reverse := r.2
  have r3 := r2.rev
  rw [List.reverse_reverse, List.reverse_reverse] at r3
  exact ⟨r3, r.1⟩
theorem wf_kids {nm : List Str} {g z : Fm} (h : Wf nm g) (m : z ∈ kids g) : Wf nm z := by
  cases g with
  | c0 k => cases m
  | sg s => cases m
  | un k f => rw [List.mem_singleton.mp m]; exact h.2
  | bin k f g =>
    rcases List.mem_cons.mp m with e | e
    · rw [e]; exact h.2.1
    · rw [List.mem_singleton.mp e]; exact h.2.2
theorem revs {K : PySem.W.Frag} {H : Hp} {xs : List V} {g : Fm} (h : FmsAt K H xs (kids g)) : pk3 xs none none (-1) = xs.reverse ∧ xs.length ≤ 2 := by
  have e := h.len
  match xs, e with
  | [], _ => exact ⟨rev0, by decide⟩
  | [x], _ => exact ⟨rev1 x, Nat.le_succ 1⟩
  | [x, y], _ => exact ⟨rev2 x y, Nat.le_refl 2⟩
  | _ :: _ :: _ :: _, e => cases g <;> simp [kids] at e
theorem cal_subs (T : Txt K mg w P) : C8.Cal P w K mg base 2 "subformulas" (spSubs K) [] := by
  have C_operands : C8.Cal P w K mg base 1 "operands" (spOpers K) [] := cal_opers T
  obtain ⟨f, fd, F, hm, hb⟩ := T.h_subformulas
  refine ⟨f, fd, _, [], F.ok sc_subformulas (fun vs H Q E h => ?_) (fun cdv A outer s H vs Q E hr h => ?_), hm, F.kp, hb, .nil⟩
  · obtain ⟨v, f, nm, rfl, _⟩ := h
    rfl
  · obtain ⟨v, f, nm, rfl, hf, hw, hz, q⟩ := h
    refine ⟨_, (pss_cons
      (ps_set (i := 1) sc_subformulas.nd rfl (Or.inl rfl) (pe_lst pa_nil))
      (pss_cons
      (ps_set (i := 2) sc_subformulas.nd rfl (Or.inl rfl) (pe_lst (pa_cons (pv 0) pa_nil)))
      (C8.pss_cut
      (ps_while PassesOwn.never (pt_cmpR op_gt (pe_callB (call_lenK (K := K) rfl) (by rfl) T.z_len PySem.boot_len (pa_cons (pv 2) pa_nil)) pe_int (nomark _)) (pss_cons
      (ps_set (i := 3) sc_subformulas.nd rfl (Or.inl rfl) (pe_bm0 PySem.F.plainAttrs_list PySem.F.slot_list_pop PySem.F.type_list_pop mt_pop (pv 2)))
      (pss_cons
      (ps_expr (pe_bm PySem.F.plainAttrs_list PySem.F.slot_list_append PySem.F.type_list_append mt_append (pv 1) (pa_cons (pv 3) pa_nil)))
      (pss_one
      (ps_expr (pe_bm PySem.F.plainAttrs_list PySem.F.slot_list_extend PySem.F.type_list_extend (mt_extT (K := K) rfl) (pv 2) (pa_cons (pe_sl3 (K := K) rfl (C8.pe_c C_operands hr (by decide) (by rfl) (pa_cons (pv 3) pa_nil)) po_none po_none (po_some (pe_un un_neg pe_int))) pa_nil)))))))
      (pss_one
      (ps_ret (pv 1)))))), ?_⟩
    refine ⟨by show 0 ≤ sizeLine; decide, fun o ho => ?_⟩
    refine ⟨_, rfl, by show 1 ≤ sizeLine; decide, fun wt hwt => ?_⟩
    have hwo : wt ≠ o := fun z => by rw [z, upd_same] at hwt; cases hwt
    have hwt0 : H wt = none := by rwa [upd_ne hwo] at hwt
    have s0 : Same H (upd (upd H o (.lst [])) wt (.lst [v])) := (same_new ho).trans (same_new hwt)
    refine ⟨fun σ H2 => ∃ (fs : List V) (v3 : Option V), σ = [some v, some (.ref o), some (.ref wt), v3] ∧ Same H H2 ∧ H2 o = some (.lst fs) ∧ FmsAt K H2 fs (pre f), ?_, ?_⟩
    · refine ⟨fun m σ H2 => ∃ (fs ws : List V) (ds gs : List Fm) (v3 : Option V), m = sz f - ds.length ∧ σ = [some v, some (.ref o), some (.ref wt), v3] ∧ Same H H2 ∧ H2 o = some (.lst fs) ∧ H2 wt = some (.lst ws) ∧ FmsAt K H2 fs ds ∧ FmsAt K H2 ws gs ∧
          ds ++ (gs.reverse.map pre).flatten = pre f ∧ ∀ g ∈ gs, Wf nm g,
        ⟨_, [], [v], [], [f], none, rfl, rfl, s0, by rw [upd_ne hwo.symm, upd_same], upd_same, trivial, ⟨hf.same s0, trivial⟩, by simp, fun g hg => by rw [List.mem_singleton.mp hg]; exact hw⟩, ?_⟩
      rintro m σ H2 ⟨fs, ws, ds, gs, v3, rfl, rfl, s2, h2o, h2w, hfs, hws, heq, hwf⟩
      have hlen := congrArg List.length heq
      rw [List.length_append, pre_len] at hlen
      refine ⟨_, rfl, wt, _, rfl, .inl (.of h2w), _, _, rfl, rfl, _, rfl, ?_⟩
      refine ite_lt (fun c => ?_) (fun c => ?_)
      · have hne : ws ≠ [] := fun z => by rw [z] at c; exact absurd c (by decide)
        obtain ⟨ws0, x, rfl⟩ : ∃ ws0 x, ws = ws0 ++ [x] := ⟨ws.dropLast, ws.getLast hne, (List.dropLast_concat_getLast hne).symm⟩
        have hgl := hws.len
        have hgne : gs ≠ [] := fun z => by rw [z] at hgl; simp at hgl
        obtain ⟨gs0, g, rfl⟩ : ∃ gs0 g, gs = gs0 ++ [g] := ⟨gs.dropLast, gs.getLast hgne, (List.dropLast_concat_getLast hgne).symm⟩
        obtain ⟨hws0, hx⟩ := unsnoc hws
        have hwg : Wf nm g := hwf g (by simp)
        have hsz : ds.length < sz f := by
          have : 0 < (pre g).length := by rw [pre_len]; exact sz_pos g
          rw [List.reverse_append, List.reverse_singleton, List.map_append, List.flatten_append, List.length_append] at hlen
          simp at hlen
          omega
        refine ⟨_, fun _ _ h => h, ?_⟩
        refine ⟨_, rfl, .inl ⟨rfl, _, .of h2w⟩, wt, _, x, rfl, rfl, h2w, by simp, ?_⟩
        have e3 : (upd H2 wt (.lst (ws0 ++ [x]).dropLast)) o = some (.lst fs) := by rw [upd_ne hwo.symm]; exact h2o
        have fl := hfs.len
        refine ⟨_, rfl, .inl ⟨rfl, _, .of e3⟩, _, rfl, o, fs, x, rfl, rfl, e3, Nat.lt_of_le_of_lt (show fs.length ≤ 1000 by omega) (by decide), ?_⟩
        have k4 : Kp wt H2 (upd H2 wt (.lst (ws0 ++ [x]).dropLast)) := Kp.own
        have k5 : Kp o (upd H2 wt (.lst (ws0 ++ [x]).dropLast)) (upd (upd H2 wt (.lst (ws0 ++ [x]).dropLast)) o (.lst (fs ++ [x]))) := Kp.own
        have e4 : (upd (upd H2 wt (.lst (ws0 ++ [x]).dropLast)) o (.lst (fs ++ [x]))) wt = some (.lst (ws0 ++ [x]).dropLast) := by rw [upd_ne hwo, upd_same]
        have e5 : (upd (upd H2 wt (.lst (ws0 ++ [x]).dropLast)) o (.lst (fs ++ [x]))) o = some (.lst (fs ++ [x])) := upd_same
        have x4 := (hx.kp h2w k4).kp e3 k5
        have f4 := (hfs.kp h2w k4).kp e3 k5
        have w4 := (hws0.kp h2w k4).kp e3 k5
        have s4 : Same H (upd (upd H2 wt (.lst (ws0 ++ [x]).dropLast)) o (.lst (fs ++ [x]))) := fun b u hb => by
          rw [upd_ne (ne_of_none hb ho), upd_ne (ne_of_none hb hwt0)]
          exact s2 b u hb
        generalize upd (upd H2 wt (.lst (ws0 ++ [x]).dropLast)) o (.lst (fs ++ [x])) = H4 at e4 e5 x4 f4 w4 s4 ⊢
        rw [List.dropLast_concat] at e4
        refine ⟨_, rfl, .inl ⟨rfl, _, .of e4⟩, _, rfl, x, g, nm, rfl, x4, hwg, fun H5 p xs s5 hp hk => ?_⟩
        obtain ⟨r1, r2⟩ := revs hk
        refine ⟨_, rfl, _, rfl, p, xs, -1, rfl, rfl, .of hp, by decide, by decide, by rw [r1, List.length_reverse]; exact Nat.le_trans r2 (by decide), fun p2 hp2 => ?_⟩
        rw [r1]
        have s6 : Same H4 (upd H5 p2 (.tup xs.reverse)) := s5.trans (same_new hp2)
        have e6 := s6 _ _ e4
        have wl := hws0.len
        refine ⟨wt, p2, ws0, xs.reverse, rfl, rfl, e6, .of upd_same, Nat.le_trans (show ws0.length + xs.reverse.length ≤ 1002 from ?_) (by decide), ?_⟩
        · rw [List.length_reverse, wl]
          have hg0 := flat_ge gs0
          rw [List.reverse_append, List.reverse_singleton, List.map_append, List.flatten_append, List.length_append] at hlen
          simp at hlen hg0
          omega
        · have k7 : Kp wt (upd H5 p2 (.tup xs.reverse)) (upd (upd H5 p2 (.tup xs.reverse)) wt (.lst (ws0 ++ xs.reverse))) := Kp.own
          refine ⟨sz f - (ds ++ [g]).length, ?_, fs ++ [x], ws0 ++ xs.reverse, ds ++ [g], gs0 ++ (kids g).reverse, _, rfl, rfl, fun b u hb => ?_, ?_, upd_same, ?_, ?_, ?_, ?_⟩
          · rw [List.length_append]
            simp
            omega
          · rw [upd_ne (ne_of_none hb hwt0)]
            exact s6 b u (s4 b u hb)
          · rw [upd_ne hwo.symm]
            exact s6 _ _ e5
          · exact ((f4.app (us := [x]) (gs := [g]) ⟨x4, trivial⟩).same s6).kp e6 k7
          · exact (((w4.same s6).app ((hk.same (same_new hp2)).rev))).kp e6 k7
          · rw [← heq, List.reverse_append, List.reverse_append, List.reverse_reverse, List.reverse_singleton, List.map_append, List.map_append, List.flatten_append, List.flatten_append, List.append_assoc]
            congr 1
            show g :: _ = (List.flatten [pre g]) ++ _
            rw [List.flatten_singleton, pre_kids g]
            simp
          · intro z hz
            rcases List.mem_append.mp hz with h | h
            · exact hwf z (by simp [h])
            · exact wf_kids hwg (List.mem_reverse.mp h)
      · have hws0 : ws = [] := List.length_eq_zero_iff.mp (by omega)
        subst hws0
        have hgs0 : gs = [] := List.length_eq_zero_iff.mp hws.len.symm
        subst hgs0
        rw [List.reverse_nil, List.map_nil, List.flatten_nil, List.append_nil] at heq
        rw [← heq]
        exact ⟨fs, v3, rfl, s2, h2o, hfs⟩
    · rintro σ H2 ⟨fs, v3, rfl, s2, h2o, hfs⟩
      exact ⟨_, rfl, q H2 o fs s2 h2o hfs⟩
theorem glo (T : Txt K mg w P) : ∃ aF aP : Addr, GloT K mg "FUTURE" Tr.future aF ∧ GloT K mg "PAST" Tr.past aP := by
  obtain ⟨⟨aQ, aN, aF, aP, aG, aA, _, _, g1, g2, _⟩, _⟩ := T.er
  exact ⟨aF, aP, g1, g2⟩
def cntK (ks : List Str) (fs : List Fm) : Nat := (fs.filter fun g => decide (kd g ∈ ks)).length
def spCnt (K : PySem.W.Frag) : Sp := fun vs H Q _ => ∃ (v : V) (a : Addr) (f : Fm) (nm ks : List Str), vs = [v, .ref a] ∧ FmAt K H v f ∧ Wf nm f ∧ sz f ≤ 1000 ∧ SqT K H a (ks.map V.str) ∧ ∀ H', Same H H' → Q (.int (cntK ks (pre f) : Nat)) H'
theorem cal_cnt (T : Txt K mg w P) : C8.Cal P w K mg base 3 "count_operators" (spCnt K) [] := by
  have C_subformulas : C8.Cal P w K mg base 2 "subformulas" (spSubs K) [] := cal_subs T
  obtain ⟨f, fd, F, hm, hb⟩ := T.h_count_operators
  refine ⟨f, fd, _, [], F.ok sc_count_operators (fun vs H Q E h => ?_) (fun cdv A outer s H vs Q E hr h => ?_), hm, F.kp, hb, .nil⟩
  · obtain ⟨v, a, f, nm, ks, rfl, _⟩ := h
    rfl
  · obtain ⟨v, a, f, nm, ks, rfl, hf, hw, hz, hk, q⟩ := h
    refine ⟨_, (pss_one
      (ps_ret (pe_callB (call_lenK (K := K) rfl) (by rfl) T.z_len PySem.boot_len (pa_cons (pe_lc (own := [("part", 2)]) (g := gName 2) rfl sc_count_operators.nd (pi_list (C8.pe_c C_subformulas hr (by decide) (by rfl) (pa_cons (pv 0) pa_nil))) (blkOk_by (N := N_count_operators) (sc := defScope s_count_operators) (by decide +kernel)) (fun _ _ _ _ _ => (pg_name (i := 2) sc_count_operators.nd rfl (Or.inl rfl))) (fun _ _ _ _ _ => (pts_one (pt_cmpR (op_inK (K := K) rfl) (pe_ix (ix_tupK (K := K) rfl) (pv 2) pe_int (fun _ _ => rfl)) (pv 1) (by rfl)))) (fun _ _ _ _ _ => (pv 2))) pa_nil)))), ?_⟩
    refine ⟨_, rfl, v, f, nm, rfl, hf, hw, hz, fun H1 o fs s1 ho hfs => ⟨o, rfl, ⟨_, .of ho⟩, fun D hD => lc_list (K := K) (a := o) (xs := fs) (fun i H2 => ∃ us : List V, Same H1 H2 ∧ H2 D = some (.lst us) ∧ us.length = cntK ks ((pre f).take i))
      ⟨[], same_new hD, upd_same, rfl⟩ (fun i H2 _ ⟨_, s2, _⟩ => .of (s2 _ _ ho)) ?_ ?_⟩⟩
    · rintro i x H2 hi ⟨us, s2, e2, hl2⟩
      obtain ⟨g, hg, hx⟩ := hfs.get hi
      obtain ⟨b, xs, rfl, hb2⟩ := (hx.same s2).tup
      refine ⟨rfl, _, rfl, b, _, _, .str (kd g), rfl, rfl, hb2, (show atI (V.str (kd g) :: xs) 0 = some (V.str (kd g)) from atI_nat (j := 0) rfl), _, rfl, inq (ss := ks) (sqt_same (s1.trans s2) hk) ⟨_, rfl, ?_⟩⟩
      have et : (pre f).take (i + 1) = (pre f).take i ++ [g] := by rw [List.take_add_one, hg]; rfl
      have hll : (pre f).length = sz f := pre_len f
      have hlt : i < (pre f).length := (List.getElem?_eq_some_iff.mp hg).1
      have hlu : us.length ≤ 1000 := by
        have h1 : us.length ≤ ((pre f).take i).length := by rw [hl2]; exact List.length_filter_le _ _
        rw [List.length_take] at h1
        omega
      refine ite2 (fun c => ?_) (fun c => ?_)
      · refine ⟨_, rfl, us, e2, Nat.lt_of_le_of_lt hlu (by decide), us ++ [.ref b], fun c2 u hc => ?_, upd_same, ?_⟩
        · rw [upd_ne (ne_of_none hc hD)]
          exact s2 _ _ hc
        · rw [et, List.length_append, hl2]
          unfold cntK
          have e1 : (List.filter (fun g => decide (kd g ∈ ks)) [g]) = [g] := by simp only [List.filter, c]
          rw [List.filter_append, List.length_append, e1]
          rfl
      · refine ⟨us, s2, e2, ?_⟩
        rw [et, hl2]
        unfold cntK
        have e1 : (List.filter (fun g => decide (kd g ∈ ks)) [g]) = [] := by simp only [List.filter, eq_false_of_ne_true c]
        rw [List.filter_append, List.length_append, e1]
        rfl
    · rintro H2 ⟨us, s2, e2, hl2⟩
      have e : (pre f).take fs.length = pre f := List.take_of_length_le (by rw [hfs.len]; exact Nat.le_refl _)
      refine ⟨D, us, rfl, .inl (.of e2), ?_⟩
      rw [hl2, e]
      exact q H2 (s1.trans s2)
def tpK : List Str := Tr.future ++ Tr.past
def spTmp (K : PySem.W.Frag) : Sp := fun vs H Q _ => ∃ (v : V) (f : Fm) (nm : List Str), vs = [v] ∧ FmAt K H v f ∧ Wf nm f ∧ sz f ≤ 1000 ∧ ∀ H', Same H H' → Q (.int (cntK tpK (pre f) : Nat)) H'
theorem cal_tmp (T : Txt K mg w P) : C8.Cal P w K mg base 4 "temporal_count" (spTmp K) [] := by
  have C_count_operators : C8.Cal P w K mg base 3 "count_operators" (spCnt K) [] := cal_cnt T
  obtain ⟨aF, aP, gF, gP⟩ := glo T
  obtain ⟨f, fd, F, hm, hb⟩ := T.h_temporal_count
  refine ⟨f, fd, _, [], F.ok sc_temporal_count (fun vs H Q E h => ?_) (fun cdv A outer s H vs Q E hr h => ?_), hm, F.kp, hb, .nil⟩
  · obtain ⟨v, f, nm, rfl, _⟩ := h
    rfl
  · obtain ⟨v, f, nm, rfl, hf, hw, hz, q⟩ := h
    refine ⟨_, (pss_one
      (ps_ret (C8.pe_c C_count_operators hr (by decide) (by rfl) (pa_cons (pv 0) (pa_cons (pe_op (op_catK (K := K) rfl) (pe_glob (v := .ref aF) (by rfl) gF.g rfl) (pe_glob (v := .ref aP) (by rfl) gP.g rfl)) pa_nil))))), ?_⟩
    refine ⟨_, rfl, _, _, _, _, rfl, rfl, gF.q H, gP.q H, (by decide), fun z => absurd z (by decide), fun _ z => absurd z (by decide), fun _ _ p hp => ?_⟩
    have s1 := same_new (o := .tup (Tr.future.map V.str ++ Tr.past.map V.str)) hp
    refine ⟨v, p, f, nm, tpK, rfl, hf.same s1, hw, hz, .of (by rw [upd_same]; unfold tpK; rw [List.map_append]), fun H2 s2 => q H2 (s1.trans s2)⟩
def LvA (K : PySem.W.Frag) (H : Hp) (as : List Addr) (ps : List (Fm × Nat)) : Prop := as.length = ps.length ∧ ∀ (i : Nat) (a : Addr), as[i]? = some a → ∃ (p : Fm × Nat) (v : V), ps[i]? = some p ∧ H a = some (.tup [v, .int (p.2 : Int)]) ∧ FmAt K H v p.1
theorem LvA.mv {H H' : Hp} {as : List Addr} {ps : List (Fm × Nat)} (s : ∀ b xs, H b = some (.tup xs) → H' b = some (.tup xs)) (s2 : ∀ a xs, SqT K H a xs → SqT K H' a xs) (h : LvA K H as ps) : LvA K H' as ps := ⟨h.1, fun i a e => by
  obtain ⟨p, v, h1, h2, h3⟩ := h.2 i a e
  exact ⟨p, v, h1, s _ _ h2, fm_tq s2 h3⟩⟩
theorem LvA.snoc {H : Hp} {as : List Addr} {ps : List (Fm × Nat)} {a : Addr} {p : Fm × Nat} {v : V} (h : LvA K H as ps) (e : H a = some (.tup [v, .int (p.2 : Int)])) (hv : FmAt K H v p.1) : LvA K H (as ++ [a]) (ps ++ [p]) := by
  refine ⟨by rw [List.length_append, List.length_append, h.1]; rfl, fun i x hx => ?_⟩
  rcases snocg hx with ⟨_, y⟩ | ⟨y1, y2⟩
  · obtain ⟨p', v', h1, h2⟩ := h.2 i x y
    exact ⟨p', v', by rw [List.getElem?_append_left (lt_of_get h1)]; exact h1, h2⟩
  · subst y2
    exact ⟨p, v, by rw [List.getElem?_append_right (by rw [y1, h.1]; exact Nat.le_refl _), y1, h.1, Nat.sub_self]; rfl, e, hv⟩
theorem LvA.un {H : Hp} {as : List Addr} {ps : List (Fm × Nat)} {a : Addr} {p : Fm × Nat} (h : LvA K H (as ++ [a]) (ps ++ [p])) : LvA K H as ps ∧ ∃ v, H a = some (.tup [v, .int (p.2 : Int)]) ∧ FmAt K H v p.1 := by
  have hl := h.1
  rw [List.length_append, List.length_append, List.length_singleton, List.length_singleton] at hl
  refine ⟨⟨by omega, fun i x hx => ?_⟩, ?_⟩
  · have hlt := lt_of_get hx
    obtain ⟨p', v', h1, h2⟩ := h.2 i x (by rw [List.getElem?_append_left hlt]; exact hx)
    rw [List.getElem?_append_left (by omega)] at h1
    exact ⟨p', v', h1, h2⟩
  · obtain ⟨p', v', h1, h2⟩ := h.2 as.length a (by rw [List.getElem?_append_right (Nat.le_refl _), Nat.sub_self]; rfl)
    rw [List.getElem?_append_right (by omega), show as.length - ps.length = 0 by omega] at h1
    cases h1
    exact ⟨v', h2⟩
theorem LvA.app {H : Hp} {as bs : List Addr} {ps qs : List (Fm × Nat)} (h : LvA K H as ps) (h2 : LvA K H bs qs) : LvA K H (as ++ bs) (ps ++ qs) := by
  refine ⟨by rw [List.length_append, List.length_append, h.1, h2.1], fun i x hx => ?_⟩
  rcases Nat.lt_or_ge i as.length with c | c
  · rw [List.getElem?_append_left c] at hx
    obtain ⟨p, v, h3, h4⟩ := h.2 i x hx
    exact ⟨p, v, by rw [List.getElem?_append_left (lt_of_get h3)]; exact h3, h4⟩
  · rw [List.getElem?_append_right c] at hx
    obtain ⟨p, v, h3, h4⟩ := h2.2 _ x hx
    exact ⟨p, v, by rw [List.getElem?_append_right (by rw [← h.1]; exact c), ← h.1]; exact h3, h4⟩
def mxd : List (Fm × Nat) → Nat → Nat
  | [], d => d
  | p :: ps, d => max (p.2 + dpt p.1) (mxd ps d)
theorem mxd_app : ∀ (a b : List (Fm × Nat)) (d : Nat), mxd (a ++ b) d = mxd a (mxd b d)
  | [], _, _ => rfl
  | p :: a, b, d => by
    show max _ (mxd (a ++ b) d) = max _ (mxd a (mxd b d))
    rw [mxd_app a b d]
theorem mxd_max : ∀ (a : List (Fm × Nat)) (c d : Nat), mxd a (max d c) = max (mxd a d) c
  | [], _, _ => rfl
  | p :: a, c, d => by
    show max _ (mxd a (max d c)) = max (max _ (mxd a d)) c
    rw [mxd_max a c d]
    omega
theorem mxd_kids (g : Fm) (l d : Nat) : mxd ((kids g).map fun k => (k, l + 1)) (max d l) = max d (l + dpt g) := by
  cases g with
  | c0 k => show max d l = max d (l + 0); rw [Nat.add_zero]
  | sg s => show max d l = max d (l + 0); rw [Nat.add_zero]
  | un k f => show max (l + 1 + dpt f) (max d l) = max d (l + (dpt f + 1)); omega
  | bin k f f2 => show max (l + 1 + dpt f) (max (l + 1 + dpt f2) (max d l)) = max d (l + (max (dpt f) (dpt f2) + 1)); omega
theorem mxd_step (ps : List (Fm × Nat)) (g : Fm) (l d : Nat) : mxd (ps ++ (kids g).map fun k => (k, l + 1)) (max d l) = mxd (ps ++ [(g, l)]) d := by
  rw [mxd_app, mxd_app, mxd_kids]
  show mxd ps (max d (l + dpt g)) = mxd ps (max (l + dpt g) d)
  rw [Nat.max_comm]
def tsz (ps : List (Fm × Nat)) : Nat := (ps.map fun p => sz p.1).sum
theorem tsz_app (a b : List (Fm × Nat)) : tsz (a ++ b) = tsz a + tsz b := by
  unfold tsz
  rw [List.map_append, List.sum_append]
theorem tsz_kids (g : Fm) (l : Nat) : tsz ((kids g).map fun k => (k, l)) + 1 = sz g := by
  cases g with
  | c0 k => rfl
  | sg s => rfl
  | un k f => show sz f + 0 + 1 = sz f + 1; omega
  | bin k f f2 => show sz f + (sz f2 + 0) + 1 = sz f + sz f2 + 1; omega
theorem tsz_len : ∀ ps : List (Fm × Nat), ps.length ≤ tsz ps
  | [] => Nat.le_refl _
  | p :: ps => by
    have h1 := sz_pos p.1
    have h2 := tsz_len ps
    show ps.length + 1 ≤ sz p.1 + tsz ps
    omega
def spDep (K : PySem.W.Frag) : Sp := fun vs H Q _ => ∃ (v : V) (f : Fm) (nm : List Str), vs = [v] ∧ FmAt K H v f ∧ Wf nm f ∧ sz f ≤ 1000 ∧ ∀ H', Same H H' → Q (.int ((dpt f + 1 : Nat) : Int)) H'
theorem kids_len (g : Fm) : (kids g).length ≤ 2 := by
  cases g with
  | c0 k => exact Nat.zero_le _
  | sg s => exact Nat.zero_le _
  | un k f => exact Nat.le_succ _
  | bin k f f2 => exact Nat.le_refl _
theorem cal_dep (T : Txt K mg w P) : C8.Cal P w K mg base 2 "depth" (spDep K) [] := by
  have C_operands : C8.Cal P w K mg base 1 "operands" (spOpers K) [] := cal_opers T
  obtain ⟨f, fd, F, hm, hb⟩ := T.h_depth
  refine ⟨f, fd, _, [], F.ok sc_depth (fun vs H Q E h => ?_) (fun cdv A outer s H vs Q E hr h => ?_), hm, F.kp, hb, .nil⟩
  · obtain ⟨v, f, nm, rfl, _⟩ := h
    rfl
  · obtain ⟨v, f, nm, rfl, hf, hw, hz, q⟩ := h
    refine ⟨_, (pss_cons
      (ps_set (i := 1) sc_depth.nd rfl (Or.inl rfl) pe_int)
      (pss_cons
      (ps_set (i := 2) sc_depth.nd rfl (Or.inl rfl) (pe_lst (pa_cons (pe_tup (pa_cons (pv 0) (pa_cons pe_int pa_nil))) pa_nil)))
      (C8.pss_cut
      (ps_while PassesOwn.never (pt_cmpR op_gt (pe_callB (call_lenK (K := K) rfl) (by rfl) T.z_len PySem.boot_len (pa_cons (pv 2) pa_nil)) pe_int (nomark _)) (pss_cons
      (ps_asg (pe_bm0 PySem.F.plainAttrs_list PySem.F.slot_list_pop PySem.F.type_list_pop mt_pop (pv 2)) (pg_tup (by rfl) (pgs_cons (pg_name (i := 3) sc_depth.nd rfl (.inl rfl)) (pgs_cons (pg_name (i := 4) sc_depth.nd rfl (.inr rfl)) pgs_nil))))
      (pss_cons
      (ps_set (i := 1) sc_depth.nd rfl (Or.inl rfl) (pe_callB (call_max2 rfl) (by rfl) T.z_max (by decide +kernel) (pa_cons (pv 1) (pa_cons (pv 4) pa_nil))))
      (pss_one
      (ps_expr (pe_bm PySem.F.plainAttrs_list PySem.F.slot_list_extend PySem.F.type_list_extend mt_extend (pv 2) (pa_cons (pe_lc (own := [("below", 5)]) (g := gName 5) (tt := tYes) rfl sc_depth.nd (pi_tup (C8.pe_c C_operands hr (by decide) (by rfl) (pa_cons (pv 3) pa_nil))) (blkOk_by (N := N_depth) (sc := defScope s_depth) (by decide +kernel)) (fun _ _ _ _ _ => (pg_name (i := 5) sc_depth.nd rfl (Or.inl rfl))) (fun _ _ _ _ _ => pts_nil) (fun _ _ _ _ _ => (pe_tup (pa_cons (pv 5) (pa_cons (pe_op op_add (pv 4) pe_int) pa_nil))))) pa_nil)))))))
      (pss_one
      (ps_ret (pv 1)))))), ?_⟩
    refine ⟨_, rfl, by show 2 ≤ sizeLine; decide, fun t nt => ?_⟩
    generalize hX : upd H t _ = H1; obtain ⟨sH1, et⟩ := nw nt hX; clear hX
    refine ⟨by show 1 ≤ sizeLine; decide, fun W nW => ?_⟩
    generalize hX : upd H1 W _ = H2; obtain ⟨sH2, eW⟩ := nw nW hX; clear hX
    have nW0 : H W = none := sH1.free nW
    refine ⟨fun σ H' => ∃ v3 v4 v5 : Option V, σ = [some v, some (.int ((dpt f + 1 : Nat) : Int)), some (.ref W), v3, v4, v5] ∧ Same H H', ?_, ?_⟩
    · refine ⟨fun m σ H' => ∃ (v3 v4 v5 : Option V) (d : Nat) (as : List Addr) (ps : List (Fm × Nat)), m = tsz ps ∧ σ = [some v, some (.int (d : Int)), some (.ref W), v3, v4, v5] ∧ Same H H' ∧ H' W = some (.lst (as.map V.ref)) ∧ LvA K H' as ps ∧ mxd ps d = dpt f + 1 ∧ tsz ps ≤ 1000 ∧ ∀ p ∈ ps, Wf nm p.1,
        ⟨_, none, none, none, 0, [t], [(f, 1)], rfl, rfl, sH1.trans sH2, eW, LvA.snoc (as := []) (ps := []) (p := (f, 1)) ⟨rfl, fun i a e => by (cases e)⟩ (sH2 _ _ et) ((hf.same sH1).same sH2), by show max (1 + dpt f) 0 = _; omega, by show sz f + 0 ≤ 1000; omega, fun p hp => by rw [List.mem_singleton.mp hp]; exact hw⟩, ?_⟩
      clear sH1 sH2 et eW nt nW
      rintro m σ H3 ⟨v3, v4, v5, d, as, ps, rfl, rfl, s3, e3, l3, hmx, hts, hwf⟩
      refine ⟨_, rfl, W, _, rfl, .inl (.of e3), _, _, rfl, rfl, _, rfl, ?_⟩
      rw [List.length_map, l3.1]
      by_cases c : ps = []
      · subst c
        refine iteB_f (decide_eq_false (by decide)) ⟨v3, v4, v5, ?_, s3⟩
        have hmx : d = dpt f + 1 := hmx
        rw [hmx]
      · obtain ⟨ps0, ⟨g, l⟩, rfl⟩ : ∃ ps0 x, ps = ps0 ++ [x] := ⟨ps.dropLast, ps.getLast c, (List.dropLast_concat_getLast c).symm⟩
        have hal := l3.1
        rw [List.length_append, List.length_singleton] at hal
        have hane : as ≠ [] := fun z => by rw [z] at hal; simp at hal
        obtain ⟨as0, a, rfl⟩ : ∃ as0 x, as = as0 ++ [x] := ⟨as.dropLast, as.getLast hane, (List.dropLast_concat_getLast hane).symm⟩
        obtain ⟨l30, gv, ea, hg⟩ := l3.un
        have hwg : Wf nm g := hwf (g, l) (by simp)
        refine iteB_t (decide_eq_true (by rw [List.length_append, List.length_singleton]; omega)) ⟨_, fun _ _ h => h, ?_⟩
        refine ⟨_, rfl, .inl ⟨rfl, _, .of e3⟩, W, _, .ref a, rfl, rfl, e3, by rw [List.map_append]; simp, ?_⟩
        rw [List.map_append, show ([a].map V.ref) = [V.ref a] from rfl, List.dropLast_concat]
        rw [List.map_append, show ([a].map V.ref) = [V.ref a] from rfl] at e3
        have k4 : Kp W H3 (upd H3 W (.lst (as0.map V.ref))) := Kp.own
        have e4 := upd_same (H := H3) (a := W) (o := .lst (as0.map V.ref))
        have tp4 : ∀ b xs, H3 b = some (.tup xs) → (upd H3 W (.lst (as0.map V.ref))) b = some (.tup xs) := fun b xs e => k4 _ _ (fun z => by rw [z, e3] at e; cases e) e
        have tq4 := tq_l (K := K) e3 k4
        have s4 : Same H (upd H3 W (.lst (as0.map V.ref))) := fun b o e => by rw [upd_ne (ne_of_none e nW0)]; exact s3 _ _ e
        generalize upd H3 W (.lst (as0.map V.ref)) = H4 at k4 e4 tp4 tq4 s4 ⊢
        have l4 := l30.mv tp4 tq4
        have ea4 := tp4 _ _ ea
        have hg4 := fm_tq tq4 hg
        refine ⟨a, _, rfl, .of ea4, rfl, _, _, rfl, _, _, rfl, rfl, ?_⟩
        refine ⟨_, rfl, _, rfl, _, _, rfl, ?_⟩
        have hmax : (if (l : Int) > (d : Int) then (l : Int) else (d : Int)) = ((max d l : Nat) : Int) := by split <;> omega
        show gName 1 (V.int (if (l : Int) > (d : Int) then (l : Int) else (d : Int))) _ _ _
        rw [hmax]
        have hkl := kids_len g
        have hpl := tsz_len (ps0 ++ [(g, l)])
        rw [List.length_append, List.length_singleton] at hpl
        refine ⟨_, rfl, .inl ⟨rfl, _, .of e4⟩, _, rfl, gv, g, nm, rfl, hg4, hwg, fun H5 p xs s5 hp hk => ?_⟩
        have e5 := s5 _ _ e4
        have l5 := l4.mv (fun b xs e => s5 _ _ e) (tq_same s5)
        have hxl := hk.len
        refine ⟨p, rfl, ⟨_, .of hp⟩, fun D nD => ?_⟩
        refine lc_tup (K := K) (a := p) (xs := xs) (fun i H' => Same H5 H' ∧ ∃ bs : List Addr, H' D = some (.lst (bs.map V.ref)) ∧ LvA K H' bs (((kids g).map fun k => (k, l + 1)).take i))
          ⟨same_new nD, [], upd_same, rfl, fun i a e => by (cases e)⟩ (fun i H' _ ⟨z, _⟩ => .of (z _ _ hp)) ?_ ?_
        · rintro i y H6 hi ⟨s6, bs, eD, lb⟩
          obtain ⟨k, hk1, hk2⟩ := hk.get hi
          refine ⟨rfl, _, rfl, _, rfl, _, _, rfl, rfl, by show 2 ≤ sizeLine; decide, fun b nb => ?_⟩
          generalize hX : upd H6 b _ = H7; obtain ⟨sH7, eb⟩ := nw nb hX; clear hX
          have eD7 := sH7 _ _ eD
          have hbl : bs.length ≤ 2 := by
            rw [lb.1, List.length_take, List.length_map]
            omega
          have tp8 : ∀ c xs, H7 c = some (.tup xs) → (upd H7 D (.lst (bs.map V.ref ++ [V.ref b]))) c = some (.tup xs) := fun c xs e => by rw [upd_ne (fun z => by rw [z, eD7] at e; cases e)]; exact e
          have tq8 := tq_l (K := K) eD7 (Kp.own (o := .lst (bs.map V.ref ++ [V.ref b])))
          refine ⟨_, eD7, by rw [List.length_map]; exact Nat.lt_of_le_of_lt hbl (by decide), fun c o e => ?_, bs ++ [b], by rw [upd_same, List.map_append]; rfl, ?_⟩
          · rw [upd_ne (ne_of_none e nD)]
            exact sH7 _ _ (s6 _ _ e)
          · have et : ((kids g).map fun k => (k, l + 1)).take (i + 1) = ((kids g).map fun k => (k, l + 1)).take i ++ [(k, l + 1)] := by
              rw [List.take_add_one, List.getElem?_map, hk1]
              rfl
            rw [et]
            exact ((lb.mv (fun c xs e => sH7 _ _ e) (tq_same sH7)).mv tp8 tq8).snoc (p := (k, l + 1)) (tp8 _ _ eb) (fm_tq tq8 ((hk2.same s6).same sH7))
        · rintro H6 ⟨s6, bs, eD, lb⟩
          rw [hxl, List.take_of_length_le (by rw [List.length_map]; exact Nat.le_refl _)] at lb
          have e6 := s6 _ _ e5
          have hbl : bs.length ≤ 2 := by
            rw [lb.1, List.length_map]
            exact hkl
          have hap : as0.length ≤ 1000 := by
            rw [l30.1]
            omega
          refine ⟨W, D, _, _, rfl, rfl, e6, eD, by rw [List.length_map, List.length_map]; exact Nat.le_trans (show as0.length + bs.length ≤ 1002 by omega) (by decide), ?_⟩
          have k7 : Kp W H6 (upd H6 W (.lst (as0.map V.ref ++ bs.map V.ref))) := Kp.own
          have tp7 : ∀ c xs, H6 c = some (.tup xs) → (upd H6 W (.lst (as0.map V.ref ++ bs.map V.ref))) c = some (.tup xs) := fun c xs e => by rw [upd_ne (fun z => by rw [z, e6] at e; cases e)]; exact e
          have tq7 := tq_l (K := K) e6 k7
          have hts2 : tsz (ps0 ++ (kids g).map fun k => (k, l + 1)) < tsz (ps0 ++ [(g, l)]) := by
            have h1 := tsz_kids g (l + 1)
            rw [tsz_app, tsz_app, show tsz [(g, l)] = sz g from rfl]
            omega
          refine ⟨_, hts2, _, _, _, max d l, as0 ++ bs, ps0 ++ (kids g).map fun k => (k, l + 1), rfl, rfl, fun c o e => ?_, by rw [upd_same, List.map_append], ?_, by rw [mxd_step]; exact hmx, by omega, fun p hp => ?_⟩
          · rw [upd_ne (ne_of_none e nW0)]
            exact s6 _ _ (s5 _ _ (s4 _ _ e))
          · have l7 := (l5.mv (fun c xs e => s6 _ _ e) (tq_same s6)).mv tp7 tq7
            have b7 := lb.mv tp7 tq7
            exact l7.app b7
          · rcases List.mem_append.mp hp with h | h
            · exact hwf p (List.mem_append_left _ h)
            · obtain ⟨k, hk1, rfl⟩ := List.mem_map.mp h
              exact wf_kids hwg hk1
    · rintro σ H3 ⟨v3, v4, v5, rfl, s3⟩
      exact ⟨_, rfl, q H3 s3⟩
/-! the errors with a name -/
def spZ (C : Addr) : Sp := fun vs H Q _ => ∃ (a : Addr) (nm : Str), vs = [.ref a, .str nm] ∧ nm.length ≤ 1000 ∧ H a = some (exo a C none) ∧ ∀ d, H d = none → d ≠ a → Q .non (upd (upd H d (exd d [("name", .str nm)])) a (exo a C (some d)))
theorem ok_zd {C f : Addr} {fd : FuncData} (I : Sup.InitK P K mg "DuplicateSignal" C f "__init__" "DuplicateSignal.__init__" (defArgs s_DuplicateSignal_init) (defBody s_DuplicateSignal_init) (defScope s_DuplicateSignal_init) fd) (hno : PySem.W.findIn K (.ref C) "name" = some none) :
    FnOk P w K mg base CX0 3 f fd ["self", "name"] (spZ C) := by
  refine I.ok sc_DuplicateSignal_init rfl rfl (fun en => rfl) (fun en => rfl) (fun en => rfl) (fun vs H Q E h => ?_) (fun cda cc A outer s H vs Q E hr h => ?_)
  · obtain ⟨a, nm, rfl, _⟩ := h
    rfl
  · obtain ⟨a, nm, rfl, hl, ha, q⟩ := h
    refine ⟨_, _, a, (pe_joined (.cons pe_str (.cons (pe_fmt (pv 1)) (.cons pe_str .nil)))), (pss_one (ps_ost (pv 0) (pv 1))), rfl, ha, ?_⟩
    have big : (100000 : Nat) ≤ sizeLine := by decide
    have hw : (Str.ofString "the signal ").length = 11 ∧ (Str.ofString " is there already").length = 17 ∧ Str.empty.length = 0 := by decide +kernel
    have al : ∀ a b : Str, (a ++ b).length = a.length + b.length := fun a b => by
      show (a.cps ++ b.cps).size = _
      rw [Array.size_append]
      rfl
    refine ⟨_, rfl, by rw [al, hw.1, hw.2.2]; omega, ?_⟩
    refine ⟨_, rfl, .inl ⟨_, rfl, by omega, _, rfl, by rw [al, al, hw.1, hw.2.2]; omega, ?_⟩⟩
    refine ⟨_, rfl, by rw [al, al, al, hw.1, hw.2.1, hw.2.2]; omega, ?_⟩
    exact ⟨ha, _, rfl, _, rfl, a, C, rfl, I.T, hno, .inl ⟨ha, fun d hd hne => q d hd hne⟩⟩
theorem ok_zu {C f : Addr} {fd : FuncData} (I : Sup.InitK P K mg "UnknownSignal" C f "__init__" "UnknownSignal.__init__" (defArgs s_UnknownSignal_init) (defBody s_UnknownSignal_init) (defScope s_UnknownSignal_init) fd) (hno : PySem.W.findIn K (.ref C) "name" = some none) :
    FnOk P w K mg base CX0 3 f fd ["self", "name"] (spZ C) := by
  refine I.ok sc_UnknownSignal_init rfl rfl (fun en => rfl) (fun en => rfl) (fun en => rfl) (fun vs H Q E h => ?_) (fun cda cc A outer s H vs Q E hr h => ?_)
  · obtain ⟨a, nm, rfl, _⟩ := h
    rfl
  · obtain ⟨a, nm, rfl, hl, ha, q⟩ := h
    refine ⟨_, _, a, (pe_joined (.cons pe_str (.cons (pe_fmt (pv 1)) .nil))), (pss_one (ps_ost (pv 0) (pv 1))), rfl, ha, ?_⟩
    have big : (100000 : Nat) ≤ sizeLine := by decide
    have hw : (Str.ofString "there is no signal ").length = 19 ∧ Str.empty.length = 0 := by decide +kernel
    have al : ∀ a b : Str, (a ++ b).length = a.length + b.length := fun a b => by
      show (a.cps ++ b.cps).size = _
      rw [Array.size_append]
      rfl
    refine ⟨_, rfl, by rw [al, hw.1, hw.2]; omega, ?_⟩
    refine ⟨_, rfl, .inl ⟨_, rfl, by omega, _, rfl, by rw [al, al, hw.1, hw.2]; omega, ?_⟩⟩
    exact ⟨ha, _, rfl, _, rfl, a, C, rfl, I.T, hno, .inl ⟨ha, fun d hd hne => q d hd hne⟩⟩
def dupF : List Str → List Str → Option Str
  | _, [] => none
  | kn, x :: r => if x ∈ kn then some x else dupF (kn ++ [x]) r
def unkL (kn : List Str) : List Fm → Option Str
  | [] => none
  | .sg s :: r => if s ∈ kn then unkL kn r else some s
  | _ :: r => unkL kn r
/-- the kind of what is no signal is not "signal" -/
def Kok : Fm → Prop
  | .c0 k => k ≠ sSig
  | .sg s => s.length ≤ 1000
  | .un k f => k ≠ sSig ∧ Kok f
  | .bin k f g => k ≠ sSig ∧ Kok f ∧ Kok g
theorem kok_pre : ∀ {f : Fm}, Kok f → ∀ g ∈ pre f, Kok g
  | .c0 k, h, g, m => by rw [List.mem_singleton.mp m]; exact h
  | .sg s, h, g, m => by rw [List.mem_singleton.mp m]; exact h
  | .un k f, h, g, m => by
    rcases List.mem_cons.mp m with e | e
    · rw [e]; exact h
    · exact kok_pre h.2 g e
  | .bin k f f2, h, g, m => by
    rcases List.mem_cons.mp m with e | e
    · rw [e]; exact h
    · rcases List.mem_append.mp e with e | e
      · exact kok_pre h.2.1 g e
      · exact kok_pre h.2.2 g e
def sgF : Fm → List Str
  | .c0 _ => []
  | .sg s => [s]
  | .un _ f => sgF f
  | .bin _ f g => sgF f ++ sgF g
theorem wf_mono {a b : List Str} (h : ∀ s ∈ a, s ∈ b) : ∀ {f : Fm}, Wf a f → Wf b f
  | .c0 _, w => w
  | .sg s, w => h s w
  | .un _ f, w => ⟨w.1, wf_mono h w.2⟩
  | .bin _ f g, w => ⟨w.1, wf_mono h w.2.1, wf_mono h w.2.2⟩
theorem wf_sg : ∀ {f : Fm}, Kok f → Wf (sgF f) f
  | .c0 _, h => h
  | .sg s, _ => List.mem_singleton.mpr rfl
  | .un _ f, h => ⟨h.1, wf_sg h.2⟩
  | .bin _ f g, h => ⟨h.1, wf_mono (fun s hs => List.mem_append_left _ hs) (wf_sg h.2.1), wf_mono (fun s hs => List.mem_append_right _ hs) (wf_sg h.2.2)⟩
theorem inqL {H : Hp} {p : Addr} {ss : List Str} {k : Str} {Q : VK} (h : SqL K H p (ss.map V.str)) (q : Q (.bl (decide (k ∈ ss))) H) : rIn K false (.str k) (.ref p) H Q :=
  ⟨p, _, rfl, .inl h, rfl, L2.flat_strs ss, by rw [in_strs]; exact q⟩
theorem ninqL {H : Hp} {p : Addr} {ss : List Str} {k : Str} {Q : VK} (h : SqL K H p (ss.map V.str)) (q : Q (.bl (!decide (k ∈ ss))) H) : rIn K true (.str k) (.ref p) H Q :=
  ⟨p, _, rfl, .inl h, rfl, L2.flat_strs ss, by rw [in_strs]; exact q⟩
/-- the error with this name leaves -/
def XN (c : Addr) (x : Str) (H : Hp) (E : XK) : Prop := ∀ (H' : Hp) (d : Addr), Same H H' → H' d = some (.xd [("name", .str x)]) → E (.ref c) (some d) H'
theorem mk_xn {C : Addr} {x : Str} {H H1 : Hp} {E : XK} (s : Same H H1) (hl : x.length ≤ 1000) (q : XN C x H E) : ∀ a, H1 a = none → spZ C (.ref a :: ([.str x] ++ [])) (upd H1 a (exo a C none))
    (fun v H2 => v = .non ∧ ∃ (d : Addr) (fs : List (Str × V)), H2 a = some (exo a C (some d)) ∧ H2 d = some (exd d fs) ∧ H1 d = none ∧ E (.ref C) (some d) (upd (del H2 a) d (.xd fs))) (fun _ _ _ => False) := fun a na => by
  refine ⟨a, x, rfl, hl, upd_same, fun d hd hne => ⟨rfl, d, [("name", .str x)], upd_same, by rw [upd_ne hne, upd_same], ?_, ?_⟩⟩
  · rw [upd_ne hne] at hd
    exact hd
  · rw [upd_ne hne] at hd
    refine q _ d (fun b o hb => ?_) upd_same
    have h1 := s _ _ hb
    rw [upd_ne (ne_of_none h1 hd), del_ne (ne_of_none h1 na), upd_ne (ne_of_none h1 na), upd_ne (ne_of_none h1 hd), upd_ne (ne_of_none h1 na)]
    exact h1
def spCnX (K : PySem.W.Frag) (cD cU : Addr) : Sp := fun vs H Q E => ∃ (h n : Addr) (v : V) (f : Fm) (hs nm : List Str), vs = [.ref h, v, .ref n] ∧ H h = some (.lst (hs.map V.str)) ∧ (SqL K H n (nm.map V.str) ∨ SqT K H n (nm.map V.str)) ∧ FmAt K H v f ∧ Kok f ∧ sz f ≤ 1000 ∧ nm.length ≤ 100 ∧ hs.length ≤ 100 ∧ (∀ s ∈ hs, s.length ≤ 1000) ∧
  (∀ x, dupF nm hs = some x → XN cD x H E) ∧ (∀ x, dupF nm hs = none → unkL (nm ++ hs) (pre f) = some x → XN cU x H E) ∧ (dupF nm hs = none → unkL (nm ++ hs) (pre f) = none → ∀ H', Same H H' → Q .non H')
theorem cal_cnx {cD fD cU fU : Addr} {fdD fdU : FuncData} (T : Txt K mg w P)
    (ID : Sup.InitK P K mg "DuplicateSignal" cD fD "__init__" "DuplicateSignal.__init__" (defArgs s_DuplicateSignal_init) (defBody s_DuplicateSignal_init) (defScope s_DuplicateSignal_init) fdD) (nD : PySem.W.findIn K (.ref cD) "name" = some none)
    (IU : Sup.InitK P K mg "UnknownSignal" cU fU "__init__" "UnknownSignal.__init__" (defArgs s_UnknownSignal_init) (defBody s_UnknownSignal_init) (defScope s_UnknownSignal_init) fdU) (nU : PySem.W.findIn K (.ref cU) "name" = some none) :
    CalX P w K mg base 5 "check_names" (spCnX K cD cU) := by
  have C_subformulas : C8.Cal P w K mg base 2 "subformulas" (spSubs K) [] := cal_subs T
  have FD : FnOk P w K mg base CX0 3 fD fdD ["self", "name"] (spZ cD) := ok_zd ID nD
  have FU : FnOk P w K mg base CX0 3 fU fdU ["self", "name"] (spZ cU) := ok_zu IU nU
  have bD : Binds K fdD ["self", "name"] [] := ID.binds fun _ _ _ _ _ _ _ us hl => match us, hl with | [_, _], _ => rfl
  have bU : Binds K fdU ["self", "name"] [] := IU.binds fun _ _ _ _ _ _ _ us hl => match us, hl with | [_, _], _ => rfl
  obtain ⟨fa, fd, F, hm, hb⟩ := T.h_check_names
  refine ⟨fa, fd, _, F.okX sc_check_names (fun vs H Q E h => ?_) (fun cdv A outer s H vs Q E hr h => ?_), hm, F.kp, hb⟩
  · obtain ⟨h, n, v, f, hs, nm, rfl, _⟩ := h
    rfl
  · obtain ⟨h, n, v, f, hs, nm, rfl, hh, hn, hf, hk, hz, hl1, hl2, hl3, q1, q2, q3⟩ := h
    refine ⟨_, (pss_cons
      (ps_set (i := 3) sc_check_names.nd rfl (Or.inl rfl) (pe_callTy (call_list_ofK (K := K) rfl) (by rfl) T.z_list (by decide +kernel) (pa_cons (pv 2) pa_nil)))
      (pss_cons
      (ps_for (passes_of rfl) rfl (pi_list (pv 0)) (pg_name (i := 4) sc_check_names.nd rfl (.inl rfl)) (pss_cons
      (ps_if (pt_cmpR (op_inK (K := K) rfl) (pv 4) (pv 3) (by rfl)) (pss_one
      (ps_raise rfl (takes_of rfl rfl rfl rfl) (pmk_oex ID.T ID.iC ID.tI FD (hr.mono (by omega)) bD .nil pass0 (by rfl) ID.gC (pa_cons (pv 4) pa_nil)))) pss_nil)
      (pss_one
      (ps_expr (pe_bm PySem.F.plainAttrs_list PySem.F.slot_list_append PySem.F.type_list_append mt_append (pv 3) (pa_cons (pv 4) pa_nil))))))
      (pss_one
      (ps_for (passes_of rfl) rfl (pi_list (C8.pe_c C_subformulas hr (by omega) (by rfl) (pa_cons (pv 1) pa_nil))) (pg_name (i := 5) sc_check_names.nd rfl (.inl rfl)) (pss_one
      (ps_if (PW.pt (pw_and (pt_cmpR op_eq (pe_ix (ix_tupK (K := K) rfl) (pv 5) pe_int (fun _ _ => rfl)) pe_str (nomark _)) (pw_and1 (pt_cmpR (op_notInK (K := K) rfl) (pe_ix (ix_tupK (K := K) rfl) (pv 5) pe_int (fun _ _ => rfl)) (pv 3) (by rfl))))) (pss_one
      (ps_raise rfl (takes_of rfl rfl rfl rfl) (pmk_oex IU.T IU.iC IU.tI FU (hr.mono (by omega)) bU .nil pass0 (by rfl) IU.gC (pa_cons (pe_ix (ix_tupK (K := K) rfl) (pv 5) pe_int (fun _ _ => rfl)) pa_nil)))) pss_nil)))))), ?_⟩
    refine ⟨_, rfl, n, _, rfl, hn, fun D nD => ?_⟩
    generalize hX : upd H D _ = H1; obtain ⟨sH1, eD⟩ := nw nD hX; clear hX
    have nDh : D ≠ h := fun z => by rw [z, hh] at nD; cases nD
    refine ⟨_, rfl, h, rfl, ⟨_, .of (sH1 _ _ hh)⟩, for_list (K := K) (a := h) (xs := hs.map V.str) (fun i σ H' => ∃ v4 : Option V, σ = [some (.ref h), some v, some (.ref n), some (.ref D), v4, none] ∧ Same H H' ∧ H' D = some (.lst ((nm ++ hs.take i).map V.str)) ∧ dupF (nm ++ hs.take i) (hs.drop i) = dupF nm hs)
      ⟨none, rfl, sH1, by rw [List.take_zero, List.append_nil]; exact eD, by rw [List.take_zero, List.append_nil, List.drop_zero]⟩ (fun i σ H' _ ⟨_, _, x, _⟩ => .of (x _ _ hh)) ?_ ?_⟩
    · rintro i x σ H2 hi ⟨v4, rfl, s2, e2, ed⟩
      obtain ⟨nme, hnm, rfl⟩ := mapg hi
      have hil := (List.getElem?_eq_some_iff.mp hnm).1
      have edr : hs.drop i = nme :: hs.drop (i + 1) := by
        rw [List.drop_eq_getElem_cons hil]
        congr 1
        have := List.getElem?_eq_getElem hil
        rw [hnm] at this
        exact (Option.some.inj this).symm
      rw [edr] at ed
      by_cases hin : nme ∈ nm ++ hs.take i
      · have e1 : dupF nm hs = some nme := by
          rw [← ed]
          unfold dupF
          rw [if_pos hin]
        refine ⟨_, rfl, _, rfl, inqL (.of e2) ⟨_, rfl, iteB_t (decide_eq_true hin) ?_⟩⟩
        exact ⟨_, rfl, by show 1 ≤ 1000; decide, mk_xn s2 (hl3 _ (List.mem_of_getElem? hnm)) (q1 _ e1)⟩
      · have e1 : dupF (nm ++ hs.take i ++ [nme]) (hs.drop (i + 1)) = dupF nm hs := by
          rw [← ed]
          conv => rhs; unfold dupF
          rw [if_neg hin]
        refine ⟨_, rfl, _, rfl, inqL (.of e2) ⟨_, rfl, iteB_f (decide_eq_false hin) ?_⟩⟩
        have et : hs.take (i + 1) = hs.take i ++ [nme] := by rw [List.take_add_one, hnm]; rfl
        refine ⟨_, rfl, .inl ⟨rfl, _, .of e2⟩, _, rfl, D, _, _, rfl, rfl, e2, ?_, ?_⟩
        · rw [List.length_map, List.length_append, List.length_take]
          exact Nat.lt_of_le_of_lt (show nm.length + min i hs.length ≤ 200 by omega) (by decide)
        · refine ⟨_, rfl, fun b o e => by rw [upd_ne (ne_of_none e nD)]; exact s2 _ _ e, ?_, ?_⟩
          · rw [upd_same, et, ← List.append_assoc, List.map_append (l₁ := nm ++ hs.take i)]
            rfl
          · rw [et, ← List.append_assoc]
            exact e1
    · rintro σ H2 ⟨v4, rfl, s2, e2, ed⟩
      have hl : (hs.map V.str).length = hs.length := List.length_map _
      rw [hl, List.drop_length, List.take_length] at ed
      rw [hl, List.take_length] at e2
      have hd0 : dupF nm hs = none := by rw [← ed]; rfl
      refine ⟨_, rfl, v, f, sgF f, rfl, hf.same s2, wf_sg hk, hz, fun H3 o fs s3 ho hfs => ?_⟩
      have e3 := s3 _ _ e2
      have s23 := s2.trans s3
      refine ⟨o, rfl, ⟨_, .of ho⟩, for_list (K := K) (a := o) (xs := fs) (fun i σ H' => ∃ v5 : Option V, σ = [some (.ref h), some v, some (.ref n), some (.ref D), v4, v5] ∧ H' = H3 ∧ unkL (nm ++ hs) ((pre f).drop i) = unkL (nm ++ hs) (pre f))
        ⟨none, rfl, rfl, by rw [List.drop_zero]⟩ (fun i σ H' _ ⟨_, _, x, _⟩ => by rw [x]; exact .of ho) ?_ ?_⟩
      · rintro i x σ H4 hi ⟨v5, rfl, rfl, eu⟩
        obtain ⟨g, hg, hx⟩ := hfs.get hi
        have hwg := kok_pre hk g (List.mem_of_getElem? hg)
        have hil := (List.getElem?_eq_some_iff.mp hg).1
        have edr : (pre f).drop i = g :: (pre f).drop (i + 1) := by
          rw [List.drop_eq_getElem_cons hil]
          congr 1
          have := List.getElem?_eq_getElem hil
          rw [hg] at this
          exact (Option.some.inj this).symm
        rw [edr] at eu
        have nz : ∀ {k : Str}, k ≠ sSig → (decide (V.str k = V.str "signal")) = false := fun hk => decide_eq_false fun z => hk (V.str.inj z)
        cases g with
        | sg s =>
          obtain ⟨b, rfl, hb2⟩ := hx
          refine ⟨_, rfl, b, _, _, _, rfl, rfl, hb2, rfl, rfl, _, rfl, ?_⟩
          refine iteB_t rfl ⟨_, rfl, b, _, _, _, rfl, rfl, hb2, rfl, _, rfl, ninqL (.of e3) ⟨_, rfl, ?_⟩⟩
          by_cases hin : s ∈ nm ++ hs
          · refine iteB_f (by rw [decide_eq_true hin]; rfl) ⟨_, rfl, rfl, ?_⟩
            rw [← eu]
            conv => rhs; unfold unkL
            rw [if_pos hin]
          · have e1 : unkL (nm ++ hs) (pre f) = some s := by
              rw [← eu]
              unfold unkL
              rw [if_neg hin]
            refine iteB_t (by rw [decide_eq_false hin]; rfl) ?_
            exact ⟨_, rfl, b, _, _, _, rfl, rfl, hb2, rfl, by show 1 ≤ 1000; decide, mk_xn s23 hwg (q2 _ hd0 e1)⟩
        | c0 k =>
          obtain ⟨b, rfl, hb2⟩ := hx
          refine ⟨_, rfl, b, _, _, _, rfl, rfl, hb2, rfl, rfl, _, rfl, ?_⟩
          rw [nz hwg]
          exact iteB_f rfl (iteB_f rfl ⟨_, rfl, rfl, eu⟩)
        | un k f2 =>
          obtain ⟨b, x2, rfl, hb2, _⟩ := hx
          refine ⟨_, rfl, b, _, _, _, rfl, rfl, hb2, rfl, rfl, _, rfl, ?_⟩
          rw [nz hwg.1]
          exact iteB_f rfl (iteB_f rfl ⟨_, rfl, rfl, eu⟩)
        | bin k f2 f3 =>
          obtain ⟨b, x2, x3, rfl, hb2, _⟩ := hx
          refine ⟨_, rfl, b, _, _, _, rfl, rfl, hb2, rfl, rfl, _, rfl, ?_⟩
          rw [nz hwg.1]
          exact iteB_f rfl (iteB_f rfl ⟨_, rfl, rfl, eu⟩)
      · rintro σ H4 ⟨v5, rfl, rfl, eu⟩
        have hlf := hfs.len
        rw [hlf, List.drop_length] at eu
        exact q3 hd0 (by rw [← eu]; rfl) H4 s23
/-- the bounds of a formula -/
def Bnds (hs : List Str) (f : Fm) : Prop := hs.length ≤ 3 ∧ dpt f + 1 ≤ 100 ∧ cntK tpK (pre f) ≤ 8 ∧ cntK ["iff", "weak_until"] (pre f) ≤ 6
theorem gloM (T : Txt K mg w P) : ∃ tm1 tm2 tm3 tm4 tm5 tm6 : Tok, mg "MOST_CHARACTERS" = some (.int 200 tm1) ∧ mg "MOST_PARENTHESES" = some (.int 20 tm2) ∧ mg "MOST_HIDDEN" = some (.int 3 tm3) ∧ mg "MOST_DEPTH" = some (.int 100 tm4) ∧ mg "MOST_TEMPORAL" = some (.int 8 tm5) ∧ mg "MOST_DOUBLING" = some (.int 6 tm6) := T.er.2.2.2.2.2.2.1
def spCbX (K : PySem.W.Frag) (cT : Addr) : Sp := fun vs H Q E => ∃ (h : Addr) (v : V) (f : Fm) (hs nm : List Str), vs = [.ref h, v] ∧ H h = some (.lst (hs.map V.str)) ∧ FmAt K H v f ∧ Wf nm f ∧ sz f ≤ 1000 ∧ (¬ Bnds hs f → ∀ H', Same H H' → E (.ref cT) none H') ∧ (Bnds hs f → ∀ H', Same H H' → Q .non H')
theorem cal_cbx {cT : Addr} (T : Txt K mg w P) (eT : ErrC K mg "TooLarge" cT) : CalX P w K mg base 5 "check_bounds" (spCbX K cT) := by
  have C_depth : C8.Cal P w K mg base 2 "depth" (spDep K) [] := cal_dep T
  have C_temporal_count : C8.Cal P w K mg base 4 "temporal_count" (spTmp K) [] := cal_tmp T
  have C_count_operators : C8.Cal P w K mg base 3 "count_operators" (spCnt K) [] := cal_cnt T
  obtain ⟨tm1, tm2, tm3, tm4, tm5, tm6, gM1, gM2, gM3, gM4, gM5, gM6⟩ := gloM T
  obtain ⟨fa, fd, F, hm, hb⟩ := T.h_check_bounds
  refine ⟨fa, fd, _, F.okX sc_check_bounds (fun vs H Q E h => ?_) (fun cdv A outer s H vs Q E hr h => ?_), hm, F.kp, hb⟩
  · obtain ⟨h, v, f, hs, nm, rfl, _⟩ := h
    rfl
  · obtain ⟨h, v, f, hs, nm, rfl, hh, hf, hw, hz, q1, q2⟩ := h
    refine ⟨_, (pss_cons
      (ps_if (pt_cmpR op_gt (pe_callB (call_lenK (K := K) rfl) (by rfl) T.z_len PySem.boot_len (pa_cons (pv 0) pa_nil)) (pe_glob (v := .int 3) (by rfl) gM3 ⟨_, rfl⟩) (nomark _)) (pss_one
      (ps_raise rfl (takes_of rfl rfl rfl rfl) (eT.made rfl))) pss_nil)
      (pss_cons
      (ps_if (pt_cmpR op_gt (C8.pe_c C_depth hr (by omega) (by rfl) (pa_cons (pv 1) pa_nil)) (pe_glob (v := .int 100) (by rfl) gM4 ⟨_, rfl⟩) (nomark _)) (pss_one
      (ps_raise rfl (takes_of rfl rfl rfl rfl) (eT.made rfl))) pss_nil)
      (pss_cons
      (ps_if (pt_cmpR op_gt (C8.pe_c C_temporal_count hr (by omega) (by rfl) (pa_cons (pv 1) pa_nil)) (pe_glob (v := .int 8) (by rfl) gM5 ⟨_, rfl⟩) (nomark _)) (pss_one
      (ps_raise rfl (takes_of rfl rfl rfl rfl) (eT.made rfl))) pss_nil)
      (pss_one
      (ps_if (pt_cmpR op_gt (C8.pe_c C_count_operators hr (by omega) (by rfl) (pa_cons (pv 1) (pa_cons (pe_tup (pa_cons pe_str (pa_cons pe_str pa_nil))) pa_nil))) (pe_glob (v := .int 6) (by rfl) gM6 ⟨_, rfl⟩) (nomark _)) (pss_one
      (ps_raise rfl (takes_of rfl rfl rfl rfl) (eT.made rfl))) pss_nil))))), ?_⟩
    refine ⟨_, rfl, h, _, rfl, .inl (.of hh), _, _, rfl, rfl, _, rfl, ?_⟩
    rw [List.length_map]
    refine ite2 (fun c => q1 (fun b => by have := b.1; have := of_decide_eq_true c; omega) H (Same.refl H)) (fun c => ?_)
    have c1 : ¬ (3 : Int) < hs.length := fun z => c (decide_eq_true z)
    refine ⟨_, rfl, v, f, nm, rfl, hf, hw, hz, fun H1 s1 => ?_⟩
    refine ⟨_, _, rfl, rfl, _, rfl, ite2 (fun c => q1 (fun b => by have := b.2.1; have := of_decide_eq_true c; omega) H1 s1) (fun c => ?_)⟩
    have c2 : ¬ (100 : Int) < ((dpt f + 1 : Nat) : Int) := fun z => c (decide_eq_true z)
    refine ⟨_, rfl, v, f, nm, rfl, hf.same s1, hw, hz, fun H2 s2 => ?_⟩
    refine ⟨_, _, rfl, rfl, _, rfl, ite2 (fun c => q1 (fun b => by have := b.2.2.1; have := of_decide_eq_true c; omega) H2 (s1.trans s2)) (fun c => ?_)⟩
    have c3 : ¬ (8 : Int) < ((cntK tpK (pre f) : Nat) : Int) := fun z => c (decide_eq_true z)
    refine ⟨_, rfl, by show 2 ≤ sizeLine; decide, fun t nt => ?_⟩
    generalize hX : upd H2 t _ = H3; obtain ⟨sH3, et⟩ := nw nt hX; clear hX
    have s3 := (s1.trans s2).trans sH3
    refine ⟨v, t, f, nm, ["iff", "weak_until"], rfl, hf.same s3, hw, hz, .of et, fun H4 s4 => ?_⟩
    refine ⟨_, _, rfl, rfl, _, rfl, ite2 (fun c => q1 (fun b => by have := b.2.2.2; have := of_decide_eq_true c; omega) H4 (s3.trans s4)) (fun c => ?_)⟩
    have c4 : ¬ (6 : Int) < ((cntK ["iff", "weak_until"] (pre f) : Nat) : Int) := fun z => c (decide_eq_true z)
    exact q2 ⟨by omega, by omega, by omega, by omega⟩ H4 (s3.trans s4)
/-! how many opening parentheses -/
def c40 (l : List Nat) : Nat := (l.filter fun c => decide (c = 40)).length
theorem c40_app (a b : List Nat) : c40 (a ++ b) = c40 a + c40 b := by
  unfold c40
  rw [List.filter_append, List.length_append]
theorem parts_len (x : Str) (w : Nat) : ∀ (cuts : List Nat) (a : Nat), (PySem.StrLaws.partsFrom x w a cuts).length = cuts.length + 1
  | [], a => rfl
  | c :: r, a => by
    show (_ :: PySem.StrLaws.partsFrom x w (c + w) r).length = _
    rw [List.length_cons, parts_len x w r, List.length_cons]
theorem count_spl (x y : Str) (hy : TL.tl y ≠ []) : Txt.count x y = ((TL.spl (TL.tl y) 0 [] (TL.tl x)).length : Int) - 1 := by
  obtain ⟨f, g, hn⟩ := PySem.StrLaws.occ_tight x y (TL.len1 hy)
  have key := TL.parts_spl hy _ 0 f (Nat.zero_le _) g hn
  rw [List.drop_zero] at key
  have h := congrArg List.length key
  rw [List.length_map, parts_len] at h
  unfold Txt.count
  rw [← h]
  omega
theorem spl_c40 : ∀ (l acc : List Nat), (TL.spl [40] 0 acc l).length = c40 l + 1
  | [], acc => by rw [TL.spl_nil]; rfl
  | c :: r, acc => by
    by_cases h : c = 40
    · subst h
      rw [TL.spl_hit (show TL.pre [40] (40 :: r) = true by simp [TL.pre])]
      show (TL.spl [40] 0 [] r).length + 1 = _
      rw [spl_c40 r []]
      unfold c40
      rw [List.filter_cons_of_pos (by simp), List.length_cons]
    · rw [TL.spl_miss (show TL.pre [40] (c :: r) = false by simp [TL.pre, h, fun z : 40 = c => h z.symm])]
      rw [spl_c40 r _]
      unfold c40
      rw [List.filter_cons_of_neg (by simpa using h)]
theorem count40 (t : Str) : Txt.count t (Str.ofString "(") = (c40 t.cps.toList : Int) := by
  have e : TL.tl (Str.ofString "(") = [40] := by decide +kernel
  rw [count_spl t _ (by rw [e]; simp), e, spl_c40]
  show ((c40 t.cps.toList + 1 : Nat) : Int) - 1 = _
  omega
theorem kndP_ne (s : Str) : kndP s ≠ sSig := by
  unfold kndP knd
  cases e : preL.find? (fun p => decide (p.2 = s)) with
  | none => exact (show ("" : Str) ≠ sSig by decide +kernel)
  | some p => exact (show ∀ p ∈ preL, p.1 ≠ sSig by decide +kernel) p (List.mem_of_find?_eq_some e)
theorem kndI_ne (s : Str) : kndI s ≠ sSig := by
  unfold kndI knd
  cases e : infL.find? (fun p => decide (p.2 = s)) with
  | none => exact (show ("" : Str) ≠ sSig by decide +kernel)
  | some p => exact (show ∀ p ∈ infL, p.1 ≠ sSig by decide +kernel) p (List.mem_of_find?_eq_some e)
theorem kok_wrp : ∀ {ss : List Str} {g : Fm}, Kok g → Kok (wrp ss g)
  | [], _, h => h
  | s :: _, _, h => ⟨kndP_ne s, kok_wrp h⟩
theorem sz_wrp : ∀ (ss : List Str) (g : Fm), sz (wrp ss g) = sz g + ss.length
  | [], _ => rfl
  | s :: ss, g => by
    show sz (wrp ss g) + 1 = _
    rw [sz_wrp ss g, List.length_cons]
    omega
def szs (fs : List Fm) : Nat := (fs.map sz).sum
theorem szs_cons (f : Fm) (fs : List Fm) : szs (f :: fs) = sz f + szs fs := by
  unfold szs
  rw [List.map_cons, List.sum_cons]
theorem kok_fldL : ∀ {ops : List Str} {fs : List Fm} {a : Fm}, Kok a → (∀ f ∈ fs, Kok f) → Kok (fldL ops fs a)
  | [], _, _, h, _ => h
  | o :: os, [], _, h, _ => h
  | o :: os, f :: fs, a, h, k => kok_fldL (ops := os) ⟨kndI_ne o, h, k f List.mem_cons_self⟩ fun g hg => k g (List.mem_cons_of_mem _ hg)
theorem kok_fldR : ∀ {ops : List Str} {fs : List Fm} {a : Fm}, Kok a → (∀ f ∈ fs, Kok f) → Kok (fldR ops a fs)
  | [], _, _, h, _ => h
  | o :: os, [], _, h, _ => h
  | o :: os, f :: fs, a, h, k => ⟨kndI_ne o, h, kok_fldR (ops := os) (k f List.mem_cons_self) fun g hg => k g (List.mem_cons_of_mem _ hg)⟩
theorem kok_fld {ops : List Str} {fs : List Fm} {a : Fm} (h : Kok a) (k : ∀ f ∈ fs, Kok f) : Kok (fld ops a fs) := by
  cases ops with
  | nil => exact h
  | cons o os =>
    unfold fld
    dsimp only
    split
    · exact kok_fldL h k
    · exact kok_fldR h k
theorem sz_fldL : ∀ (ops : List Str) (fs : List Fm) (a : Fm), sz (fldL ops fs a) ≤ sz a + szs fs + fs.length
  | [], fs, a => by unfold fldL; omega
  | o :: os, [], a => by unfold fldL; omega
  | o :: os, f :: fs, a => by
    have := sz_fldL os fs (.bin (kndI o) a f)
    show sz (fldL os fs (.bin (kndI o) a f)) ≤ _
    have e : sz (.bin (kndI o) a f) = sz a + sz f + 1 := rfl
    rw [szs_cons, List.length_cons]
    omega
theorem sz_fldR : ∀ (ops : List Str) (fs : List Fm) (a : Fm), sz (fldR ops a fs) ≤ sz a + szs fs + fs.length
  | [], fs, a => by unfold fldR; omega
  | o :: os, [], a => by unfold fldR; omega
  | o :: os, f :: fs, a => by
    have := sz_fldR os fs f
    show sz a + sz (fldR os f fs) + 1 ≤ _
    rw [szs_cons, List.length_cons]
    omega
theorem sz_fld (ops : List Str) (fs : List Fm) (a : Fm) : sz (fld ops a fs) ≤ sz a + szs fs + fs.length := by
  cases ops with
  | nil => unfold fld; dsimp only; omega
  | cons o os =>
    unfold fld
    dsimp only
    split
    · exact sz_fldL _ _ _
    · exact sz_fldR _ _ _
/-- what a reading gives -/
def Gv (ts : List Tk) (f : Fm) (r : List Tk) : Prop := Kok f ∧ sz f + r.length ≤ ts.length ∧ ∀ t ∈ r, t ∈ ts
abbrev Tl (ts : List Tk) : Prop := ∀ t ∈ ts, t.c.length ≤ 1000 ∧ Tg t
theorem gv_atm {R : List Tk → Fm → List Tk → Prop} (hR : ∀ ts f r, Tl ts → R ts f r → Gv ts f r) {ts : List Tk} {f : Fm} {r : List Tk} (hl : Tl ts) (h : Atm R ts f r) : Gv ts f r := by
  cases ts with
  | nil => exact h.elim
  | cons t r1 =>
    rcases h with ⟨_, u, h2, _⟩ | ⟨_, h2, rfl, rfl⟩ | ⟨_, _, _, rfl, rfl⟩
    · obtain ⟨a, b, c⟩ := hR _ _ _ (fun t ht => hl t (List.mem_cons_of_mem _ ht)) h2
      refine ⟨a, ?_, fun t ht => List.mem_cons_of_mem _ (c t (List.mem_cons_of_mem _ ht))⟩
      rw [List.length_cons] at b ⊢
      omega
    · have hk : t.c = t.k := (hl t List.mem_cons_self).2 ((show ∀ s ∈ (["true", "false"] : List Str), s ≠ "name" by decide +kernel) _ h2) ((show ∀ s ∈ (["true", "false"] : List Str), s ≠ "end" by decide +kernel) _ h2) ((show ∀ s ∈ (["true", "false"] : List Str), s ≠ "bad" by decide +kernel) _ h2)
      refine ⟨?_, by show 1 + _ ≤ _; rw [List.length_cons]; omega, fun t ht => List.mem_cons_of_mem _ ht⟩
      show t.c ≠ sSig
      rw [hk]
      exact (show ∀ s ∈ (["true", "false"] : List Str), s ≠ sSig by decide +kernel) _ h2
    · exact ⟨(hl t List.mem_cons_self).1, by show 1 + _ ≤ _; rw [List.length_cons]; omega, fun t ht => List.mem_cons_of_mem _ ht⟩
theorem gv_una {R : List Tk → Fm → List Tk → Prop} (hR : ∀ ts f r, Tl ts → R ts f r → Gv ts f r) {ts : List Tk} {ss : List Str} {g : Fm} {r : List Tk} (h : Una R ts ss g r) (hl : Tl ts) : Kok g ∧ sz g + ss.length + r.length ≤ ts.length ∧ ∀ t ∈ r, t ∈ ts := by
  induction h with
  | nil _ h2 => exact gv_atm hR hl h2
  | cons _ _ _ ih =>
    obtain ⟨a, b, c⟩ := ih fun t ht => hl t (List.mem_cons_of_mem _ ht)
    refine ⟨a, ?_, fun t ht => List.mem_cons_of_mem _ (c t ht)⟩
    rw [List.length_cons, List.length_cons]
    omega
theorem gv_chn {R : List Tk → Fm → List Tk → Prop} (hR : ∀ ts f r, Tl ts → R ts f r → Gv ts f r) {l : Nat} {ts : List Tk} {ops : List Str} {fs : List Fm} {r : List Tk} (h : Chn R l ts ops fs r) (hl : Tl ts) : (∀ f ∈ fs, Kok f) ∧ szs fs + fs.length + r.length ≤ ts.length ∧ ∀ t ∈ r, t ∈ ts := by
  induction h with
  | nil _ => exact ⟨fun f hf => by (cases hf), by unfold szs; simp, fun t ht => ht⟩
  | cons _ _ h3 _ ih =>
    obtain ⟨a, b, c⟩ := hR _ _ _ (fun t ht => hl t (List.mem_cons_of_mem _ ht)) h3
    obtain ⟨a2, b2, c2⟩ := ih fun t ht => hl t (List.mem_cons_of_mem _ (c t ht))
    refine ⟨fun f hf => ?_, ?_, fun t ht => List.mem_cons_of_mem _ (c t (c2 t ht))⟩
    · rcases List.mem_cons.mp hf with z | z
      · rw [z]; exact a
      · exact a2 f z
    · rw [szs_cons, List.length_cons, List.length_cons]
      omega
theorem gv_rd : ∀ (n : Nat) {l : Nat} {ts : List Tk} {f : Fm} {r : List Tk}, Tl ts → RdF n l ts f r → Gv ts f r
  | 0, _, _, _, _, _, h => h.elim
  | n + 1, l, ts, f, r, hl, h => by
    rcases h with ⟨_, ss, g, h2, rfl⟩ | ⟨_, f1, r1, ops, fs, h1, h2, rfl⟩
    · obtain ⟨a, b, c⟩ := gv_una (fun ts f r hl h => gv_rd n hl h) h2 hl
      exact ⟨kok_wrp a, by rw [sz_wrp]; omega, c⟩
    · obtain ⟨a, b, c⟩ := gv_rd n hl h1
      obtain ⟨a2, b2, c2⟩ := gv_chn (fun ts f r hl h => gv_rd n hl h) h2 fun t ht => hl t (c t ht)
      have := sz_fld ops fs f1
      exact ⟨kok_fld a a2, by omega, fun t ht => c t (c2 t ht)⟩
theorem gv_hid {ts r : List Tk} {hs : List Str} (h : Hid ts hs r) (hl : Tl ts) : (∀ s ∈ hs, s.length ≤ 1000) ∧ 2 * hs.length + r.length ≤ ts.length ∧ ∀ t ∈ r, t ∈ ts := by
  induction h with
  | one _ _ => exact ⟨fun s hs => by rw [List.mem_singleton.mp hs]; exact (hl _ List.mem_cons_self).1, by simp; omega, fun t ht => List.mem_cons_of_mem _ (List.mem_cons_of_mem _ ht)⟩
  | more _ _ _ ih =>
    obtain ⟨a, b, c⟩ := ih fun t ht => hl t (List.mem_cons_of_mem _ (List.mem_cons_of_mem _ ht))
    refine ⟨fun s hs => ?_, ?_, fun t ht => List.mem_cons_of_mem _ (List.mem_cons_of_mem _ (c t ht))⟩
    · rcases List.mem_cons.mp hs with z | z
      · rw [z]; exact (hl _ List.mem_cons_self).1
      · exact a s z
    · rw [List.length_cons, List.length_cons, List.length_cons]
      omega
theorem gv_all {n : Nat} {ts : List Tk} {q : Str} {hs : List Str} {f : Fm} (h : Rda n ts q hs f) (hl : Tl ts) : Kok f ∧ sz f ≤ ts.length ∧ (∀ s ∈ hs, s.length ≤ 1000) ∧ 2 * hs.length ≤ ts.length := by
  obtain ⟨t, u, r, rfl, _, ⟨_, _, rfl, r2, h2⟩ | ⟨_, _, r1, r2, h1, h2⟩⟩ := h
  · obtain ⟨a, b, _⟩ := gv_rd n hl h2
    exact ⟨a, by omega, fun s hs => by (cases hs), Nat.zero_le _⟩
  · have hl2 : Tl r := fun t ht => hl t (List.mem_cons_of_mem _ ht)
    obtain ⟨a, b, c⟩ := gv_hid h1 hl2
    obtain ⟨a2, b2, _⟩ := gv_rd n (fun t ht => hl2 t (c t ht)) h2
    rw [List.length_cons]
    exact ⟨a2, by omega, a, by omega⟩
theorem tks_len {cs : List Nat} {p : Nat} {ts : List Tk} (h : Tks cs p ts) : ts.length ≤ cs.length + 1 := by
  induction h with
  | nil => exact Nat.le_refl _
  | sp _ ih => rw [List.length_cons]; omega
  | bad _ _ => rw [List.length_cons]; exact Nat.le_add_left _ _
  | tok _ h1 _ ih =>
    have := tok_pos h1
    rw [List.length_drop] at ih
    rw [List.length_cons]
    omega
theorem k_sgn : ∀ s ∈ sgnL, s ≠ "end" ∧ s ≠ "name" ∧ s ≠ "bad" ∧ (s = "(" ∨ ∀ c r, s.cps.toList = c :: r → c ≠ 40) ∧ s.length ≤ 3 := by
  have a : ∀ s ∈ sgnL, s ≠ "end" ∧ s ≠ "name" ∧ s ≠ "bad" ∧ (s = "(" ∨ s.cps.toList.head? ≠ some 40) ∧ s.length ≤ 3 := by decide +kernel
  intro s hs
  obtain ⟨h1, h2, h3, h4, h5⟩ := a s hs
  exact ⟨h1, h2, h3, h4.imp id fun h c r e z => h (by rw [e, z]; rfl), h5⟩
theorem res_mem {s : Str} (h : resW s = true) : s ∈ (["true", "false", "exists", "forall"] : List Str) := by
  unfold resW at h
  rw [Bool.or_eq_true] at h
  rcases h with h | h
  · have := of_decide_eq_true h
    simp at this ⊢
    rcases this with z | z <;> simp [z]
  · have := of_decide_eq_true h
    simp at this ⊢
    rcases this with z | z <;> simp [z]
theorem k_res : ∀ s ∈ (["true", "false", "exists", "forall"] : List Str), s ≠ "end" ∧ s ≠ "bad" ∧ s ≠ "name" ∧ s ≠ "(" := by decide +kernel
/-- a token: a sign, a reserved word, a name, or none -/
theorem tok_kind {cs : List Nat} : (∃ s ∈ sgnL, tokOf cs = (s, s) ∧ cs.take s.length = s.cps.toList) ∨ ((sgnL.find? fun s => decide (cs.take s.length = s.cps.toList)) = none ∧ ((wlen true cs = 0 ∧ tokOf cs = (("bad" : Str), ("" : Str))) ∨ (wlen true cs ≠ 0 ∧ resW ⟨(cs.take (wlen true cs)).toArray⟩ = true ∧ tokOf cs = ((⟨(cs.take (wlen true cs)).toArray⟩ : Str), (⟨(cs.take (wlen true cs)).toArray⟩ : Str))) ∨ (wlen true cs ≠ 0 ∧ resW ⟨(cs.take (wlen true cs)).toArray⟩ = false ∧ tokOf cs = (("name" : Str), (⟨(cs.take (wlen true cs)).toArray⟩ : Str))))) := by
  unfold tokOf
  cases e : sgnL.find? (fun s => decide (cs.take s.length = s.cps.toList)) with
  | some s => exact .inl ⟨s, List.mem_of_find?_eq_some e, rfl, by have := List.find?_some e; simpa using this⟩
  | none =>
    refine .inr ⟨rfl, ?_⟩
    dsimp only
    by_cases c : wlen true cs = 0
    · rw [if_pos c]
      exact .inl ⟨c, rfl⟩
    · rw [if_neg c]
      cases d : resW ⟨(cs.take (wlen true cs)).toArray⟩ with
      | true => exact .inr (.inl ⟨c, rfl, rfl⟩)
      | false => exact .inr (.inr ⟨c, rfl, rfl⟩)
theorem drop_c40 : ∀ (n : Nat) (l : List Nat), c40 (l.drop n) ≤ c40 l
  | 0, l => Nat.le_refl _
  | n + 1, [] => Nat.le_refl _
  | n + 1, c :: l => by
    have := drop_c40 n l
    have e : c40 (c :: l) = c40 [c] + c40 l := c40_app [c] l
    rw [List.drop_succ_cons, e]
    omega
theorem par_len : ("(" : Str).length = 1 ∧ ("(" : Str).cps.toList = [40] := by decide +kernel
/-- all about the tokens of a text -/
theorem tks_all {cs : List Nat} {p : Nat} {ts : List Tk} (h : Tks cs p ts) : WT ts ∧ (∀ t ∈ ts, t.p ≤ p + cs.length ∧ t.c.length ≤ cs.length ∧ Tg t) ∧ np ts ≤ c40 cs := by
  induction h with
  | nil => exact ⟨.last (.inl rfl), fun t ht => by rw [List.mem_singleton.mp ht]; exact ⟨Nat.le_refl _, (show ("" : Str).length ≤ 0 by decide +kernel), fun _ h => absurd rfl h⟩, Nat.le_refl _⟩
  | @sp r p ts _ ih =>
    obtain ⟨a, b, c⟩ := ih
    refine ⟨a, fun t ht => ?_, ?_⟩
    · obtain ⟨b1, b2, b3⟩ := b t ht
      rw [List.length_cons]
      exact ⟨by omega, by omega, b3⟩
    · have e : c40 (32 :: r) = c40 [32] + c40 r := c40_app [32] r
      omega
  | @bad c r p h0 h1 =>
    refine ⟨.last (.inr rfl), fun t ht => ?_, ?_⟩
    · rw [List.mem_singleton.mp ht]
      refine ⟨Nat.le_add_right _ _, ?_, fun _ _ h => absurd rfl h⟩
      rcases tok_kind (cs := c :: r) with ⟨s, hs, e, _⟩ | ⟨_, ⟨_, e⟩ | ⟨_, d, e⟩ | ⟨_, d, e⟩⟩
      · rw [e] at h1
        exact absurd h1 (k_sgn s hs).2.2.1
      · rw [e]
        exact Nat.zero_le _
      · rw [e] at h1
        exact absurd h1 (k_res _ (res_mem d)).2.1
      · rw [e] at h1
        exact absurd h1 (show ("name" : Str) ≠ "bad" by decide +kernel)
    · have : np [(⟨"bad", (tokOf (c :: r)).2, p⟩ : Tk)] = 0 := by
        rw [np_cons, if_neg (show ("bad" : Str) ≠ "(" by decide +kernel)]
        rfl
      omega
  | @tok c r p ts h0 h1 h2 ih =>
    obtain ⟨a, b, cc⟩ := ih
    have hp := tok_pos h1
    have hd := drop_c40 (tokOf (c :: r)).2.length (c :: r)
    have key : (tokOf (c :: r)).1 ≠ "end" ∧ ((tokOf (c :: r)).1 ≠ "name" → (tokOf (c :: r)).2 = (tokOf (c :: r)).1) ∧ ((tokOf (c :: r)).1 = "(" → c = 40 ∧ (tokOf (c :: r)).2.length = 1) := by
      rcases tok_kind (cs := c :: r) with ⟨s, hs, e, e2⟩ | ⟨_, ⟨_, e⟩ | ⟨_, d, e⟩ | ⟨_, d, e⟩⟩
      · rw [e]
        refine ⟨(k_sgn s hs).1, fun _ => rfl, fun z => ?_⟩
        have z : s = "(" := z
        rw [z] at e2 ⊢
        rw [par_len.1, par_len.2] at e2
        exact ⟨(List.cons.inj e2).1, par_len.1⟩
      · rw [e] at h1
        exact absurd rfl h1
      · rw [e]
        obtain ⟨k1, k2, k3, k4⟩ := k_res _ (res_mem d)
        exact ⟨k1, fun _ => rfl, fun z => absurd z k4⟩
      · rw [e]
        exact ⟨(show ("name" : Str) ≠ "end" by decide +kernel), fun z => absurd rfl z, fun z => absurd z (show ("name" : Str) ≠ "(" by decide +kernel)⟩
    rw [List.length_drop] at b
    refine ⟨.cons key.1 h1 (fun h _ _ => key.2.1 h) a, fun t ht => ?_, ?_⟩
    · rcases List.mem_cons.mp ht with z | z
      · rw [z]
        exact ⟨Nat.le_add_right _ _, hp.2, fun h _ _ => key.2.1 h⟩
      · obtain ⟨b1, b2, b3⟩ := b t z
        exact ⟨by omega, by omega, b3⟩
    · rw [np_cons]
      by_cases z : (tokOf (c :: r)).1 = "("
      · obtain ⟨z1, z2⟩ := key.2.2 z
        rw [if_pos z]
        rw [z2, List.drop_succ_cons, List.drop_zero] at cc
        have e : c40 (c :: r) = c40 [c] + c40 r := c40_app [c] r
        rw [z1] at e ⊢
        have e1 : c40 [40] = 1 := rfl
        omega
      · rw [if_neg z]
        omega
theorem ok_isW {f : Addr} {fd : FuncData} (F : L2.Fun K "_law_is_integer" "_law_is_integer" s_law_is_integer f fd) (T : Txt K mg w P) : Hw.FnW P w K mg base 2 f fd ["actual"] spIsInt := by
  refine Hw.okW F sc_law_is_integer (fun vs H Q E h => ?_) (fun cdv A outer s H vs Q E hr h => ?_)
  · obtain ⟨i, rfl, _⟩ := h
    rfl
  · obtain ⟨i, rfl, q⟩ := h
    refine ⟨_, (pss_one
      (ps_ret (pe_and (pe_callB (call_isiK' (K := K) rfl) (by rfl) T.z_isinstance (by decide +kernel) (pa_cons (pv 0) (pa_cons (pe_bltn (v := .ty "int") (by rfl) T.z_int (by decide +kernel) rfl) pa_nil))) (pe_one (pe_not (pe_callB (call_isiK' (K := K) rfl) (by rfl) T.z_isinstance (by decide +kernel) (pa_cons (pv 0) (pa_cons (pe_bltn (v := .ty "bool") (by rfl) T.z_bool (by decide +kernel) rfl) pa_nil)))))))), ?_⟩
    refine ⟨_, rfl, _, _, _, _, true, rfl, .ty "int", .base (.int i), kit_ty (by decide +kernel), true, rfl, iteT ?_⟩
    exact ⟨_, rfl, _, _, _, _, false, rfl, .ty "bool", .base (.int i), kit_ty (by decide +kernel), false, rfl, q⟩
theorem sqL_sm {H H' : Hp} {a : Addr} {xs : List V} (s : Same H H') (h : SqL K H a xs) : SqL K H' a xs := by
  rcases h with (h | ⟨o, h⟩) | h
  · exact .inl (.inl (s _ _ h))
  · exact .inl (.inr ⟨o, s _ _ h⟩)
  · exact .inr h
/-- what leaves or comes back when the text is a property -/
structure Out9 (cT cD cU : Addr) (Q : VK) (E : XK) : Prop where
  t : ∀ H', E (.ref cT) none H'
  d : ∀ H' d, E (.ref cD) (some d) H'
  u : ∀ H' d, E (.ref cU) (some d) H'
  q : ∀ v H', Q v H'
def spPp9 (K : PySem.W.Frag) (n : Nat) (cT cD cU cF : Addr) : Sp := fun vs H Q E => ∃ (na : Addr) (t : Str) (nm : List Str), vs = [.str t, .ref na] ∧ (SqL K H na (nm.map V.str) ∨ SqT K H na (nm.map V.str)) ∧ t.length ≤ 10000 ∧ nm.length ≤ 100 ∧
  ((200 < t.length ∨ 20 < Txt.count t (Str.ofString "(")) → ∀ H', E (.ref cT) none H') ∧
  (t.length ≤ 200 → Txt.count t (Str.ofString "(") ≤ 20 → ∃ ts, Tks t.cps.toList 0 ts ∧ ((∃ qu hs f, Rda n ts qu hs f ∧ Out9 cT cD cU Q E) ∨ (∃ p, RaE n ts p ∧ XP cF p E)))
theorem cal_pp {n : Nat} {cT cD fD cU fU cF fE : Addr} {fdD fdU fdE : FuncData} (T : Txt K mg w P) (eT : ErrC K mg "TooLarge" cT)
    (ID : Sup.InitK P K mg "DuplicateSignal" cD fD "__init__" "DuplicateSignal.__init__" (defArgs s_DuplicateSignal_init) (defBody s_DuplicateSignal_init) (defScope s_DuplicateSignal_init) fdD) (nD : PySem.W.findIn K (.ref cD) "name" = some none)
    (IU : Sup.InitK P K mg "UnknownSignal" cU fU "__init__" "UnknownSignal.__init__" (defArgs s_UnknownSignal_init) (defBody s_UnknownSignal_init) (defScope s_UnknownSignal_init) fdU) (nU : PySem.W.findIn K (.ref cU) "name" = some none) (Z : FsE P K mg cF fE fdE) :
    CalX P w K mg base (Lv n 0 + 6) "parse_property" (spPp9 K n cT cD cU cF) := by
  obtain ⟨C, fI, fP, fT, fA, fH, fF, fU, fO, fdI, fdP, fdT, fdA, fdH, fdF, fdU, fdO, R⟩ := gloR T
  have PC := R.PC
  have MR := R.MR
  have gC := R.gC
  have bI := R.bI
  have MA := R.MA
  have bA := R.bA
  have hLv : 6 ≤ Lv n 0 := by unfold Lv; omega
  have FI : FnOk P w K mg base CX0 4 fI fdI ["self", "text"] (spRI C) := ok_rinit T R
  have FA : FnOk P w K mg base (L2.CX P w) (Lv n 0 + 1) fA fdA ["self"] (spRa K C cF n) := ok_all T Z R
  have X_check_names : CalX P w K mg base 5 "check_names" (spCnX K cD cU) := cal_cnx T ID nD IU nU
  have X_check_bounds : CalX P w K mg base 5 "check_bounds" (spCbX K cT) := cal_cbx T eT
  obtain ⟨tm1, tm2, tm3, tm4, tm5, tm6, gM1, gM2, gM3, gM4, gM5, gM6⟩ := gloM T
  obtain ⟨fa, fd, F, hm, hb⟩ := T.h_parse_property
  refine ⟨fa, fd, _, F.okX sc_parse_property (fun vs H Q E h => ?_) (fun cdv A outer s H vs Q E hr h => ?_), hm, F.kp, hb⟩
  · obtain ⟨na, t, nm, rfl, _⟩ := h
    rfl
  · obtain ⟨na, t, nm, rfl, hna, hlen0, hnl, qE, qN⟩ := h
    refine ⟨_, (pss_cons
      (ps_if (PW.pt (pw_or (pt_cmpR op_gt (pe_callB call_len_str (by rfl) T.z_len PySem.boot_len (pa_cons (pv 0) pa_nil)) (pe_glob (v := .int 200) (by rfl) gM1 ⟨_, rfl⟩) (nomark _)) (pw_or1 (pt_cmpR op_gt (pe_m1 PySem.F.slot_str_count PySem.F.type_str_count mt_count (pv 0) pe_str) (pe_glob (v := .int 20) (by rfl) gM2 ⟨_, rfl⟩) (nomark _))))) (pss_one
      (ps_raise rfl (takes_of rfl rfl rfl rfl) (eT.made rfl))) pss_nil)
      (pss_cons
      (ps_asg (Mx.pe_methX0 (pe_make MR FI (hr.mono (by omega)) (by rfl) gC bI .nil pass0 (pa_cons (pv 0) pa_nil)) PC.cl MA FA (hr.mono (by omega)) bA (takes_of rfl rfl rfl rfl)) (pg_tup (by rfl) (pgs_cons (pg_name (i := 2) sc_parse_property.nd rfl (.inl rfl)) (pgs_cons (pg_name (i := 3) sc_parse_property.nd rfl (.inl rfl)) (pgs_cons (pg_name (i := 4) sc_parse_property.nd rfl (.inl rfl)) pgs_nil)))))
      (pss_cons
      (ps_expr (pe_cx X_check_names hr (by omega) (takes_of rfl rfl rfl rfl) (by rfl) (pa_cons (pv 3) (pa_cons (pv 4) (pa_cons (pv 1) pa_nil)))))
      (pss_cons
      (ps_expr (pe_cx X_check_bounds hr (by omega) (takes_of rfl rfl rfl rfl) (by rfl) (pa_cons (pv 3) (pa_cons (pv 4) pa_nil))))
      (pss_cons
      (ps_if (pt_cmpR op_eq (pv 2) pe_str (nomark _)) (pss_one
      (ps_ret (pv 4))) pss_nil)
      (pss_one
      (ps_ret (pe_tup (pa_cons (pv 2) (pa_cons (pe_callTy (call_tuple_ofK (K := K) rfl) (by rfl) T.z_tuple (by decide +kernel) (pa_cons (pv 3) pa_nil)) (pa_cons (pv 4) pa_nil))))))))))), ?_⟩
    have hz2 : t.length ≤ sizeLine := Nat.le_trans hlen0 (by decide)
    refine ⟨_, rfl, t, rfl, hz2, _, _, rfl, rfl, _, rfl, ?_⟩
    by_cases htl : t.length ≤ 200
    · refine iteB_f (decide_eq_false (by omega)) ?_
      refine ⟨_, rfl, ⟨_, rfl⟩, _, _, rfl, rfl, _, _, rfl, rfl, _, rfl, ?_⟩
      by_cases hct : Txt.count t (Str.ofString "(") ≤ 20
      · refine iteB_f (decide_eq_false (by omega)) ?_
        obtain ⟨ts, htk, hor⟩ := qN htl hct
        refine ⟨_, rfl, fun x dx nx ndx hne => ?_⟩
        have kA : Same H (upd (upd H dx (.own x)) x (.ins C dx [])) := fun b o e => by
          rw [upd_ne (ne_of_none e nx), upd_ne (ne_of_none e ndx)]
          exact e
        refine ⟨x, dx, t, rfl, upd_same, Nat.le_trans htl (by decide), fun H1 ta pa ts1 k1 r1 htk1 hl1 => ⟨rfl, ?_⟩⟩
        obtain rfl := tks_det htk htk1
        have s1 : Same H H1 := fun b o e => k1 _ _ (ne_of_none e nx) (kA _ _ e)
        have hcl := str_len t
        have hlen : ts1.length ≤ 201 := by
          have := tks_len htk1
          omega
        obtain ⟨_, hal, _⟩ := tks_all htk1
        have hPs : Ps ts1 := ⟨by omega, fun t' ht' => by have := (hal t' ht').1; omega⟩
        refine ⟨x, dx, _, rfl, r1.hx, rfl, x, dx, ta, pa, ts1, rfl, r1, hPs, ?_⟩
        rcases hor with ⟨qu, hs, f, hrd, O⟩ | ⟨p, hrd, q⟩
        case inr => exact .inr ⟨p, hrd, q⟩
        obtain ⟨hk, hz, hh1, hhl⟩ := gv_all hrd fun t' ht' => ⟨by have := (hal t' ht').2.1; omega, (hal t' ht').2.2⟩
        refine .inl ⟨qu, hs, f, hrd, fun H2 b hp v k2 e2 eh hv => ?_⟩
        have s2 : Same H H2 := fun b o e => k2 _ _ (ne_of_none e nx) (s1 _ _ e)
        refine ⟨b, _, rfl, .of e2, rfl, _, _, rfl, _, _, rfl, _, _, rfl, rfl, ?_⟩
        have hna2 : SqL K H2 na (nm.map V.str) ∨ SqT K H2 na (nm.map V.str) := hna.elim (fun h => .inl (sqL_sm s2 h)) (fun h => .inr (sqt_same s2 h))
        refine ⟨_, rfl, _, rfl, _, rfl, hp, na, v, f, hs, nm, rfl, eh, hna2, hv, hk, by omega, hnl, by omega, hh1, fun x ex H' d s' _ => O.d H' d, fun x e0 ex H' d s' _ => O.u H' d, fun e0 e1 H3 s3 => ?_⟩
        have hv3 := hv.same s3
        have eh3 := s3 _ _ eh
        refine ⟨_, rfl, _, rfl, hp, v, f, hs, sgF f, rfl, eh3, hv3, wf_sg hk, by omega, fun nb H' s' => O.t H', fun hbd H4 s4 => ?_⟩
        have eh4 := s4 _ _ eh3
        refine ⟨_, rfl, rfl, _, rfl, ?_⟩
        refine ite2 (fun _ => ⟨_, rfl, O.q _ _⟩) (fun _ => ?_)
        refine ⟨_, rfl, _, rfl, hp, _, rfl, .inl ⟨.of eh4, fun c nc => ?_⟩⟩
        refine ⟨_, rfl, by show 3 ≤ sizeLine; decide, fun d nd => ?_⟩
        exact O.q _ _
      · exact iteB_t (decide_eq_true (by omega)) (qE (.inr (by omega)) H)
    · exact iteB_t (decide_eq_true (by omega)) (qE (.inl (by omega)) H)
/-- what the program answers: -1, or where it stops -/
def outI (t : Str) (ts : List Tk) : Int := if 200 < t.length ∨ 20 < Txt.count t (Str.ofString "(") then -1 else pf ts
def spOut9 (K : PySem.W.Frag) : Sp := fun vs H Q _ => ∃ (na : Addr) (t : Str) (nm : List Str) (ts : List Tk), vs = [.str t, .ref na] ∧ (SqL K H na (nm.map V.str) ∨ SqT K H na (nm.map V.str)) ∧ t.length ≤ 10000 ∧ nm.length ≤ 100 ∧ Tks t.cps.toList 0 ts ∧ ∀ H', Q (.int (outI t ts)) H'
theorem cal_out9 (T : Txt K mg w P) : C8.Cal P w K mg base 190 "_law_outcome" (spOut9 K) [] := by
  obtain ⟨⟨cT, cD, fD, cU, fU, fdD, fdU, eT, ID, XFD, nD, IU, XFU, nU, EC, kT, m1, m2, m3, m4, m5⟩, cF, fE, cS, fdE, tk7, IF, ECF, nF, gSy, hPC, kF, mF, hM⟩ := T.er.2.2.2.2.2.2.2
  have XFF : XfC K cF := ⟨ECF.hg, ECF.hk, ECF.hs, ECF.hd⟩
  obtain ⟨g1, g2, g3, g4, g5, g6⟩ := hM cT cD cU eT.g ID.gC IU.gC
  have X_parse_property : CalX P w K mg base 180 "parse_property" (spPp9 K 126 cT cD cU cF) := cal_pp (n := 126) T eT ID nD IU nU ⟨IF, nF, tk7, hPC⟩
  obtain ⟨fW, fdW, FW, hWm, hWb⟩ := T.h_law_is_integer
  have hWk := FW.kp
  have FWi : Hw.FnW P w K mg base 2 fW fdW ["actual"] spIsInt := ok_isW FW T
  obtain ⟨f, fd, F, hm, hb⟩ := T.h_law_outcome
  refine ⟨f, fd, _, [], F.ok sc_law_outcome (fun vs H Q E h => ?_) (fun cdv A outer s H vs Q E hr h => ?_), hm, F.kp, hb, .nil⟩
  · obtain ⟨na, t, nm, ts, rfl, _⟩ := h
    rfl
  · obtain ⟨na, t, nm, ts, rfl, hna, hl, hnl, htk, q⟩ := h
    refine ⟨_, (pss_cons
      (Tm2.ps_try_al (i := 2) rfl rfl sc_law_outcome.nd rfl rfl takes0 (fun W pn xe tk _ => (pss_one (ps_expr (pe_cx X_parse_property hr (by decide) tk (by rfl) (pa_cons (pv 0) (pa_cons (pv 1) pa_nil)))))) (Tm2.Hd.more ⟨rfl, by decide, .inl IF.gC⟩ (fun a oe cls d pn hz hf => (pss_cons (ps_if (PW.pt (pw_and (pt_val (Hw.pe_cW FWi (Hw.Rm.of hr (by decide) _) (by rfl) hWm hWk hWb (pa_cons (pe_xf XFF nF hz hf (pv 2)) pa_nil))) (pw_and1 (pt_val (pe_callB (Isx.call_isF (K := K) rfl hz hf) (by rfl) T.z_isinstance (by decide +kernel) (pa_cons (pv 2) (pa_cons (pe_bltn (v := .ty "ValueError") (by rfl) T.z_ValueError (by decide +kernel) rfl) pa_nil))))))) (pss_one (ps_ret (pe_xf XFF nF hz hf (pv 2)))) pss_nil) (pss_one (ps_ret (pe_un un_neg pe_int))))) (Tm2.Hd.bare ⟨rfl, by decide, .inl gSy⟩ (fun a oe cls d pn hz hf => (pss_one (ps_ret (pe_un un_neg pe_int)))) Tm2.Hd.nil)))
      (pss_one
      (ps_ret (pe_un un_neg pe_int)))), ?_⟩
    have qm : outI t ts = -1 → ∀ H', Q (.int (-1)) H' := fun e H' => e ▸ q H'
    refine ⟨_, rfl, _, rfl, na, t, nm, rfl, hna, hl, hnl, fun c H' => ?_, fun c1 c2 => ⟨ts, htk, ?_⟩⟩
    · exact ⟨false, g1, fun z => by (cases z), fun _ => ⟨true, g4, fun _ a ha => ⟨_, rfl, qm (if_pos c) H'⟩, fun z => by (cases z)⟩⟩
    have nb : ¬ (200 < t.length ∨ 20 < Txt.count t (Str.ofString "(")) := fun z => z.elim (fun y => by omega) (fun y => by omega)
    have e0 : outI t ts = pf ts := if_neg nb
    obtain ⟨wt, _, hnp⟩ := tks_all htk
    have hc40 : c40 t.cps.toList ≤ 20 := by rw [count40] at c2; omega
    rcases tot_all (n := 126) wt (by omega) with ⟨qu, hs, f, hrd, hpf⟩ | ⟨p, hrd, hpf⟩
    · have qm' := qm (e0.trans hpf)
      refine .inl ⟨qu, hs, f, hrd, ⟨fun H' => ?_, fun H' d => ?_, fun H' d => ?_, fun v H' => ⟨_, rfl, qm' H'⟩⟩⟩
      · exact ⟨false, g1, fun z => by (cases z), fun _ => ⟨true, g4, fun _ a ha => ⟨_, rfl, qm' H'⟩, fun z => by (cases z)⟩⟩
      · exact ⟨false, g2, fun z => by (cases z), fun _ => ⟨true, g5, fun _ a ha => ⟨_, rfl, qm' H'⟩, fun z => by (cases z)⟩⟩
      · exact ⟨false, g3, fun z => by (cases z), fun _ => ⟨true, g6, fun _ a ha => ⟨_, rfl, qm' H'⟩, fun z => by (cases z)⟩⟩
    · refine .inr ⟨p, hrd, fun H' d hd => ⟨true, mF, fun _ a ha => ?_, fun z => by (cases z)⟩⟩
      have q2 := q H'
      rw [e0, hpf] at q2
      refine ⟨_, rfl, rfl, rfl, d, [("position", .int (p : Int))], .int (p : Int), rfl, hd, rfl, (p : Int), rfl, true, rfl, iteT ?_⟩
      exact ⟨_, rfl, cF, d, [("position", .int (p : Int))], rfl, rfl, hd, ECF, .ty "ValueError", .type "ValueError", true, rfl, fun u h => h, kF, true, rfl, iteT ⟨_, rfl, rfl, rfl, d, [("position", .int (p : Int))], .int (p : Int), rfl, hd, rfl, q2⟩⟩
/-! ### the tokens as the law sees them -/
theorem tks_tot : ∀ (n : Nat) (cs : List Nat) (p : Nat), cs.length ≤ n → ∃ ts, Tks cs p ts
  | _, [], p, _ => ⟨_, .nil⟩
  | 0, c :: r, p, h => absurd h (by simp)
  | n + 1, c :: r, p, h => by
    rw [List.length_cons] at h
    by_cases h0 : c = 32
    · obtain ⟨ts, ht⟩ := tks_tot n r (p + 1) (by omega)
      exact ⟨ts, h0 ▸ .sp ht⟩
    by_cases h1 : (tokOf (c :: r)).1 = "bad"
    · exact ⟨_, .bad h0 h1⟩
    · have := tok_pos h1
      obtain ⟨ts, ht⟩ := tks_tot n ((c :: r).drop (tokOf (c :: r)).2.length) (p + (tokOf (c :: r)).2.length) (by rw [List.length_drop, List.length_cons]; omega)
      exact ⟨_, .tok h0 h1 ht⟩
abbrev resL : List Str := ["true", "false", "exists", "forall"]
/-- the head of a word -/
def hdL (s : Str) : Prop := ∃ c r, s.cps.toList = c :: r ∧ c ∈ tLC.cps.toList
/-- what a token may be -/
inductive TkK (n : Nat) (t : Tk) : Prop
  | sgn : t.k ∈ sgnL → t.c = t.k → TkK n t
  | res : t.k ∈ resL → t.c = t.k → TkK n t
  | nm : t.k = "name" → hdL t.c → ¬ t.c ∈ resL → TkK n t
  | bd : t.k = "bad" → t.c = "" → t.p < n → TkK n t
  | en : t.k = "end" → t.c = "" → t.p = n → TkK n t
theorem wlen_hd {c : Nat} {r : List Nat} (h : wlen true (c :: r) ≠ 0) : c ∈ tLC.cps.toList := by
  unfold wlen at h
  by_cases z : okW true c = true
  · unfold okW at z
    simpa using z
  · rw [if_neg z] at h
    exact absurd rfl h
theorem take_hd {c n : Nat} {r : List Nat} (hn : n ≠ 0) : ∃ q, (c :: r).take n = c :: q := by
  cases n with
  | zero => exact absurd rfl hn
  | succ n => exact ⟨_, rfl⟩
theorem tk_k {cs : List Nat} {p : Nat} {ts : List Tk} (h : Tks cs p ts) : ∀ t ∈ ts, TkK (p + cs.length) t := by
  induction h with
  | nil => intro t ht; rw [List.mem_singleton.mp ht]; exact .en rfl rfl rfl
  | sp _ ih =>
    intro t ht
    have := ih t ht
    rw [List.length_cons]
    rwa [Nat.add_right_comm, Nat.add_assoc] at this
  | @bad c r p h0 h1 =>
    intro t ht
    rw [List.mem_singleton.mp ht]
    refine .bd rfl ?_ (by show p < _; rw [List.length_cons]; omega)
    rcases tok_kind (cs := c :: r) with ⟨s, hs, e, _⟩ | ⟨_, ⟨_, e⟩ | ⟨_, d, e⟩ | ⟨_, d, e⟩⟩
    · rw [e] at h1
      exact absurd h1 (k_sgn s hs).2.2.1
    · rw [e]
    · rw [e] at h1
      exact absurd h1 (k_res _ (res_mem d)).2.1
    · rw [e] at h1
      exact absurd h1 (show ("name" : Str) ≠ "bad" by decide +kernel)
  | @tok c r p ts h0 h1 h2 ih =>
    intro t ht
    rcases List.mem_cons.mp ht with z | z
    · rw [z]
      rcases tok_kind (cs := c :: r) with ⟨s, hs, e, _⟩ | ⟨_, ⟨_, e⟩ | ⟨hw, d, e⟩ | ⟨hw, d, e⟩⟩
      · rw [e]; exact .sgn hs rfl
      · rw [e] at h1; exact absurd rfl h1
      · rw [e]; exact .res (res_mem d) rfl
      · rw [e]
        obtain ⟨q, hq⟩ := take_hd (c := c) (r := r) hw
        refine .nm rfl ⟨c, q, hq, wlen_hd hw⟩ fun z => ?_
        have : resW (⟨((c :: r).take (wlen true (c :: r))).toArray⟩ : Str) = true := by
          unfold resW
          have z : (⟨((c :: r).take (wlen true (c :: r))).toArray⟩ : Str) ∈ resL := z
          simp only [List.mem_cons, List.not_mem_nil, or_false, Bool.or_eq_true, decide_eq_true_eq] at z ⊢
          rcases z with z | z | z | z
          · exact .inl (.inl z)
          · exact .inl (.inr z)
          · exact .inr (.inl z)
          · exact .inr (.inr z)
        rw [this] at d
        cases d
    · have := ih t z
      have hp := tok_pos h1
      rwa [List.length_drop, show p + (tokOf (c :: r)).2.length + ((c :: r).length - (tokOf (c :: r)).2.length) = p + (c :: r).length by omega] at this
instance (s : Str) : Decidable (hdL s) := match e : s.cps.toList with
  | [] => isFalse fun ⟨c, r, h, _⟩ => by rw [e] at h; cases h
  | c :: r => if h : c ∈ tLC.cps.toList then isTrue ⟨c, r, e, h⟩ else isFalse fun ⟨c', r', h', m⟩ => by rw [e] at h'; cases h'; exact h m
/-- is it a name -/
def isNm (s : Str) : Bool := decide (hdL s ∧ ¬ s ∈ resL)
theorem hd_no : ∀ s ∈ sgnL, ∀ c ∈ tLC.cps.toList, s.cps.toList.head? ≠ some c := by decide +kernel
theorem hd_sgn {s : Str} (hs : s ∈ sgnL) : ¬ hdL s := fun ⟨c, r, e, m⟩ => hd_no s hs c m (by rw [e]; rfl)
theorem hd_emp : ¬ hdL "" := fun ⟨c, r, e, m⟩ => by
  have : ("" : Str).cps.toList = [] := by decide +kernel
  rw [this] at e
  cases e
theorem res_hd : ∀ s ∈ resL, ∀ t ∈ sgnL, s ≠ t := by decide +kernel
theorem nm_eq {n : Nat} {t : Tk} (h : TkK n t) : (hdL t.c ∧ ¬ t.c ∈ resL) ↔ t.k = "name" := by
  cases h with
  | sgn h1 h2 => exact ⟨fun z => absurd (h2 ▸ z.1) (hd_sgn h1), fun z => absurd z (k_sgn _ h1).2.1⟩
  | res h1 h2 => exact ⟨fun z => absurd (h2.symm ▸ h1) z.2, fun z => absurd z (k_res _ h1).2.2.1⟩
  | nm h1 h2 h3 => exact ⟨fun _ => h1, fun _ => ⟨h2, h3⟩⟩
  | bd h1 h2 _ => exact ⟨fun z => absurd (h2 ▸ z.1) hd_emp, fun z => absurd (h1.symm.trans z) (by decide +kernel)⟩
  | en h1 h2 _ => exact ⟨fun z => absurd (h2 ▸ z.1) hd_emp, fun z => absurd (h1.symm.trans z) (by decide +kernel)⟩
theorem isNm_k {n : Nat} {t : Tk} (h : TkK n t) : isNm t.c = decide (t.k = "name") := by
  unfold isNm
  by_cases z : t.k = "name"
  · rw [decide_eq_true z, decide_eq_true ((nm_eq h).mpr z)]
  · rw [decide_eq_false z, decide_eq_false fun y => z ((nm_eq h).mp y)]
theorem nm_not {s : Str} (h : hdL s) : ∀ u ∈ sgnL, s ≠ u := fun u hu z => hd_sgn hu (z ▸ h)
/-- words of the grammar stand in the token as its kind -/
theorem ck_eq {n : Nat} {t : Tk} (h : TkK n t) {s : Str} (hs : s ∈ sgnL ∨ s ∈ resL) : t.c = s ↔ t.k = s := by
  have ne : s ≠ "" ∧ s ≠ "bad" ∧ s ≠ "end" ∧ s ≠ "name" := by
    rcases hs with hs | hs
    · exact (show ∀ s ∈ sgnL, s ≠ "" ∧ s ≠ "bad" ∧ s ≠ "end" ∧ s ≠ "name" by decide +kernel) s hs
    · exact (show ∀ s ∈ resL, s ≠ "" ∧ s ≠ "bad" ∧ s ≠ "end" ∧ s ≠ "name" by decide +kernel) s hs
  cases h with
  | sgn _ h2 => rw [h2]
  | res _ h2 => rw [h2]
  | nm h1 h2 h3 =>
    refine ⟨fun z => ?_, fun z => absurd (z.symm.trans h1) ne.2.2.2⟩
    rcases hs with hs | hs
    · exact absurd z (nm_not h2 s hs)
    · exact absurd (z ▸ hs) h3
  | bd h1 h2 _ => exact ⟨fun z => absurd (z.symm.trans h2) ne.1, fun z => absurd (z.symm.trans h1) ne.2.1⟩
  | en h1 h2 _ => exact ⟨fun z => absurd (z.symm.trans h2) ne.1, fun z => absurd (z.symm.trans h1) ne.2.2.1⟩
theorem ck_mem {n : Nat} {t : Tk} (h : TkK n t) {l : List Str} (hl : ∀ s ∈ l, s ∈ sgnL ∨ s ∈ resL) : t.c ∈ l ↔ t.k ∈ l := by
  constructor
  · intro z
    have := (ck_eq h (hl _ z)).mp rfl
    rwa [this]
  · intro z
    have := (ck_eq h (hl _ z)).mpr rfl
    rwa [this]
def occB (i j : Str) : Bool := !(Builtin.Str.occurrences j i 0 j.length 1).isEmpty
theorem occ_sgn : ∀ s ∈ sgnL, s ≠ "" ∧ occB s "!XFGYZOH" = isPre s := by decide +kernel
theorem occ_res : ∀ s ∈ resL, ¬ s ∈ atmK → occB s "!XFGYZOH" = false ∧ isPre s = false := by decide +kernel
/-- a sign in front -/
theorem pre_eq {n : Nat} {t : Tk} (h : TkK n t) (hn : ¬ t.k ∈ atmK) : (t.c ≠ "" ∧ occB t.c "!XFGYZOH" = true) ↔ isPre t.k = true := by
  have e1 : isPre "bad" = false ∧ isPre "end" = false := by decide +kernel
  cases h with
  | sgn h1 h2 =>
    rw [h2]
    obtain ⟨a, b⟩ := occ_sgn _ h1
    rw [b]
    exact ⟨fun z => z.2, fun z => ⟨a, z⟩⟩
  | res h1 h2 =>
    rw [h2]
    obtain ⟨a, b⟩ := occ_res _ h1 hn
    rw [a, b]
    exact ⟨fun z => z.2, fun z => by (cases z)⟩
  | nm h1 _ _ => exact absurd (by rw [h1]; simp) hn
  | bd h1 h2 _ => exact ⟨fun z => absurd h2 z.1, fun z => by rw [h1, e1.1] at z; (cases z)⟩
  | en h1 h2 _ => exact ⟨fun z => absurd h2 z.1, fun z => by rw [h1, e1.2] at z; (cases z)⟩
/-- the end -/
theorem end_eq {n : Nat} {t : Tk} (h : TkK n t) : (t.c = "" ∧ t.p = n) ↔ t.k = "end" := by
  cases h with
  | sgn h1 h2 => exact ⟨fun z => absurd (h2.symm.trans z.1) (occ_sgn _ h1).1, fun z => absurd z (k_sgn _ h1).1⟩
  | res h1 h2 => exact ⟨fun z => absurd (h2.symm.trans z.1) ((show ∀ s ∈ resL, s ≠ "" by decide +kernel) _ h1), fun z => absurd z (k_res _ h1).1⟩
  | nm h1 h2 _ => exact ⟨fun z => absurd (z.1 ▸ h2) hd_emp, fun z => absurd (h1.symm.trans z) (by decide +kernel)⟩
  | bd h1 h2 h3 => exact ⟨fun z => absurd z.2 (by omega), fun z => absurd (h1.symm.trans z) (by decide +kernel)⟩
  | en h1 h2 h3 => exact ⟨fun _ => h1, fun _ => ⟨h2, h3⟩⟩
/-! the length of a token -/
abbrev oneS : Str := "!&|XFGUWRYZOHST(),:"
theorem sgn_hd : ∀ s ∈ sgnL, s = "<->" ∨ s = "->" ∨ (s.length = 1 ∧ ∃ c ∈ oneS.cps.toList, s.cps.toList = [c]) := by
  have a : ∀ s ∈ sgnL, s = "<->" ∨ s = "->" ∨ (s.length = 1 ∧ ∃ c ∈ oneS.cps.toList, s.cps.toList = [c]) := by decide +kernel
  exact a
theorem one_sgn : ∀ c ∈ oneS.cps.toList, (⟨#[c]⟩ : Str) ∈ sgnL := by decide +kernel
theorem two_sgn : ("<->" : Str) ∈ sgnL ∧ ("->" : Str) ∈ sgnL ∧ ("<->" : Str).length = 3 ∧ ("->" : Str).length = 2 ∧ ("<->" : Str).cps.toList = [60, 45, 62] ∧ ("->" : Str).cps.toList = [45, 62] ∧ 60 ∉ oneS.cps.toList ∧ 45 ∉ oneS.cps.toList ∧ 60 ∉ tLC.cps.toList ∧ 45 ∉ tLC.cps.toList := by decide +kernel
theorem one_lc : ∀ c ∈ oneS.cps.toList, c ∉ tLC.cps.toList := by decide +kernel
theorem none_all {cs : List Nat} (h : sgnL.find? (fun s => decide (cs.take s.length = s.cps.toList)) = none) : ∀ s ∈ sgnL, cs.take s.length ≠ s.cps.toList := fun s hs z => by
  have := List.find?_eq_none.mp h s hs
  simp [z] at this
theorem tl_low {c : Nat} {r : List Nat} (h : c ∈ tLC.cps.toList) : (tokOf (c :: r)).2.length = wlen false (c :: r) := by
  obtain ⟨a1, a2, a3, a4, a5, a6, a7, a8, a9, a10⟩ := two_sgn
  have e : wlen true (c :: r) = wlen false (c :: r) := by
    have k : ∀ f, okW f c = true := fun f => by unfold okW; rw [decide_eq_true h]; rfl
    unfold wlen
    rw [k, k]
  have hne : wlen true (c :: r) ≠ 0 := by
    unfold wlen
    rw [if_pos (by unfold okW; rw [decide_eq_true h]; rfl)]
    exact Nat.succ_ne_zero _
  have hl : ((⟨((c :: r).take (wlen true (c :: r))).toArray⟩ : Str)).length = wlen false (c :: r) := by
    rw [arr_len, List.length_take, Nat.min_eq_left (wlen_le _ _), e]
  rcases tok_kind (cs := c :: r) with ⟨s, hs, e, e2⟩ | ⟨_, ⟨hw, e⟩ | ⟨hw, d, e⟩ | ⟨hw, d, e⟩⟩
  · exfalso
    rcases sgn_hd s hs with z | z | ⟨z, c', hc', z2⟩
    · rw [z, a3, a5] at e2
      exact a9 ((List.cons.inj e2).1 ▸ h)
    · rw [z, a4, a6] at e2
      exact a10 ((List.cons.inj e2).1 ▸ h)
    · rw [z, z2] at e2
      exact one_lc c' hc' ((List.cons.inj e2).1 ▸ h)
  · exact absurd hw hne
  · rw [e]; exact hl
  · rw [e]; exact hl
theorem tl_high {c : Nat} {r : List Nat} (h : c ∉ tLC.cps.toList) : (tokOf (c :: r)).2.length = if (c :: r).take 2 = ("->" : Str).cps.toList then 2 else if (c :: r).take 3 = ("<->" : Str).cps.toList then 3 else if c ∈ oneS.cps.toList then 1 else 0 := by
  obtain ⟨a1, a2, a3, a4, a5, a6, a7, a8, a9, a10⟩ := two_sgn
  have hw0 : wlen true (c :: r) = 0 := by
    cases e : wlen true (c :: r) with
    | zero => rfl
    | succ n => exact absurd (wlen_hd (c := c) (r := r) (by rw [e]; exact Nat.succ_ne_zero _)) h
  rcases tok_kind (cs := c :: r) with ⟨s, hs, e, e2⟩ | ⟨hn, hor⟩
  · rw [e]
    rcases sgn_hd s hs with z | z | ⟨z, c', hc', z2⟩
    · rw [z, a3] at e2
      have hc : c = 60 := by rw [a5] at e2; exact (List.cons.inj e2).1
      rw [z, if_neg (fun y => by rw [a6] at y; have := (List.cons.inj y).1; omega), if_pos e2]
      exact a3
    · rw [z, a4] at e2
      rw [z, if_pos e2]
      exact a4
    · rw [z, z2] at e2
      obtain rfl : c = c' := (List.cons.inj e2).1
      rw [if_neg (fun y => by rw [a6] at y; have := (List.cons.inj y).1; rw [this] at hc'; exact a8 hc'), if_neg (fun y => by rw [a5] at y; have := (List.cons.inj y).1; rw [this] at hc'; exact a7 hc'), if_pos hc']
      exact z
  · have na := none_all hn
    rw [if_neg (fun y => na _ a2 (by rw [a4]; exact y)), if_neg (fun y => na _ a1 (by rw [a3]; exact y)), if_neg (fun y => na _ (one_sgn c y) (by
      show (c :: r).take 1 = [c]
      rfl))]
    rcases hor with ⟨_, e⟩ | ⟨hw, _⟩ | ⟨hw, _⟩
    · rw [e]
      show ("" : Str).length = 0
      decide +kernel
    · exact absurd hw0 hw
    · exact absurd hw0 hw
def spTe : Sp := fun vs H Q _ => ∃ (t : Str) (a : Nat), vs = [.str t, .int a] ∧ t.length ≤ 10000 ∧ a < t.length ∧ Q (.int ((a + (tokOf (t.cps.toList.drop a)).2.length : Nat) : Int)) H
theorem wl_false {l : List Nat} : ∀ i, i < wlen false l → ∃ c, l[i]? = some c ∧ okW false c = true := by
  induction l with
  | nil => intro i h; exact absurd h (Nat.not_lt_zero _)
  | cons c r ih =>
    intro i h
    unfold wlen at h
    by_cases z : okW false c = true
    · rw [if_pos z] at h
      cases i with
      | zero => exact ⟨c, rfl, z⟩
      | succ i =>
        obtain ⟨d, h1, h2⟩ := ih i (by omega)
        exact ⟨d, h1, h2⟩
    · rw [if_neg z] at h
      exact absurd h (Nat.not_lt_zero _)
theorem wl_stop {l : List Nat} : ∀ c, l[wlen false l]? = some c → okW false c = false := by
  induction l with
  | nil => intro c h; cases h
  | cons d r ih =>
    intro c h
    unfold wlen at h
    by_cases z : okW false d = true
    · rw [if_pos z] at h
      exact ih c h
    · rw [if_neg z] at h
      cases h
      simpa using z
theorem cal_te (T : Txt K mg w P) : C8.Cal P w K mg base 1 "_law_token_end" spTe [] := by
  obtain ⟨f, fd, F, hm, hb⟩ := T.h_law_token_end
  refine ⟨f, fd, _, [], F.ok sc_law_token_end (fun vs H Q E h => ?_) (fun cdv A outer s H vs Q E hr h => ?_), hm, F.kp, hb, .nil⟩
  · obtain ⟨t, a, rfl, _⟩ := h
    rfl
  · obtain ⟨t, a, rfl, hl, ha, q⟩ := h
    refine ⟨_, (pss_cons
      (ps_set (i := 2) sc_law_token_end.nd rfl (Or.inl rfl) pe_str)
      (pss_cons
      (ps_set (i := 3) sc_law_token_end.nd rfl (Or.inl rfl) pe_str)
      (pss_cons
      (ps_if (pt_cmpR op_in_sign (pe_ix ix_str (pv 0) (pv 1) (fun _ _ => rfl)) (pv 2) (by rfl)) (pss_cons
      (ps_set (i := 4) sc_law_token_end.nd rfl (Or.inl rfl) (pv 1))
      (pss_cons
      (ps_for PassesOwn.never rfl (pi_range1 (by rfl) T.z_range (pa_cons (pe_callB call_len_str (by rfl) T.z_len PySem.boot_len (pa_cons (pv 0) pa_nil)) pa_nil)) (pg_name (i := 5) sc_law_token_end.nd rfl (.inl rfl)) (pss_one
      (ps_if (PW.pt (pw_and (pt_cmpR op_lt (pv 4) (pe_callB call_len_str (by rfl) T.z_len PySem.boot_len (pa_cons (pv 0) pa_nil)) (nomark _)) (pw_and1 (PW.pt (pw_or (pt_cmpR op_in_sign (pe_ix ix_str (pv 0) (pv 4) (fun _ _ => rfl)) (pv 2) (by rfl)) (pw_or1 (pt_cmpR op_in_sign (pe_ix ix_str (pv 0) (pv 4) (fun _ _ => rfl)) (pv 3) (by rfl)))))))) (pss_one
      (ps_set (i := 4) sc_law_token_end.nd rfl (Or.inl rfl) (pe_op op_add (pv 4) pe_int))) pss_nil)))
      (pss_one
      (ps_ret (pv 4))))) pss_nil)
      (pss_cons
      (ps_if (pt_cmpR op_eq (pe_slice sl_str (pv 0) (po_some (pv 1)) (po_some (pe_op op_add (pv 1) pe_int))) pe_str (nomark _)) (pss_one
      (ps_ret (pe_op op_add (pv 1) pe_int))) pss_nil)
      (pss_cons
      (ps_if (pt_cmpR op_eq (pe_slice sl_str (pv 0) (po_some (pv 1)) (po_some (pe_op op_add (pv 1) pe_int))) pe_str (nomark _)) (pss_one
      (ps_ret (pe_op op_add (pv 1) pe_int))) pss_nil)
      (pss_cons
      (ps_if (pt_cmpR op_in_sign (pe_ix ix_str (pv 0) (pv 1) (fun _ _ => rfl)) pe_str (by rfl)) (pss_one
      (ps_ret (pe_op op_add (pv 1) pe_int))) pss_nil)
      (pss_one
      (ps_ret (pv 1))))))))), ?_⟩
    have hz : t.length ≤ sizeLine := Nat.le_trans hl (by decide)
    have htl := str_len t
    obtain ⟨c, hc⟩ : ∃ c, t.cps.toList[a]? = some c := ⟨_, List.getElem?_eq_getElem (by omega)⟩
    have hat : atI t.cps.toList (a : Int) = some c := atI_nat hc
    have hdr : t.cps.toList.drop a = c :: t.cps.toList.drop (a + 1) := by
      rw [List.drop_eq_getElem_cons (by omega)]
      rw [List.getElem?_eq_getElem (by omega)] at hc
      rw [Option.some.inj hc]
    rw [hdr] at q
    refine ⟨_, rfl, _, rfl, t, (a : Int), c, rfl, rfl, hz, hat, _, rfl, c, tLC, rfl, rfl, _, rfl, ?_⟩
    by_cases k1 : c ∈ tLC.cps.toList
    · refine iteB_t (decide_eq_true k1) ?_
      rw [tl_low k1, ← hdr] at q
      generalize hw : wlen false (t.cps.toList.drop a) = W at q
      have hW : a + W ≤ t.length := by
        have := wlen_le false (t.cps.toList.drop a)
        rw [List.length_drop] at this
        omega
      refine ⟨_, rfl, ?_⟩
      refine ⟨_, rfl, t, rfl, hz, _, rfl, by omega, Int.lt_of_le_of_lt (show (t.length : Int) ≤ 10000 by omega) (by decide), for_range (lo := 0) (n := ((t.length : Nat) : Int).toNat) (fun i σ H' => ∃ v5 : Option V, σ = [some (.str t), some (.int a), some (.str tLC), some (.str tDG), some (.int ((a + min i W : Nat) : Int)), v5] ∧ H' = H) ⟨none, by rw [Nat.zero_min, Nat.add_zero]; rfl, rfl⟩ ?_ ?_⟩
      · rintro i σ H' hi ⟨v5, rfl, rfl⟩
        have nx : ∀ {b : Nat}, b = a + min (i + 1) W → ∃ v5 : Option V, [some (V.str t), some (.int a), some (.str tLC), some (.str tDG), some (.int (b : Int)), some (.int ((0 : Int) + (i : Nat)))] = [some (V.str t), some (.int a), some (.str tLC), some (.str tDG), some (.int ((a + min (i + 1) W : Nat) : Int)), v5] ∧ H' = H' := fun {b} e => by subst e; exact ⟨_, rfl, rfl⟩
        refine ⟨_, rfl, _, rfl, t, rfl, hz, _, _, rfl, rfl, _, rfl, ?_⟩
        by_cases hlt : a + min i W < t.length
        · refine iteB_t (decide_eq_true (by omega)) ?_
          obtain ⟨d, hd⟩ : ∃ d, t.cps.toList[a + min i W]? = some d := ⟨_, List.getElem?_eq_getElem (by omega)⟩
          have hat2 : atI t.cps.toList ((a + min i W : Nat) : Int) = some d := atI_nat hd
          have hd2 : (t.cps.toList.drop a)[min i W]? = some d := by rw [List.getElem?_drop]; exact hd
          have stop : okW false d = false → W ≤ i := fun z => by
            refine Nat.le_of_not_lt fun y => ?_
            rw [Nat.min_eq_left (Nat.le_of_lt y)] at hd2
            obtain ⟨d', e1, e2⟩ := wl_false i (by rw [hw]; exact y)
            rw [hd2] at e1
            cases e1
            rw [z] at e2
            cases e2
          have go : okW false d = true → i < W := fun z => by
            refine Nat.lt_of_not_le fun y => ?_
            rw [Nat.min_eq_right y, ← hw] at hd2
            rw [wl_stop d hd2] at z
            cases z
          refine ⟨_, rfl, _, rfl, t, _, d, rfl, rfl, hz, hat2, _, rfl, d, tLC, rfl, rfl, _, rfl, ?_⟩
          by_cases k2 : d ∈ tLC.cps.toList
          · have := go (by unfold okW; rw [decide_eq_true k2]; rfl)
            refine iteB_t (decide_eq_true k2) (iteB_t rfl ?_)
            exact ⟨_, rfl, _, _, rfl, rfl, nx (b := a + min i W + 1) (by omega)⟩
          · refine iteB_f (decide_eq_false k2) ?_
            refine ⟨_, rfl, _, rfl, t, _, d, rfl, rfl, hz, hat2, _, rfl, d, tDG, rfl, rfl, _, rfl, ?_⟩
            by_cases k3 : d ∈ tDG.cps.toList
            · have := go (by unfold okW; rw [decide_eq_true k3]; simp)
              refine iteB_t (decide_eq_true k3) ?_
              exact ⟨_, rfl, _, _, rfl, rfl, nx (b := a + min i W + 1) (by omega)⟩
            · have := stop (by unfold okW; rw [decide_eq_false k2, decide_eq_false k3]; simp)
              exact iteB_f (decide_eq_false k3) (nx (by omega))
        · exact iteB_f (decide_eq_false (by omega)) (iteB_f rfl (nx (by omega)))
      · rintro σ H' ⟨v5, rfl, rfl⟩
        refine ⟨_, rfl, ?_⟩
        rw [Int.toNat_natCast, Nat.min_eq_right (show W ≤ t.length by omega)]
        exact q
    · refine iteB_f (decide_eq_false k1) ?_
      rw [tl_high k1, ← hdr] at q
      have lit : ∀ n : Nat, (a : Int) + (n : Int) = ((a + n : Nat) : Int) := fun n => by omega
      refine ⟨_, rfl, _, rfl, _, rfl, _, rfl, _, _, rfl, rfl, _, rfl, t, rfl, hz, rfl, _, rfl, ?_⟩
      rw [show ((a : Int) + 2) = ((a + 2 : Nat) : Int) from rfl, cutS_mid t a 2 (by omega), mk_eq]
      by_cases k2 : (t.cps.toList.drop a).take 2 = ("->" : Str).cps.toList
      · rw [if_pos k2] at q
        exact iteB_t (decide_eq_true k2) ⟨_, rfl, _, _, rfl, rfl, q⟩
      rw [if_neg k2] at q
      refine iteB_f (decide_eq_false k2) ?_
      refine ⟨_, rfl, _, rfl, _, rfl, _, rfl, _, _, rfl, rfl, _, rfl, t, rfl, hz, rfl, _, rfl, ?_⟩
      rw [show ((a : Int) + 3) = ((a + 3 : Nat) : Int) from rfl, cutS_mid t a 3 (by omega), mk_eq]
      by_cases k3 : (t.cps.toList.drop a).take 3 = ("<->" : Str).cps.toList
      · rw [if_pos k3] at q
        exact iteB_t (decide_eq_true k3) ⟨_, rfl, _, _, rfl, rfl, q⟩
      rw [if_neg k3] at q
      refine iteB_f (decide_eq_false k3) ?_
      refine ⟨_, rfl, _, rfl, t, (a : Int), c, rfl, rfl, hz, hat, c, oneS, rfl, rfl, _, rfl, ?_⟩
      by_cases k4 : c ∈ oneS.cps.toList
      · rw [if_pos k4] at q
        exact iteB_t (decide_eq_true k4) ⟨_, rfl, _, _, rfl, rfl, q⟩
      · rw [if_neg k4] at q
        exact iteB_f (decide_eq_false k4) ⟨_, rfl, q⟩
/-- the law's tokens as they lie -/
def LkA (H : Hp) (as : List Addr) (ts : List Tk) : Prop := as.length = ts.length ∧ ∀ (i : Nat) (a : Addr), as[i]? = some a → ∃ t : Tk, ts[i]? = some t ∧ H a = some (.tup [.str t.c, .int (t.p : Int)])
theorem LkA.tp {H H' : Hp} {as : List Addr} {ts : List Tk} (s : ∀ b xs, H b = some (.tup xs) → H' b = some (.tup xs)) (h : LkA H as ts) : LkA H' as ts := ⟨h.1, fun i a e => by
  obtain ⟨t, h1, h2⟩ := h.2 i a e
  exact ⟨t, h1, s _ _ h2⟩⟩
theorem LkA.snoc {H : Hp} {as : List Addr} {ts : List Tk} {a : Addr} {t : Tk} (h : LkA H as ts) (e : H a = some (.tup [.str t.c, .int (t.p : Int)])) : LkA H (as ++ [a]) (ts ++ [t]) := by
  refine ⟨by rw [List.length_append, List.length_append, h.1]; rfl, fun i x hx => ?_⟩
  rcases snocg hx with ⟨_, y⟩ | ⟨y1, y2⟩
  · obtain ⟨t', h1, h2⟩ := h.2 i x y
    exact ⟨t', by rw [List.getElem?_append_left (lt_of_get h1)]; exact h1, h2⟩
  · subst y2
    exact ⟨t, by rw [List.getElem?_append_right (by rw [y1, h.1]; exact Nat.le_refl _), y1, h.1, Nat.sub_self]; rfl, e⟩
def spTo : Sp := fun vs H Q _ => ∃ (t : Str) (ts : List Tk), vs = [.str t] ∧ t.length ≤ 10000 ∧ Tks t.cps.toList 0 ts ∧ ∀ (H' : Hp) (p : Addr) (as : List Addr), Same H H' → H' p = some (.lst (as.map V.ref)) → LkA H' as ts → Q (.ref p) H'
theorem cut_emp (t : Str) (a : Nat) (h : a ≤ t.length) : cutS t (some (a : Int)) (some (a : Int)) = "" := by
  have := cutS_mid t a 0 h
  rw [Nat.add_zero] at this
  rw [this, List.take_zero]
  decide +kernel
theorem tok_cut {c : Nat} {r : List Nat} : (⟨((c :: r).take (tokOf (c :: r)).2.length).toArray⟩ : Str) = (tokOf (c :: r)).2 := by
  rcases tok_kind (cs := c :: r) with ⟨s, hs, e, e2⟩ | ⟨_, ⟨hw, e⟩ | ⟨hw, d, e⟩ | ⟨hw, d, e⟩⟩
  · rw [e]
    show (⟨((c :: r).take s.length).toArray⟩ : Str) = s
    rw [e2, Array.toArray_toList]
  · rw [e]
    show (⟨((c :: r).take ("" : Str).length).toArray⟩ : Str) = ""
    rw [show ("" : Str).length = 0 by decide +kernel, List.take_zero]
    decide +kernel
  · rw [e]
    show (⟨((c :: r).take (⟨((c :: r).take (wlen true (c :: r))).toArray⟩ : Str).length).toArray⟩ : Str) = _
    rw [arr_len, List.length_take, Nat.min_eq_left (wlen_le _ _)]
  · rw [e]
    show (⟨((c :: r).take (⟨((c :: r).take (wlen true (c :: r))).toArray⟩ : Str).length).toArray⟩ : Str) = _
    rw [arr_len, List.length_take, Nat.min_eq_left (wlen_le _ _)]
theorem tok_bad {c : Nat} {r : List Nat} : (tokOf (c :: r)).1 = "bad" ↔ (tokOf (c :: r)).2.length = 0 := by
  constructor
  · intro h
    rcases tok_kind (cs := c :: r) with ⟨s, hs, e, _⟩ | ⟨_, ⟨_, e⟩ | ⟨_, d, e⟩ | ⟨_, d, e⟩⟩
    · rw [e] at h
      exact absurd h (k_sgn s hs).2.2.1
    · rw [e]
      show ("" : Str).length = 0
      decide +kernel
    · rw [e] at h
      exact absurd h (k_res _ (res_mem d)).2.1
    · rw [e] at h
      exact absurd h (show ("name" : Str) ≠ "bad" by decide +kernel)
  · intro h
    by_cases c : (tokOf (c :: r)).1 = "bad"
    · exact c
    · have := (tok_pos c).1
      omega
theorem cal_to (T : Txt K mg w P) : C8.Cal P w K mg base 2 "_law_tokens" spTo [] := by
  have C_law_token_end : C8.Cal P w K mg base 1 "_law_token_end" spTe [] := cal_te T
  obtain ⟨f, fd, F, hm, hb⟩ := T.h_law_tokens
  refine ⟨f, fd, _, [], F.ok sc_law_tokens (fun vs H Q E h => ?_) (fun cdv A outer s H vs Q E hr h => ?_), hm, F.kp, hb, .nil⟩
  · obtain ⟨t, ts, rfl, _⟩ := h
    rfl
  · obtain ⟨t, ts0, rfl, hl, htk, q⟩ := h
    refine ⟨_, (pss_cons
      (ps_set (i := 1) sc_law_tokens.nd rfl (Or.inl rfl) (pe_lst pa_nil))
      (pss_cons
      (ps_set (i := 2) sc_law_tokens.nd rfl (Or.inl rfl) pe_int)
      (pss_cons
      (ps_for PassesOwn.never rfl (pi_range1 (by rfl) T.z_range (pa_cons (pe_callB call_len_str (by rfl) T.z_len PySem.boot_len (pa_cons (pv 0) pa_nil)) pa_nil)) (pg_name (i := 3) sc_law_tokens.nd rfl (.inl rfl)) (pss_one
      (ps_if (PW.pt (pw_and (pt_cmpR op_lt (pv 2) (pe_callB call_len_str (by rfl) T.z_len PySem.boot_len (pa_cons (pv 0) pa_nil)) (nomark _)) (pw_and1 (pt_cmpR op_eq (pe_ix ix_str (pv 0) (pv 2) (fun _ _ => rfl)) pe_str (nomark _))))) (pss_one
      (ps_set (i := 2) sc_law_tokens.nd rfl (Or.inl rfl) (pe_op op_add (pv 2) pe_int))) (pss_one
      (ps_if (pt_cmpR op_lt (pv 2) (pe_callB call_len_str (by rfl) T.z_len PySem.boot_len (pa_cons (pv 0) pa_nil)) (nomark _)) (pss_cons
      (ps_set (i := 4) sc_law_tokens.nd rfl (Or.inl rfl) (C8.pe_c C_law_token_end hr (by decide) (by rfl) (pa_cons (pv 0) (pa_cons (pv 2) pa_nil))))
      (pss_cons
      (ps_expr (pe_bm PySem.F.plainAttrs_list PySem.F.slot_list_append PySem.F.type_list_append mt_append (pv 1) (pa_cons (pe_tup (pa_cons (pe_slice sl_str (pv 0) (po_some (pv 2)) (po_some (pv 4))) (pa_cons (pv 2) pa_nil))) pa_nil)))
      (pss_cons
      (ps_if (pt_cmpR op_eq (pv 4) (pv 2) (nomark _)) (pss_one
      (ps_ret (pv 1))) pss_nil)
      (pss_one
      (ps_set (i := 2) sc_law_tokens.nd rfl (Or.inl rfl) (pv 4)))))) pss_nil)))))
      (pss_cons
      (ps_expr (pe_bm PySem.F.plainAttrs_list PySem.F.slot_list_append PySem.F.type_list_append mt_append (pv 1) (pa_cons (pe_tup (pa_cons pe_str (pa_cons (pe_callB call_len_str (by rfl) T.z_len PySem.boot_len (pa_cons (pv 0) pa_nil)) pa_nil))) pa_nil)))
      (pss_one
      (ps_ret (pv 1))))))), ?_⟩
    have big : (10001 : Nat) < sizeLine := by decide
    have hz : t.length ≤ sizeLine := by omega
    have htl := str_len t
    refine ⟨Nat.zero_le _, fun D nD => ?_⟩
    generalize hX : upd H D _ = H1; obtain ⟨sH1, eD⟩ := nw nD hX; clear hX
    refine ⟨_, rfl, t, rfl, hz, _, rfl, by omega, Int.lt_of_le_of_lt (show (t.length : Int) ≤ 10000 by omega) (by decide), for_range (lo := 0) (n := ((t.length : Nat) : Int).toNat) (fun i σ H' => ∃ (v3 v4 : Option V) (a : Nat) (as : List Addr) (ts : List Tk), σ = [some (.str t), some (.ref D), some (.int (a : Int)), v3, v4] ∧ i ≤ a ∧ a ≤ t.length ∧ Same H H' ∧ H' D = some (.lst (as.map V.ref)) ∧ LkA H' as ts ∧ ts.length ≤ a ∧ ∀ rem, Tks (t.cps.toList.drop a) a rem → ts0 = ts ++ rem)
      ⟨none, none, 0, [], [], rfl, Nat.le_refl _, Nat.zero_le _, sH1, eD, ⟨rfl, fun i a e => by (cases e)⟩, Nat.le_refl _, fun rem h => tks_det h htk⟩ ?_ ?_⟩
    · rintro i σ H2 hi ⟨v3, v4, a, as, ts, rfl, hia, ha, s2, e2, k2, l2, p2⟩
      refine ⟨_, rfl, _, rfl, t, rfl, hz, _, _, rfl, rfl, _, rfl, ?_⟩
      by_cases hlt : a < t.length
      · obtain ⟨c, hc⟩ : ∃ c, t.cps.toList[a]? = some c := ⟨_, List.getElem?_eq_getElem (by rw [htl]; exact hlt)⟩
        have hat : atI t.cps.toList (a : Int) = some c := atI_nat hc
        have hdr : t.cps.toList.drop a = c :: t.cps.toList.drop (a + 1) := by
          rw [List.drop_eq_getElem_cons (by rw [htl]; exact hlt)]
          rw [List.getElem?_eq_getElem (by rw [htl]; exact hlt)] at hc
          rw [Option.some.inj hc]
        refine iteB_t (decide_eq_true (by omega)) ?_
        refine ⟨_, rfl, _, rfl, t, (a : Int), c, rfl, rfl, hz, hat, rfl, _, rfl, ?_⟩
        rw [one_sp]
        by_cases csp : c = 32
        · refine iteB_t (decide_eq_true csp) ?_
          exact ⟨_, rfl, _, _, rfl, rfl, _, _, a + 1, as, ts, rfl, by omega, by omega, s2, e2, k2, by omega, fun rem h => p2 rem (by rw [hdr, csp]; exact .sp h)⟩
        · refine iteB_f (decide_eq_false csp) ?_
          refine ⟨_, rfl, _, rfl, t, rfl, hz, _, _, rfl, rfl, _, rfl, iteB_t (decide_eq_true (by omega)) ?_⟩
          refine ⟨_, rfl, _, rfl, t, a, rfl, hl, hlt, ?_⟩
          have hcut : cutS t (some (a : Int)) (some ((a + (tokOf (t.cps.toList.drop a)).2.length : Nat) : Int)) = (tokOf (t.cps.toList.drop a)).2 := by
            rw [cutS_mid t a _ ha, hdr]
            exact tok_cut
          have hbad : (tokOf (t.cps.toList.drop a)).1 = "bad" ↔ (tokOf (t.cps.toList.drop a)).2.length = 0 := by rw [hdr]; exact tok_bad
          have hle : a + (tokOf (t.cps.toList.drop a)).2.length ≤ t.length := by
            by_cases z : (tokOf (t.cps.toList.drop a)).1 = "bad"
            · rw [hbad.mp z]; omega
            · have := (tok_pos z).2
              rw [List.length_drop] at this
              omega
          have hbd : (tokOf (t.cps.toList.drop a)).1 = "bad" → Tks (t.cps.toList.drop a) a [⟨"bad", (tokOf (t.cps.toList.drop a)).2, a⟩] := fun e => by
            rw [hdr] at e ⊢
            exact .bad csp e
          have hgo : (tokOf (t.cps.toList.drop a)).1 ≠ "bad" → ∀ rem, Tks (t.cps.toList.drop (a + (tokOf (t.cps.toList.drop a)).2.length)) (a + (tokOf (t.cps.toList.drop a)).2.length) rem → Tks (t.cps.toList.drop a) a (⟨(tokOf (t.cps.toList.drop a)).1, (tokOf (t.cps.toList.drop a)).2, a⟩ :: rem) := fun e rem h => by
            rw [← List.drop_drop] at h
            rw [hdr] at e h ⊢
            exact .tok csp e h
          generalize (tokOf (t.cps.toList.drop a)).1 = k at hbd hgo hbad
          generalize (tokOf (t.cps.toList.drop a)).2 = ch at hbd hgo hcut hbad hle ⊢
          refine ⟨_, rfl, .inl ⟨rfl, _, .of e2⟩, _, rfl, _, rfl, _, rfl, _, rfl, _, rfl, t, rfl, hz, _, rfl, by show 2 ≤ sizeLine; decide, fun b nb => ?_⟩
          rw [hcut]
          generalize hX : upd H2 b _ = H3; obtain ⟨sH3, eb⟩ := nw nb hX; clear hX
          have e3 := sH3 _ _ e2
          have k3 := k2.tp (H' := H3) (fun x xs e => sH3 _ _ e)
          have s3 := s2.trans sH3
          refine ⟨D, _, _, rfl, rfl, e3, by rw [List.length_map, k2.1]; omega, ?_⟩
          have tpk : ∀ x xs, H3 x = some (.tup xs) → (upd H3 D (.lst (as.map V.ref ++ [.ref b]))) x = some (.tup xs) := fun x xs e => by rw [upd_ne (fun z => by rw [z, e3] at e; cases e)]; exact e
          have k5 := (k3.tp tpk).snoc (t := ⟨k, ch, a⟩) (tpk _ _ eb)
          have e5 : (upd H3 D (.lst (as.map V.ref ++ [.ref b]))) D = some (.lst ((as ++ [b]).map V.ref)) := by rw [upd_same, List.map_append]; rfl
          have s5 : Same H (upd H3 D (.lst (as.map V.ref ++ [.ref b]))) := fun x o e => by rw [upd_ne (ne_of_none e nD)]; exact s3 _ _ e
          generalize upd H3 D (.lst (as.map V.ref ++ [.ref b])) = H5 at k5 e5 s5 ⊢
          refine ⟨_, rfl, _, rfl, rfl, _, rfl, ?_⟩
          by_cases hk : k = "bad"
          · have h0 := hbad.mp hk
            refine iteB_t (decide_eq_true (by rw [h0]; rfl)) ⟨_, rfl, q H5 D _ s5 e5 ?_⟩
            rw [p2 _ (hbd hk), ← hk]
            exact k5
          · have h0 : ch.length ≠ 0 := fun z => hk (hbad.mpr z)
            refine iteB_f (decide_eq_false fun z => by have := V.int.inj z; omega) ⟨_, rfl, ?_⟩
            exact ⟨_, _, a + ch.length, as ++ [b], ts ++ [⟨k, ch, a⟩], rfl, by omega, hle, s5, e5, k5, by rw [List.length_append, List.length_singleton]; omega, fun rem h => by rw [List.append_assoc]; exact p2 _ (hgo hk rem h)⟩
      · have hae : a = t.length := by omega
        refine iteB_f (decide_eq_false (by omega)) (iteB_f rfl ?_)
        refine ⟨_, rfl, _, rfl, t, rfl, hz, _, _, rfl, rfl, _, rfl, iteB_f (decide_eq_false (by omega)) ?_⟩
        rw [Int.toNat_natCast] at hi
        exact ⟨_, v4, a, as, ts, rfl, by omega, ha, s2, e2, k2, l2, p2⟩
    · rintro σ H2 ⟨v3, v4, a, as, ts, rfl, hia, ha, s2, e2, k2, l2, p2⟩
      rw [Int.toNat_natCast] at hia
      obtain rfl : a = t.length := by omega
      refine ⟨_, rfl, .inl ⟨rfl, _, .of e2⟩, _, rfl, t, rfl, hz, by show 2 ≤ sizeLine; decide, fun b nb => ?_⟩
      generalize hX : upd H2 b _ = H3; obtain ⟨sH3, eb⟩ := nw nb hX; clear hX
      have e3 := sH3 _ _ e2
      refine ⟨D, _, _, rfl, rfl, e3, by rw [List.length_map, k2.1]; omega, ?_⟩
      have tpk : ∀ x xs, H3 x = some (.tup xs) → (upd H3 D (.lst (as.map V.ref ++ [.ref b]))) x = some (.tup xs) := fun x xs e => by rw [upd_ne (fun z => by rw [z, e3] at e; cases e)]; exact e
      have k5 := ((k2.tp (H' := H3) (fun x xs e => sH3 _ _ e)).tp tpk).snoc (t := ⟨"end", "", t.length⟩) (tpk _ _ eb)
      refine ⟨_, rfl, q _ D (as ++ [b]) (fun x o e => by rw [upd_ne (ne_of_none e nD)]; exact sH3 _ _ (s2 _ _ e)) (by rw [upd_same, List.map_append]; rfl) ?_⟩
      rw [p2 [⟨"end", "", t.length⟩] (by rw [List.drop_of_length_le (by omega)]; exact .nil)]
      exact k5
def spIn : Sp := fun vs H Q _ => ∃ s : Str, vs = [.str s] ∧ s.length ≤ 10000 ∧ ∀ H', Same H H' → Q (.bl (isNm s)) H'
theorem sz5 : 5 ≤ sizeLine := by decide
theorem inqT {H : Hp} {p : Addr} {ss : List Str} {k : Str} {Q : VK} (h : SqT K H p (ss.map V.str)) (q : Q (.bl (decide (k ∈ ss))) H) : rIn K false (.str k) (.ref p) H Q :=
  ⟨p, _, rfl, .inr h, rfl, L2.flat_strs ss, by rw [in_strs]; exact q⟩
theorem ninqT {H : Hp} {p : Addr} {ss : List Str} {k : Str} {Q : VK} (h : SqT K H p (ss.map V.str)) (q : Q (.bl (!decide (k ∈ ss))) H) : rIn K true (.str k) (.ref p) H Q :=
  ⟨p, _, rfl, .inr h, rfl, L2.flat_strs ss, by rw [in_strs]; exact q⟩
theorem cal_in (T : Txt K mg w P) : C8.Cal P w K mg base 1 "_law_is_name" spIn [] := by
  obtain ⟨f, fd, F, hm, hb⟩ := T.h_law_is_name
  refine ⟨f, fd, _, [], F.ok sc_law_is_name (fun vs H Q E h => ?_) (fun cdv A outer s H vs Q E hr h => ?_), hm, F.kp, hb, .nil⟩
  · obtain ⟨s, rfl, _⟩ := h
    rfl
  · obtain ⟨t, rfl, hl, q⟩ := h
    refine ⟨_, (pss_cons
      (ps_if (pt_cmpR (op_inK (K := K) rfl) (pv 0) (pe_tup (pa_cons pe_str (pa_cons pe_str (pa_cons pe_str (pa_cons pe_str (pa_cons pe_str pa_nil)))))) (by rfl)) (pss_one
      (ps_ret pe_bl)) pss_nil)
      (pss_one
      (ps_ret (pe_cmpR op_in_sign (pe_ix ix_str (pv 0) pe_int (fun _ _ => rfl)) pe_str (by rfl))))), ?_⟩
    have hz : t.length ≤ sizeLine := Nat.le_trans hl (by decide)
    refine ⟨_, rfl, sz5, fun p np => ?_⟩
    have s1 := same_new (o := .tup ((["true", "false", "exists", "forall", ""] : List Str).map V.str)) np
    refine inqT (ss := ["true", "false", "exists", "forall", ""]) (.of upd_same) ⟨_, rfl, ?_⟩
    by_cases c : t ∈ (["true", "false", "exists", "forall", ""] : List Str)
    · refine iteB_t (decide_eq_true c) ?_
      have e : isNm t = false := decide_eq_false fun z => by
        by_cases y : t ∈ resL
        · exact z.2 y
        · have : t = "" := by
            simp only [List.mem_cons, List.not_mem_nil, or_false] at c y
            rcases c with c | c | c | c | c
            · exact absurd (.inl c) y
            · exact absurd (.inr (.inl c)) y
            · exact absurd (.inr (.inr (.inl c))) y
            · exact absurd (.inr (.inr (.inr c))) y
            · exact c
          exact hd_emp (this ▸ z.1)
      have := q _ s1
      rw [e] at this
      exact this
    · refine iteB_f (decide_eq_false c) ?_
      have hne : t ≠ "" := fun z => c (by rw [z]; simp)
      have hnr : ¬ t ∈ resL := fun z => c (by
        simp only [List.mem_cons, List.not_mem_nil, or_false] at z ⊢
        rcases z with z | z | z | z
        · exact .inl z
        · exact .inr (.inl z)
        · exact .inr (.inr (.inl z))
        · exact .inr (.inr (.inr (.inl z))))
      cases hc : t.cps.toList with
      | nil =>
        exfalso
        apply hne
        have : t = ⟨t.cps.toList.toArray⟩ := by rw [Array.toArray_toList]
        rw [this, hc]
        decide +kernel
      | cons d r =>
        have hat : atI t.cps.toList (0 : Int) = some d := atI_nat (j := 0) (by rw [hc]; rfl)
        refine ⟨_, rfl, t, (0 : Int), d, rfl, rfl, hz, hat, d, tLC, rfl, rfl, ?_⟩
        have e : isNm t = decide (d ∈ tLC.cps.toList) := by
          unfold isNm
          by_cases y : d ∈ tLC.cps.toList
          · rw [decide_eq_true y, decide_eq_true]
            exact ⟨⟨d, r, hc, y⟩, hnr⟩
          · rw [decide_eq_false y, decide_eq_false]
            rintro ⟨⟨d', r', h1, h2⟩, _⟩
            rw [hc] at h1
            cases h1
            exact y h2
        rw [← e]
        exact q _ s1
/-- what the law's look at the beginning tells: go on at k, or it stops at p -/
def BgOk (ts : List Tk) (k : Nat) (p : Int) : Prop := (p = -1 ∧ k ≤ ts.length ∧ pf ts = fa true 0 (ts.drop k)) ∨ (0 ≤ p ∧ pf ts = p)
def spBg : Sp := fun vs H Q _ => ∃ (a : Addr) (as : List Addr) (ts : List Tk) (n : Nat), vs = [.ref a] ∧ H a = some (.lst (as.map V.ref)) ∧ LkA H as ts ∧ WT ts ∧ (∀ t ∈ ts, TkK n t ∧ t.c.length ≤ 10000) ∧ ts.length ≤ 10001 ∧
  ∀ (H' : Hp) (b : Addr) (k : Nat) (p : Int), Same H H' → H' b = some (.tup [.int (k : Int), .int p]) → BgOk ts k p → Q (.ref b) H'
theorem cal_bg (T : Txt K mg w P) : C8.Cal P w K mg base 2 "_law_begin" spBg [] := by
  have C_law_is_name : C8.Cal P w K mg base 1 "_law_is_name" spIn [] := cal_in T
  obtain ⟨f, fd, F, hm, hb⟩ := T.h_law_begin
  refine ⟨f, fd, _, [], F.ok sc_law_begin (fun vs H Q E h => ?_) (fun cdv A outer s H vs Q E hr h => ?_), hm, F.kp, hb, .nil⟩
  · obtain ⟨a, as, ts, n, rfl, _⟩ := h
    rfl
  · obtain ⟨a, as, ts, n, rfl, ha, hk, hw, ht, hl, q⟩ := h
    refine ⟨_, (pss_cons
      (ps_if (pt_cmpR (op_notInK (K := K) rfl) (pe_ix (ix_tupK (K := K) rfl) (pe_ix (ix_listK (K := K) rfl) (pv 0) pe_int (fun _ _ => rfl)) pe_int (fun _ _ => rfl)) (pe_tup (pa_cons pe_str (pa_cons pe_str pa_nil))) (by rfl)) (pss_one
      (ps_ret (pe_tup (pa_cons pe_int (pa_cons (pe_un un_neg pe_int) pa_nil))))) pss_nil)
      (pss_cons
      (ps_for PassesOwn.never rfl (pi_range2 (by rfl) T.z_range (pa_cons pe_int (pa_cons (pe_callB (call_lenK (K := K) rfl) (by rfl) T.z_len PySem.boot_len (pa_cons (pv 0) pa_nil)) pa_nil))) (pg_name (i := 1) sc_law_begin.nd rfl (.inl rfl)) (C8.pss_cut
      (ps_if (PW.pt (pw_and (pt_cmpR op_eq (pe_op op_mod (pv 1) pe_int) pe_int (nomark _)) (pw_and1 (pt_not (pt_val (C8.pe_c C_law_is_name hr (by decide) (by rfl) (pa_cons (pe_ix (ix_tupK (K := K) rfl) (pe_ix (ix_listK (K := K) rfl) (pv 0) (pv 1) (fun _ _ => rfl)) pe_int (fun _ _ => rfl)) pa_nil))))))) (pss_one
      (ps_ret (pe_tup (pa_cons (pv 1) (pa_cons (pe_ix (ix_tupK (K := K) rfl) (pe_ix (ix_listK (K := K) rfl) (pv 0) (pv 1) (fun _ _ => rfl)) pe_int (fun _ _ => rfl)) pa_nil))))) pss_nil)
      (C8.pss_cut
      (ps_if (PW.pt (pw_and (pt_cmpR op_eq (pe_op op_mod (pv 1) pe_int) pe_int (nomark _)) (pw_and1 (pt_cmpR op_eq (pe_ix (ix_tupK (K := K) rfl) (pe_ix (ix_listK (K := K) rfl) (pv 0) (pv 1) (fun _ _ => rfl)) pe_int (fun _ _ => rfl)) pe_str (nomark _))))) (pss_one
      (ps_ret (pe_tup (pa_cons (pe_op op_add (pv 1) pe_int) (pa_cons (pe_un un_neg pe_int) pa_nil))))) pss_nil)
      (pss_one
      (ps_if (PW.pt (pw_and (pt_cmpR op_eq (pe_op op_mod (pv 1) pe_int) pe_int (nomark _)) (pw_and1 (pt_cmpR op_ne (pe_ix (ix_tupK (K := K) rfl) (pe_ix (ix_listK (K := K) rfl) (pv 0) (pv 1) (fun _ _ => rfl)) pe_int (fun _ _ => rfl)) pe_str (nomark _))))) (pss_one
      (ps_ret (pe_tup (pa_cons (pv 1) (pa_cons (pe_ix (ix_tupK (K := K) rfl) (pe_ix (ix_listK (K := K) rfl) (pv 0) (pv 1) (fun _ _ => rfl)) pe_int (fun _ _ => rfl)) pa_nil))))) pss_nil)))))
      (pss_one
      (ps_ret (pe_tup (pa_cons pe_int (pa_cons (pe_ix (ix_tupK (K := K) rfl) (pe_ix (ix_listK (K := K) rfl) (pv 0) (pe_un un_neg pe_int) (fun _ _ => rfl)) pe_int (fun _ _ => rfl)) pa_nil))))))), ?_⟩
    have get : ∀ {i : Nat} {t : Tk}, ts[i]? = some t → ∃ b, as[i]? = some b ∧ H b = some (.tup [.str t.c, .int (t.p : Int)]) := fun {i t} hi => by
      obtain ⟨b, hb⟩ : ∃ b, as[i]? = some b := ⟨_, List.getElem?_eq_getElem (by rw [hk.1]; exact lt_of_get hi)⟩
      obtain ⟨t', h1, h2⟩ := hk.2 i b hb
      rw [hi] at h1
      cases h1
      exact ⟨b, hb, h2⟩
    obtain ⟨t0, r0, rfl⟩ : ∃ t0 r0, ts = t0 :: r0 := by
      cases ts with
      | nil => exact absurd rfl hw.ne
      | cons t r => exact ⟨t, r, rfl⟩
    obtain ⟨b0, hb0, e0⟩ := get (i := 0) rfl
    refine ⟨_, rfl, a, _, _, _, rfl, rfl, .of ha, atN hb0, b0, _, _, _, rfl, rfl, .of e0, rfl, sz2, fun p np => ?_⟩
    have s1 := same_new (o := .tup [.str "exists", .str "forall"]) np
    have hq : t0.c ∈ (["exists", "forall"] : List Str) ↔ t0.k ∈ (["exists", "forall"] : List Str) := ck_mem (ht t0 List.mem_cons_self).1 (by decide +kernel)
    refine ninqT (ss := ["exists", "forall"]) (.of upd_same) ⟨_, rfl, ?_⟩
    generalize upd H p (.tup [.str "exists", .str "forall"]) = H1 at s1 ⊢
    by_cases c0 : t0.k ∈ (["exists", "forall"] : List Str)
    case neg =>
      refine iteB_t (by rw [decide_eq_false fun z => c0 (hq.mp z)]; rfl) ⟨_, rfl, sz2, fun b nb => ?_⟩
      exact q _ b 0 (-1) (s1.trans (same_new nb)) upd_same (.inl ⟨rfl, Nat.zero_le _, if_neg c0⟩)
    refine iteB_f (by rw [decide_eq_true (hq.mpr c0)]; rfl) ?_
    have hpf : pf (t0 :: r0) = hf r0 := if_pos c0
    have hw0 : WT r0 := (hw.tail ((show ∀ s ∈ (["exists", "forall"] : List Str), s ≠ "end" by decide +kernel) _ c0) ((show ∀ s ∈ (["exists", "forall"] : List Str), s ≠ "bad" by decide +kernel) _ c0)).1
    generalize hts : t0 :: r0 = ts at *
    have hr0 : ts.drop 1 = r0 := by rw [← hts]; rfl
    have hlen : as.length = ts.length := hk.1
    have hpos : 1 ≤ ts.length := by rw [← hts]; simp
    refine ⟨_, rfl, a, _, rfl, .inl (.of (s1 _ _ ha)), _, _, rfl, ⟨by decide, by decide, by omega, ?_⟩, for_range (lo := 1) (n := (((as.map V.ref).length : Int) - 1).toNat) (fun i σ H' => ∃ v1 : Option V, σ = [some (.ref a), v1] ∧ Same H H' ∧ WT (ts.drop (i + 1)) ∧ ((i % 2 = 0 ∧ pf ts = hf (ts.drop (i + 1))) ∨ (i % 2 = 1 ∧ ∃ t : Tk, t.k = ("name" : Str) ∧ pf ts = hf (t :: ts.drop (i + 1)))))
      ⟨none, rfl, s1, by rw [hr0]; exact hw0, .inl ⟨rfl, by rw [hr0]; exact hpf⟩⟩ ?_ ?_⟩
    · rw [List.length_map, hlen]
      exact Int.lt_of_le_of_lt (show (ts.length : Int) ≤ 10001 by omega) (by decide)
    · rintro i σ H2 hi ⟨v1, rfl, s2, hwi, hor⟩
      rw [List.length_map, hlen] at hi
      have hi2 : i + 1 < ts.length := by omega
      obtain ⟨t, htk⟩ : ∃ t, ts[i + 1]? = some t := ⟨_, List.getElem?_eq_getElem hi2⟩
      have hdr : ts.drop (i + 1) = t :: ts.drop (i + 1 + 1) := by
        rw [List.drop_eq_getElem_cons hi2]
        rw [List.getElem?_eq_getElem hi2] at htk
        rw [Option.some.inj htk]
      obtain ⟨b, hb, eb⟩ := get htk
      obtain ⟨hK, hcl⟩ := ht t (List.mem_of_getElem? htk)
      rw [hdr] at hwi hor
      have ei : ((1 : Int) + (i : Nat)) = ((i + 1 : Nat) : Int) := by omega
      rw [ei]
      have m1 : i % 2 = 0 → V.int (((i + 1 : Nat) : Int) % 2) = V.int 1 := fun h => congrArg V.int (by omega)
      have m0 : i % 2 = 1 → V.int (((i + 1 : Nat) : Int) % 2) = V.int 0 := fun h => congrArg V.int (by omega)
      have atq : ∀ {H' : Hp}, Same H H' → SqL K H' a (as.map V.ref) ∧ atI (as.map V.ref) ((i + 1 : Nat) : Int) = some (.ref b) ∧ SqT K H' b [.str t.c, .int (t.p : Int)] := fun s' => ⟨.of (s' _ _ ha), atN hb, .of (s' _ _ eb)⟩
      rcases hor with ⟨hpar, hpf2⟩ | ⟨hpar, u, hun, hpf2⟩
      · -- a name is wished for
        refine ⟨fun σ H' => σ = [some (.ref a), some (.int ((i + 1 : Nat) : Int))] ∧ Same H H' ∧ t.k = "name", ?_, ?_⟩
        · obtain ⟨z1, z2, z3⟩ := atq s2
          refine ⟨_, rfl, _, _, rfl, rfl, by show (0 : Int) < 2; decide, rfl, _, rfl, iteB_t (decide_eq_true (m1 hpar)) ?_⟩
          refine ⟨_, rfl, _, rfl, a, _, _, _, rfl, rfl, z1, z2, b, _, _, _, rfl, rfl, z3, rfl, t.c, rfl, hcl, fun H3 s3 => ?_⟩
          have s23 := s2.trans s3
          obtain ⟨y1, y2, y3⟩ := atq s23
          rw [isNm_k hK]
          by_cases c : t.k = "name"
          · exact ⟨_, rfl, iteB_f (by rw [decide_eq_true c]; rfl) ⟨rfl, s23, c⟩⟩
          · refine ⟨_, rfl, iteB_t (by rw [decide_eq_false c]; rfl) ?_⟩
            refine ⟨_, rfl, _, rfl, _, rfl, a, _, _, _, rfl, rfl, y1, y2, b, _, _, _, rfl, rfl, y3, rfl, sz2, fun d nd => ?_⟩
            refine q _ d (i + 1) (t.p : Int) (s23.trans (same_new nd)) upd_same (.inr ⟨by omega, ?_⟩)
            rw [hpf2]
            cases ts.drop (i + 1 + 1) with
            | nil => rfl
            | cons u r =>
              unfold hf
              rw [if_neg c]
        · rintro σ H3 ⟨rfl, s3, hn⟩
          refine ⟨fun σ H' => σ = [some (.ref a), some (.int ((i + 1 : Nat) : Int))] ∧ Same H H', ?_, ?_⟩
          · refine ⟨_, rfl, _, _, rfl, rfl, by show (0 : Int) < 2; decide, rfl, _, rfl, iteB_f (decide_eq_false (fun z => absurd ((m1 hpar).symm.trans z) (by decide))) (iteB_f rfl ⟨rfl, s3⟩)⟩
          rintro σ H4 ⟨rfl, s4⟩
          refine ⟨_, rfl, _, _, rfl, rfl, by show (0 : Int) < 2; decide, rfl, _, rfl, iteB_f (decide_eq_false (fun z => absurd ((m1 hpar).symm.trans z) (by decide))) (iteB_f rfl ?_)⟩
          exact ⟨_, rfl, s4, (hwi.tail (by rw [hn]; decide) (by rw [hn]; decide)).1, .inr ⟨by omega, t, hn, hpf2⟩⟩
      · -- a comma or the colon
        refine ⟨fun σ H' => σ = [some (.ref a), some (.int ((i + 1 : Nat) : Int))] ∧ Same H H', ?_, ?_⟩
        · refine ⟨_, rfl, _, _, rfl, rfl, by show (0 : Int) < 2; decide, rfl, _, rfl, iteB_f (decide_eq_false (fun z => absurd ((m0 hpar).symm.trans z) (by decide))) (iteB_f rfl ⟨rfl, s2⟩)⟩
        rintro σ H3 ⟨rfl, s3⟩
        have hcol : t.c = ":" ↔ t.k = ":" := ck_eq hK (.inl (by decide +kernel))
        have hcom : t.c = "," ↔ t.k = "," := ck_eq hK (.inl (by decide +kernel))
        refine ⟨fun σ H' => σ = [some (.ref a), some (.int ((i + 1 : Nat) : Int))] ∧ Same H H' ∧ t.k ≠ ":", ?_, ?_⟩
        · obtain ⟨z1, z2, z3⟩ := atq s3
          refine ⟨_, rfl, _, _, rfl, rfl, by show (0 : Int) < 2; decide, rfl, _, rfl, iteB_t (decide_eq_true (m0 hpar)) ?_⟩
          refine ⟨_, rfl, _, rfl, a, _, _, _, rfl, rfl, z1, z2, b, _, _, _, rfl, rfl, z3, rfl, rfl, _, rfl, ?_⟩
          by_cases c : t.k = ":"
          · refine iteB_t (decide_eq_true (by rw [hcol.mpr c])) ⟨_, rfl, _, _, rfl, rfl, _, rfl, sz2, fun d nd => ?_⟩
            refine q _ d (i + 1 + 1) (-1) (s3.trans (same_new nd)) upd_same (.inl ⟨rfl, by omega, ?_⟩)
            rw [hpf2]
            unfold hf
            rw [if_pos hun, if_pos c]
          · exact iteB_f (decide_eq_false fun z => c (hcol.mp (V.str.inj z))) ⟨rfl, s3, c⟩
        rintro σ H4 ⟨rfl, s4, hnc⟩
        obtain ⟨z1, z2, z3⟩ := atq s4
        refine ⟨_, rfl, _, _, rfl, rfl, by show (0 : Int) < 2; decide, rfl, _, rfl, iteB_t (decide_eq_true (m0 hpar)) ?_⟩
        refine ⟨_, rfl, _, rfl, a, _, _, _, rfl, rfl, z1, z2, b, _, _, _, rfl, rfl, z3, rfl, rfl, _, rfl, ?_⟩
        by_cases c : t.k = ","
        · refine iteB_f (by rw [decide_eq_true (by rw [hcom.mpr c])]; rfl) ?_
          refine ⟨_, rfl, s4, (hwi.tail (by rw [c]; decide) (by rw [c]; decide)).1, .inl ⟨by omega, ?_⟩⟩
          rw [hpf2]
          conv => lhs; unfold hf
          rw [if_pos hun, if_neg hnc, if_pos c]
        · refine iteB_t (by rw [decide_eq_false fun z => c (hcom.mp (V.str.inj z))]; rfl) ?_
          refine ⟨_, rfl, _, rfl, _, rfl, a, _, _, _, rfl, rfl, z1, z2, b, _, _, _, rfl, rfl, z3, rfl, sz2, fun d nd => ?_⟩
          refine q _ d (i + 1) (t.p : Int) (s4.trans (same_new nd)) upd_same (.inr ⟨by omega, ?_⟩)
          rw [hpf2]
          unfold hf
          rw [if_pos hun, if_neg hnc, if_neg c]
    · rintro σ H2 ⟨v1, rfl, s2, hwi, _⟩
      exfalso
      refine hwi.ne (List.drop_of_length_le ?_)
      rw [List.length_map, hlen]
      omega
theorem cut_drop (xs : List V) (k : Nat) : cutV xs (some (k : Int)) none = xs.drop k := by
  unfold cutV
  rw [HT.sIx_none, HT.sIx_nat]
  rcases Nat.le_total k xs.length with h | h
  · rw [Nat.min_eq_left h, List.take_of_length_le (by rw [List.length_drop]; omega)]
  · rw [Nat.min_eq_right h, List.drop_of_length_le h, List.drop_length, List.take_nil]
def spFa : Sp := fun vs H Q _ => ∃ (t : Str) (ts : List Tk), vs = [.str t] ∧ t.length ≤ 10000 ∧ Tks t.cps.toList 0 ts ∧ ∀ H', Q (.int (pf ts)) H'
theorem cal_fa (T : Txt K mg w P) : C8.Cal P w K mg base 3 "_law_fault" spFa [] := by
  have C_law_is_name : C8.Cal P w K mg base 1 "_law_is_name" spIn [] := cal_in T
  have C_law_tokens : C8.Cal P w K mg base 2 "_law_tokens" spTo [] := cal_to T
  have C_law_begin : C8.Cal P w K mg base 2 "_law_begin" spBg [] := cal_bg T
  obtain ⟨f, fd, F, hm, hb⟩ := T.h_law_fault
  refine ⟨f, fd, _, [], F.ok sc_law_fault (fun vs H Q E h => ?_) (fun cdv A outer s H vs Q E hr h => ?_), hm, F.kp, hb, .nil⟩
  · obtain ⟨t, ts, rfl, _⟩ := h
    rfl
  · obtain ⟨t, ts, rfl, hl, htk, q⟩ := h
    refine ⟨_, (pss_cons
      (ps_set (i := 1) sc_law_fault.nd rfl (Or.inl rfl) (C8.pe_c C_law_tokens hr (by decide) (by rfl) (pa_cons (pv 0) pa_nil)))
      (pss_cons
      (ps_set (i := 2) sc_law_fault.nd rfl (Or.inl rfl) (C8.pe_c C_law_begin hr (by decide) (by rfl) (pa_cons (pv 1) pa_nil)))
      (pss_cons
      (ps_if (pt_cmpR op_ge (pe_ix (ix_tupK (K := K) rfl) (pv 2) pe_int (fun _ _ => rfl)) pe_int (nomark _)) (pss_one
      (ps_ret (pe_ix (ix_tupK (K := K) rfl) (pv 2) pe_int (fun _ _ => rfl)))) pss_nil)
      (pss_cons
      (ps_set (i := 3) sc_law_fault.nd rfl (Or.inl rfl) pe_int)
      (pss_cons
      (ps_set (i := 4) sc_law_fault.nd rfl (Or.inl rfl) pe_bl)
      (pss_cons
      (ps_for PassesOwn.never rfl (pi_list (pe_slice (sl_listK (K := K) rfl) (pv 1) (po_some (pe_ix (ix_tupK (K := K) rfl) (pv 2) pe_int (fun _ _ => rfl))) po_none)) (pg_name (i := 5) sc_law_fault.nd rfl (.inl rfl)) (pss_cons
      (ps_set (i := 6) sc_law_fault.nd rfl (Or.inl rfl) (pe_ix (ix_tupK (K := K) rfl) (pv 5) pe_int (fun _ _ => rfl)))
      (pss_one
      (ps_if (PW.pt (pw_and (pt_val (pv 4)) (pw_and1 (PW.pt (pw_or (pt_val (C8.pe_c C_law_is_name hr (by decide) (by rfl) (pa_cons (pv 6) pa_nil))) (pw_or1 (pt_cmpR (op_inK (K := K) rfl) (pv 6) (pe_tup (pa_cons pe_str (pa_cons pe_str pa_nil))) (by rfl)))))))) (pss_one
      (ps_set (i := 4) sc_law_fault.nd rfl (Or.inl rfl) pe_bl)) (pss_one
      (ps_if (PW.pt (pw_and (pt_val (pv 4)) (pw_and1 (pt_cmpR op_eq (pv 6) pe_str (nomark _))))) (pss_one
      (ps_set (i := 3) sc_law_fault.nd rfl (Or.inl rfl) (pe_op op_add (pv 3) pe_int))) (pss_one
      (ps_if (PW.pt (pw_and (pt_val (pv 4)) (pw_and (pt_cmpR op_ne (pv 6) pe_str (nomark _)) (pw_and1 (pt_cmpR op_in_str (pv 6) pe_str (by rfl)))))) (pss_one
      (ps_set (i := 3) sc_law_fault.nd rfl (Or.inl rfl) (pe_op op_add (pv 3) pe_int))) (pss_one
      (ps_if (pt_val (pv 4)) (pss_one
      (ps_ret (pe_ix (ix_tupK (K := K) rfl) (pv 5) pe_int (fun _ _ => rfl)))) (pss_one
      (ps_if (pt_cmpR (op_inK (K := K) rfl) (pv 6) (pe_tup (pa_cons pe_str (pa_cons pe_str (pa_cons pe_str (pa_cons pe_str (pa_cons pe_str (pa_cons pe_str (pa_cons pe_str (pa_cons pe_str (pa_cons pe_str pa_nil)))))))))) (by rfl)) (pss_one
      (ps_set (i := 4) sc_law_fault.nd rfl (Or.inl rfl) pe_bl)) (pss_one
      (ps_if (PW.pt (pw_and (pt_cmpR op_eq (pv 6) pe_str (nomark _)) (pw_and1 (pt_cmpR op_gt (pv 3) pe_int (nomark _))))) (pss_one
      (ps_set (i := 3) sc_law_fault.nd rfl (Or.inl rfl) (pe_op op_sub (pv 3) pe_int))) (pss_one
      (ps_if (PW.pt (pw_and (pt_cmpR op_eq (pv 6) pe_str (nomark _)) (pw_and (pt_cmpR op_eq (pv 3) pe_int (nomark _)) (pw_and1 (pt_cmpR op_eq (pe_ix (ix_tupK (K := K) rfl) (pv 5) pe_int (fun _ _ => rfl)) (pe_callB call_len_str (by rfl) T.z_len PySem.boot_len (pa_cons (pv 0) pa_nil)) (nomark _)))))) (pss_one
      (ps_ret (pe_un un_neg pe_int))) (pss_one
      (ps_ret (pe_ix (ix_tupK (K := K) rfl) (pv 5) pe_int (fun _ _ => rfl))))))))))))))))))))
      (pss_one
      (ps_ret (pe_un un_neg pe_int))))))))), ?_⟩
    have hz : t.length ≤ sizeLine := Nat.le_trans hl (by decide)
    have htl := str_len t
    obtain ⟨hw, hal, _⟩ := tks_all htk
    have hkk := tk_k htk
    have hlen := tks_len htk
    rw [htl, Nat.zero_add] at hkk
    refine ⟨_, rfl, t, ts, rfl, hl, htk, fun H1 p as s1 ep hk => ?_⟩
    refine ⟨_, rfl, p, as, ts, t.length, rfl, ep, hk, hw, fun u hu => ⟨hkk u hu, by have := (hal u hu).2.1; omega⟩, by omega, fun H2 b k pp s2 eb hbg => ?_⟩
    refine ⟨_, rfl, b, _, _, _, rfl, rfl, .of eb, rfl, _, _, rfl, rfl, _, rfl, ?_⟩
    rcases hbg with ⟨rfl, hkl, hpf⟩ | ⟨h0, hpf⟩
    case inr =>
      refine iteB_t (decide_eq_true h0) ⟨_, rfl, b, _, _, _, rfl, rfl, .of eb, rfl, ?_⟩
      have := q H2
      rw [hpf] at this
      exact this
    refine iteB_f (by decide) ?_
    refine ⟨_, rfl, _, rfl, b, _, _, _, rfl, rfl, .of eb, rfl, _, rfl, p, _, rfl, .of (s2 _ _ ep), fun z nz => ?_⟩
    rw [cut_drop, ← List.map_drop]
    generalize hX : upd H2 z _ = H3; obtain ⟨sH3, ez⟩ := nw nz hX; clear hX
    have s03 := (s1.trans s2).trans sH3
    have hlenA : as.length = ts.length := hk.1
    have get : ∀ {i : Nat} {d : Addr} {H' : Hp}, Same H3 H' → (as.drop k)[i]? = some d → ∃ tt : Tk, ts.drop (k + i) = tt :: ts.drop (k + i + 1) ∧ H' d = some (.tup [.str tt.c, .int (tt.p : Int)]) ∧ TkK t.length tt ∧ tt.c.length ≤ 10000 := fun {i d H'} s' hd => by
      rw [List.getElem?_drop] at hd
      obtain ⟨tt, h1, h2⟩ := hk.2 _ _ hd
      have hlt := lt_of_get h1
      refine ⟨tt, ?_, s' _ _ (sH3 _ _ (s2 _ _ h2)), hkk tt (List.mem_of_getElem? h1), by have := (hal tt (List.mem_of_getElem? h1)).2.1; omega⟩
      rw [List.drop_eq_getElem_cons hlt]
      rw [List.getElem?_eq_getElem hlt] at h1
      rw [Option.some.inj h1]
    refine ⟨z, rfl, ⟨_, .of ez⟩, for_list (K := K) (a := z) (xs := (as.drop k).map V.ref) (fun i σ H' => ∃ (ins : Nat) (op : Bool) (v5 v6 : Option V), σ = [some (.str t), some (.ref p), some (.ref b), some (.int (ins : Int)), some (.bl op), v5, v6] ∧ Same H3 H' ∧ fa op ins (ts.drop (k + i)) = pf ts)
      ⟨0, true, none, none, rfl, Same.refl _, by rw [Nat.add_zero]; exact hpf.symm⟩ (fun i σ H' _ ⟨_, _, _, _, _, x, _⟩ => .of (x _ _ ez)) ?_ ?_⟩
    · rintro i y σ H4 hi ⟨ins, op, v5, v6, rfl, s4, hfa⟩
      obtain ⟨d, hd, rfl⟩ := refsg hi
      obtain ⟨tt, hdr, ed, hK, hcl⟩ := get s4 hd
      rw [hdr] at hfa
      have ret : ∀ {H' : Hp}, Same H4 H' → pf ts = (tt.p : Int) → ∀ {D : Ends} {v3 v4 : Option V}, D.rt = Q → tRet (tOp (rIxT K) (tVar 5) (tC (V.int 1))) D [some (.str t), some (.ref p), some (.ref b), v3, v4, some (.ref d), some (.str tt.c)] H' := fun {H'} s' e D v3 v4 eD => by
        refine ⟨_, rfl, d, _, _, _, rfl, rfl, .of (s' _ _ ed), rfl, ?_⟩
        rw [eD]
        have := q H'
        rw [e] at this
        exact this
      refine ⟨_, rfl, d, _, _, _, rfl, rfl, .of ed, rfl, ?_⟩
      cases op with
      | true =>
        refine ⟨_, rfl, true, rfl, iteT ?_⟩
        refine ⟨_, rfl, tt.c, rfl, hcl, fun H5 s5 => ⟨_, rfl, ?_⟩⟩
        rw [isNm_k hK]
        by_cases cn : tt.k = "name"
        · refine iteB_t (decide_eq_true cn) (iteB_t rfl ⟨ins, false, _, _, rfl, s4.trans s5, ?_⟩)
          rw [← hfa]
          conv => rhs; unfold fa
          rw [if_pos (by rw [cn]; simp)]
          rfl
        refine iteB_f (decide_eq_false cn) ⟨_, rfl, sz2, fun p2 np2 => ?_⟩
        have s6 := same_new (o := .tup [.str "true", .str "false"]) np2
        refine inqT (ss := ["true", "false"]) (.of upd_same) ⟨_, rfl, ?_⟩
        have s46 := s5.trans s6
        generalize upd H5 p2 (.tup [.str "true", .str "false"]) = H6 at s46 ⊢
        have htf : tt.c ∈ (["true", "false"] : List Str) ↔ tt.k ∈ (["true", "false"] : List Str) := ck_mem hK (by decide +kernel)
        by_cases ct : tt.k ∈ (["true", "false"] : List Str)
        · refine iteB_t (decide_eq_true (htf.mpr ct)) ⟨ins, false, _, _, rfl, s4.trans s46, ?_⟩
          rw [← hfa]
          conv => rhs; unfold fa
          rw [if_pos (List.mem_cons_of_mem _ ct)]
          rfl
        have hna : ¬ tt.k ∈ atmK := fun z => (List.mem_cons.mp z).elim cn ct
        refine iteB_f (decide_eq_false fun z => ct (htf.mp z)) ?_
        refine ⟨_, rfl, true, rfl, iteT ⟨_, rfl, rfl, _, rfl, ?_⟩⟩
        have hpa : tt.c = "(" ↔ tt.k = "(" := ck_eq hK (.inl (by decide +kernel))
        by_cases cp : tt.k = "("
        · refine iteB_t (decide_eq_true (by rw [hpa.mpr cp])) ⟨_, rfl, _, _, rfl, rfl, ins + 1, true, _, _, rfl, s4.trans s46, ?_⟩
          rw [← hfa]
          conv => rhs; unfold fa
          rw [if_neg hna, if_pos cp]
          rfl
        refine iteB_f (decide_eq_false fun z => cp (hpa.mp (V.str.inj z))) ?_
        refine ⟨_, rfl, true, rfl, iteT ⟨_, rfl, rfl, _, rfl, ?_⟩⟩
        have hpr := pre_eq hK hna
        have pass : isPre tt.k = false → fa true ins (tt :: ts.drop (k + i + 1)) = (tt.p : Int) := fun z => by
          unfold fa
          rw [if_neg hna, if_neg cp, if_neg (by rw [z]; exact Bool.false_ne_true)]
        by_cases ce : tt.c = ""
        · refine iteB_f (by rw [decide_eq_true (by rw [ce])]; rfl) (iteB_f rfl ⟨_, rfl, true, rfl, iteB_t rfl (ret s46 (hfa.symm.trans (pass ?_)) rfl)⟩)
          cases e : isPre tt.k with
          | false => rfl
          | true => exact absurd ce (hpr.mpr e).1
        · refine iteB_t (by rw [decide_eq_false fun z => ce (V.str.inj z)]; rfl) ⟨_, rfl, _, _, rfl, rfl, _, rfl, ?_⟩
          cases e : isPre tt.k with
          | true =>
            refine iteB_t (hpr.mpr e).2 ⟨_, rfl, _, _, rfl, rfl, ins, true, some (.ref d), some (.str tt.c), by show [some (V.str t), some (.ref p), some (.ref b), some (.int ((ins : Int) + 0)), some (.bl true), some (.ref d), some (.str tt.c)] = _; rw [Int.add_zero], s4.trans s46, ?_⟩
            rw [← hfa]
            conv => rhs; unfold fa
            rw [if_neg hna, if_neg cp, if_pos e]
            rfl
          | false =>
            refine iteB_f ?_ ⟨_, rfl, true, rfl, iteB_t rfl (ret s46 (hfa.symm.trans (pass e)) rfl)⟩
            show occB tt.c "!XFGYZOH" = false
            cases o : occB tt.c "!XFGYZOH" with
            | false => rfl
            | true =>
              rw [hpr.mp ⟨ce, o⟩] at e
              cases e
      | false =>
        refine ⟨_, rfl, false, rfl, iteB_f rfl (iteB_f rfl ?_)⟩
        refine ⟨_, rfl, false, rfl, iteB_f rfl (iteB_f rfl ?_)⟩
        refine ⟨_, rfl, false, rfl, iteB_f rfl (iteB_f rfl ?_)⟩
        refine ⟨_, rfl, false, rfl, iteB_f rfl ?_⟩
        refine ⟨_, rfl, by show 9 ≤ sizeLine; decide, fun p2 np2 => ?_⟩
        have s6 := same_new (o := .tup [.str "&", .str "|", .str "->", .str "<->", .str "U", .str "W", .str "R", .str "S", .str "T"]) np2
        refine inqT (ss := ["&", "|", "->", "<->", "U", "W", "R", "S", "T"]) (.of upd_same) ⟨_, rfl, ?_⟩
        generalize upd H4 p2 (.tup [.str "&", .str "|", .str "->", .str "<->", .str "U", .str "W", .str "R", .str "S", .str "T"]) = H6 at s6 ⊢
        have hin : tt.c ∈ (["&", "|", "->", "<->", "U", "W", "R", "S", "T"] : List Str) ↔ tt.k ∈ infK := by
          rw [ck_mem hK (l := ["&", "|", "->", "<->", "U", "W", "R", "S", "T"]) (by decide +kernel)]
          exact ⟨fun z => (show ∀ s ∈ (["&", "|", "->", "<->", "U", "W", "R", "S", "T"] : List Str), s ∈ infK by decide +kernel) _ z, fun z => (show ∀ s ∈ infK, s ∈ (["&", "|", "->", "<->", "U", "W", "R", "S", "T"] : List Str) by decide +kernel) _ z⟩
        have s36 := s4.trans s6
        by_cases ci : tt.k ∈ infK
        · refine iteB_t (decide_eq_true (hin.mpr ci)) ⟨ins, true, _, _, rfl, s36, ?_⟩
          rw [← hfa]
          conv => rhs; unfold fa
          rw [if_pos ci]
          rfl
        refine iteB_f (decide_eq_false fun z => ci (hin.mp z)) ?_
        have hpa : tt.c = ")" ↔ tt.k = ")" := ck_eq hK (.inl (by decide +kernel))
        have hen := end_eq hK
        have fin : ¬ (tt.k = ")" ∧ 0 < ins) → tIfS (tAnd (tTest (tOp rEq (tVar 6) (tC (V.str (Str.ofString ""))))) (tAnd (tTest (tOp rEq (tVar 3) (tC (V.int 0)))) (tTest (tOp rEq (tOp (rIxT K) (tVar 5) (tC (V.int 1))) (tCB (fun xs H Q => ∃ z, xs = [V.str z] ∧ z.length ≤ sizeLine ∧ Q (V.int z.length) H) (tCons (tVar 0) tNil)))))) (tRet (tUn (rU fun i => V.int (-i)) (tC (V.int 1)))) (tRet (tOp (rIxT K) (tVar 5) (tC (V.int 1)))) { nx := fun _ _ => True, rt := Q } [some (.str t), some (.ref p), some (.ref b), some (.int (ins : Int)), some (.bl false), some (.ref d), some (.str tt.c)] H6 := fun hnp => by
          have e1 : fa false ins (tt :: ts.drop (k + i + 1)) = if tt.k = "end" ∧ ins = 0 then -1 else (tt.p : Int) := by
            conv => lhs; unfold fa
            rw [if_neg ci, if_neg hnp]
          have stay : ¬ (tt.k = "end" ∧ ins = 0) → pf ts = (tt.p : Int) := fun z => by rw [← hfa, e1, if_neg z]
          refine ⟨_, rfl, rfl, _, rfl, ?_⟩
          by_cases ce : tt.c = ""
          · refine iteB_t (decide_eq_true (by rw [ce])) ⟨_, rfl, rfl, _, rfl, ?_⟩
            by_cases c0 : ins = 0
            · refine iteB_t (decide_eq_true (by rw [c0]; rfl)) ⟨_, rfl, d, _, _, _, rfl, rfl, .of (s6 _ _ ed), rfl, _, rfl, t, rfl, hz, rfl, _, rfl, ?_⟩
              by_cases cl : tt.p = t.length
              · refine iteB_t (decide_eq_true (by rw [cl])) ⟨_, rfl, ?_⟩
                have := q H6
                rw [← hfa, e1, if_pos ⟨hen.mp ⟨ce, cl⟩, c0⟩] at this
                exact this
              · refine iteB_f (decide_eq_false fun z => cl (by have := V.int.inj z; omega)) (ret s6 (stay fun z => cl (hen.mpr z.1).2) rfl)
            · exact iteB_f (decide_eq_false fun z => c0 (by have := V.int.inj z; omega)) (iteB_f rfl (ret s6 (stay fun z => c0 z.2) rfl))
          · exact iteB_f (decide_eq_false fun z => ce (V.str.inj z)) (iteB_f rfl (ret s6 (stay fun z => ce (hen.mpr z.1).1) rfl))
        refine ⟨_, rfl, rfl, _, rfl, ?_⟩
        by_cases cp : tt.k = ")"
        · refine iteB_t (decide_eq_true (by rw [hpa.mpr cp])) ⟨_, rfl, _, _, rfl, rfl, _, rfl, ?_⟩
          by_cases c0 : 0 < ins
          · refine iteB_t (decide_eq_true (by omega)) ⟨_, rfl, _, _, rfl, rfl, ins - 1, false, _, _, by rw [show ((ins - 1 : Nat) : Int) = (ins : Int) - 1 by omega]; rfl, s36, ?_⟩
            rw [← hfa]
            conv => rhs; unfold fa
            rw [if_neg ci, if_pos ⟨cp, c0⟩]
            rfl
          · exact iteB_f (decide_eq_false (by omega)) (fin fun z => c0 z.2)
        · exact iteB_f (decide_eq_false fun z => cp (hpa.mp (V.str.inj z))) (iteB_f rfl (fin fun z => cp z.1))
    · rintro σ H4 ⟨ins, op, v5, v6, rfl, s4, hfa⟩
      rw [List.length_map, List.length_drop, hlenA, List.drop_of_length_le (by omega)] at hfa
      have e : pf ts = -1 := by rw [← hfa]; cases op <;> rfl
      refine ⟨_, rfl, ?_⟩
      have := q H4
      rw [e] at this
      exact this
theorem ct_l (t : Str) (b : Nat) : (cutS t none (some (b : Int))).length = min b t.length := by
  unfold cutS
  rw [HT.sIx_nat, HT.sIx_none]
  simp [Str.length]
theorem ct_m (t : Str) (a b : Nat) : (cutS t (some (a : Int)) (some (b : Int))).length = min b t.length - min a t.length := by
  unfold cutS
  rw [HT.sIx_nat, HT.sIx_nat, arr_len, List.length_take, List.length_drop, str_len]
  omega
theorem ct_r (t : Str) (a : Nat) : (cutS t (some (a : Int)) none).length = t.length - min a t.length := by
  unfold cutS
  rw [HT.sIx_nat, HT.sIx_none]
  simp [Str.length]
def spSg : Sp := fun vs H Q _ => ∃ (d : Addr) (b : Bool), vs = [.ref d, .bl b] ∧ Drw H d ∧ ∀ (H' : Hp) (c : Nat), Kp d H H' → Drw H' d → Q (.str ⟨#[c]⟩) H'
abbrev chA : Str := " !\"#$&'()*+,-./0123456789:;<=>?@ABCDEFGHIJKLMNOPQRSTUVWXYZ[\\]^_abcdefghijklmnopqrstuvwxyz{|}~\n"
abbrev chB : Str := "!&|XFGUWRYZOHST(),:-<> abtruefalsexist0"
theorem ch_len : 0 < chA.length ∧ chA.length ≤ 1000 ∧ 0 < chB.length ∧ chB.length ≤ 1000 := by decide +kernel
theorem cal_sg (T : Txt K mg w P) : C8.Cal P w K mg base 2 "_law_sign" spSg [] := by
  have C_law_take : C8.Cal P w K mg base 1 "_law_take" spTake [] := cal_take T
  obtain ⟨c1, c2, c3, c4⟩ := ch_len
  obtain ⟨f, fd, F, hm, hb⟩ := T.h_law_sign
  refine ⟨f, fd, _, [], F.ok sc_law_sign (fun vs H Q E h => ?_) (fun cdv A outer s H vs Q E hr h => ?_), hm, F.kp, hb, .nil⟩
  · obtain ⟨d, b, rfl, _⟩ := h
    rfl
  · obtain ⟨d, b, rfl, hd, q⟩ := h
    refine ⟨_, (pss_cons
      (ps_set (i := 2) sc_law_sign.nd rfl (Or.inl rfl) pe_str)
      (C8.pss_cut
      (ps_if (pt_val (pv 1)) (pss_one
      (ps_set (i := 2) sc_law_sign.nd rfl (Or.inl rfl) pe_str)) pss_nil)
      (pss_one
      (ps_ret (pe_ix ix_str (pv 2) (C8.pe_c C_law_take hr (by decide) (by rfl) (pa_cons (pv 0) (pa_cons (pe_callB call_len_str (by rfl) T.z_len PySem.boot_len (pa_cons (pv 2) pa_nil)) pa_nil))) (fun _ _ => rfl)))))), ?_⟩
    refine ⟨fun σ H' => ∃ ch : Str, σ = [some (.ref d), some (.bl b), some (.str ch)] ∧ H' = H ∧ 0 < ch.length ∧ ch.length ≤ 1000, ?_, ?_⟩
    · refine ⟨_, rfl, b, rfl, ?_⟩
      cases b with
      | true => exact iteT ⟨chB, rfl, rfl, c3, c4⟩
      | false => exact iteF ⟨chA, rfl, rfl, c1, c2⟩
    · rintro σ H' ⟨ch, rfl, rfl, h0, h1⟩
      have hz : ch.length ≤ sizeLine := Nat.le_trans h1 (by decide)
      refine ⟨_, rfl, _, rfl, _, rfl, ch, rfl, hz, d, (ch.length : Int), rfl, hd, by omega, fun r rs r0 r1 => ?_⟩
      obtain ⟨c, hc⟩ : ∃ c, ch.cps.toList[r.toNat]? = some c := ⟨_, List.getElem?_eq_getElem (by rw [str_len]; omega)⟩
      have hat : atI ch.cps.toList r = some c := by
        have := atI_nat hc
        rwa [Int.toNat_of_nonneg r0] at this
      exact ⟨ch, r, c, rfl, rfl, hz, hat, q _ c Kp.own Drw.own⟩
def spCg : Sp := fun vs H Q _ => ∃ (d : Addr) (t : Str), vs = [.ref d, .str t] ∧ Drw H d ∧ t.length ≤ 5000 ∧ ∀ (H' : Hp) (t' : Str), Kp d H H' → Drw H' d → t'.length ≤ t.length + 1 → Q (.str t') H'
theorem cal_cg (T : Txt K mg w P) : C8.Cal P w K mg base 3 "_law_change" spCg [] := by
  have C_law_take : C8.Cal P w K mg base 1 "_law_take" spTake [] := cal_take T
  have C_law_sign : C8.Cal P w K mg base 2 "_law_sign" spSg [] := cal_sg T
  obtain ⟨f, fd, F, hm, hb⟩ := T.h_law_change
  refine ⟨f, fd, _, [], F.ok sc_law_change (fun vs H Q E h => ?_) (fun cdv A outer s H vs Q E hr h => ?_), hm, F.kp, hb, .nil⟩
  · obtain ⟨d, t, rfl, _⟩ := h
    rfl
  · obtain ⟨d, t, rfl, hd, hl, q⟩ := h
    refine ⟨_, (pss_cons
      (ps_set (i := 2) sc_law_change.nd rfl (Or.inl rfl) (C8.pe_c C_law_take hr (by decide) (by rfl) (pa_cons (pv 0) (pa_cons pe_int pa_nil))))
      (pss_cons
      (ps_set (i := 3) sc_law_change.nd rfl (Or.inl rfl) (C8.pe_c C_law_take hr (by decide) (by rfl) (pa_cons (pv 0) (pa_cons (pe_op op_add (pe_callB call_len_str (by rfl) T.z_len PySem.boot_len (pa_cons (pv 1) pa_nil)) pe_int) pa_nil))))
      (pss_cons
      (ps_set (i := 4) sc_law_change.nd rfl (Or.inl rfl) (C8.pe_c C_law_sign hr (by decide) (by rfl) (pa_cons (pv 0) (pa_cons (pe_cmpR op_eq (C8.pe_c C_law_take hr (by decide) (by rfl) (pa_cons (pv 0) (pa_cons pe_int pa_nil))) pe_int (nomark _)) pa_nil))))
      (pss_cons
      (ps_if (pt_cmpR op_eq (pv 2) pe_int (nomark _)) (pss_one
      (ps_ret (pe_op op_add_str (pe_slice sl_str (pv 1) po_none (po_some (pv 3))) (pe_slice sl_str (pv 1) (po_some (pe_op op_add (pv 3) pe_int)) po_none)))) pss_nil)
      (pss_cons
      (ps_if (pt_cmpR op_lt (pv 2) pe_int (nomark _)) (pss_one
      (ps_ret (pe_op op_add_str (pe_op op_add_str (pe_slice sl_str (pv 1) po_none (po_some (pv 3))) (pv 4)) (pe_slice sl_str (pv 1) (po_some (pv 3)) po_none)))) pss_nil)
      (pss_cons
      (ps_if (pt_cmpR op_lt (pv 2) pe_int (nomark _)) (pss_one
      (ps_ret (pe_op op_add_str (pe_op op_add_str (pe_slice sl_str (pv 1) po_none (po_some (pv 3))) (pv 4)) (pe_slice sl_str (pv 1) (po_some (pe_op op_add (pv 3) pe_int)) po_none)))) pss_nil)
      (pss_cons
      (ps_set (i := 5) sc_law_change.nd rfl (Or.inl rfl) (pe_op op_add (pv 3) (C8.pe_c C_law_take hr (by decide) (by rfl) (pa_cons (pv 0) (pa_cons pe_int pa_nil)))))
      (pss_cons
      (ps_set (i := 6) sc_law_change.nd rfl (Or.inl rfl) (pe_op op_add (pv 5) (C8.pe_c C_law_take hr (by decide) (by rfl) (pa_cons (pv 0) (pa_cons pe_int pa_nil)))))
      (pss_one
      (ps_ret (pe_op op_add_str (pe_op op_add_str (pe_op op_add_str (pe_slice sl_str (pv 1) po_none (po_some (pv 3))) (pe_slice sl_str (pv 1) (po_some (pv 5)) (po_some (pv 6)))) (pe_slice sl_str (pv 1) (po_some (pv 3)) (po_some (pv 5)))) (pe_slice sl_str (pv 1) (po_some (pv 6)) po_none)))))))))))), ?_⟩
    have big : (100000 : Nat) ≤ sizeLine := by decide
    have hz : t.length ≤ sizeLine := by omega
    refine ⟨_, rfl, d, 6, rfl, hd, by decide, fun kd us u0 u1 => ?_⟩
    have k1 : Kp d H (upd H d (.lst (us.map V.int))) := Kp.own
    have d1 : Drw (upd H d (.lst (us.map V.int))) d := Drw.own
    generalize upd H d (.lst (us.map V.int)) = H1 at k1 d1 ⊢
    refine ⟨_, rfl, _, rfl, t, rfl, hz, _, _, rfl, rfl, d, _, rfl, d1, by omega, fun r rs r0 r1 => ?_⟩
    have k2 : Kp d H1 (upd H1 d (.lst (rs.map V.int))) := Kp.own
    have d2 : Drw (upd H1 d (.lst (rs.map V.int))) d := Drw.own
    generalize upd H1 d (.lst (rs.map V.int)) = H2 at k2 d2 ⊢
    obtain ⟨a, rfl⟩ : ∃ a : Nat, r = (a : Int) := ⟨r.toNat, by omega⟩
    refine ⟨_, rfl, _, rfl, d, 2, rfl, d2, by decide, fun g gs g0 g1 => ?_⟩
    have k3 : Kp d H2 (upd H2 d (.lst (gs.map V.int))) := Kp.own
    have d3 : Drw (upd H2 d (.lst (gs.map V.int))) d := Drw.own
    generalize upd H2 d (.lst (gs.map V.int)) = H3 at k3 d3 ⊢
    refine ⟨rfl, d, _, rfl, d3, fun H4 c k4 d4 => ?_⟩
    have k04 := ((k1.trans k2).trans k3).trans k4
    have al : a ≤ t.length := by omega
    have one : (⟨#[c]⟩ : Str).length = 1 := rfl
    have e1 : ((a : Int) + 1) = ((a + 1 : Nat) : Int) := rfl
    have L := ct_l t
    have M := ct_m t
    have R := ct_r t
    have fin : ∀ {H' : Hp} {t' : Str}, Kp d H4 H' → Drw H' d → t'.length ≤ t.length + 1 → Q (.str t') H' := fun k' d' h' => q _ _ (k04.trans k') d' h'
    have k44 : Kp d H4 H4 := fun b o _ e => e
    refine ⟨_, rfl, rfl, _, rfl, ite2 (fun _ => ?_) (fun _ => ?_)⟩
    · refine ⟨_, rfl, _, rfl, _, rfl, t, rfl, hz, _, rfl, _, rfl, _, _, rfl, rfl, _, rfl, t, rfl, hz, ?_⟩
      show ∃ i j, V.str (cutS t none (some (a : Int))) = .str i ∧ V.str (cutS t (some ((a + 1 : Nat) : Int)) none) = .str j ∧ _
      refine ⟨_, _, rfl, rfl, by rw [L, R]; omega, fin k44 d4 ?_⟩
      rw [app_len, L, R]
      omega
    refine ⟨_, rfl, _, _, rfl, rfl, _, rfl, ite2 (fun _ => ?_) (fun _ => ?_)⟩
    · refine ⟨_, rfl, _, rfl, _, rfl, t, rfl, hz, _, rfl, _, _, rfl, rfl, by rw [L, one]; omega, ?_⟩
      refine ⟨_, rfl, _, rfl, _, rfl, t, rfl, hz, _, _, rfl, rfl, by rw [app_len, L, one, R]; omega, fin k44 d4 ?_⟩
      rw [app_len, app_len, L, R, one]
      omega
    refine ⟨_, rfl, _, _, rfl, rfl, _, rfl, ite2 (fun _ => ?_) (fun _ => ?_)⟩
    · refine ⟨_, rfl, _, rfl, _, rfl, t, rfl, hz, _, rfl, _, _, rfl, rfl, by rw [L, one]; omega, ?_⟩
      refine ⟨_, rfl, _, rfl, _, _, rfl, rfl, _, rfl, t, rfl, hz, ?_⟩
      show ∃ i j, V.str (cutS t none (some (a : Int)) ++ (⟨#[c]⟩ : Str)) = .str i ∧ V.str (cutS t (some ((a + 1 : Nat) : Int)) none) = .str j ∧ _
      refine ⟨_, _, rfl, rfl, by rw [app_len, L, one, R]; omega, fin k44 d4 ?_⟩
      rw [app_len, app_len, L, R, one]
      omega
    refine ⟨_, rfl, _, rfl, d, 6, rfl, d4, by decide, fun e es e0 e1 => ?_⟩
    have k5 : Kp d H4 (upd H4 d (.lst (es.map V.int))) := Kp.own
    have d5 : Drw (upd H4 d (.lst (es.map V.int))) d := Drw.own
    generalize upd H4 d (.lst (es.map V.int)) = H5 at k5 d5 ⊢
    refine ⟨_, _, rfl, rfl, _, rfl, _, rfl, d, 6, rfl, d5, by decide, fun m ms m0 m1 => ?_⟩
    have k6 : Kp d H5 (upd H5 d (.lst (ms.map V.int))) := Kp.own
    have d6 : Drw (upd H5 d (.lst (ms.map V.int))) d := Drw.own
    generalize upd H5 d (.lst (ms.map V.int)) = H6 at k6 d6 ⊢
    obtain ⟨e, rfl⟩ : ∃ n : Nat, e = (n : Int) := ⟨e.toNat, by omega⟩
    obtain ⟨m, rfl⟩ : ∃ n : Nat, m = (n : Int) := ⟨m.toNat, by omega⟩
    have b1 := L a
    have b2 := M (a + e) (a + e + m)
    have b3 := M a (a + e)
    have b4 := R (a + e + m)
    refine ⟨_, _, rfl, rfl, ?_⟩
    refine ⟨_, rfl, _, rfl, _, rfl, t, rfl, hz, _, rfl, _, rfl, _, rfl, _, rfl, _, rfl, t, rfl, hz, ?_⟩
    show ∃ i j, V.str (cutS t none (some (a : Int))) = .str i ∧ V.str (cutS t (some ((a + e : Nat) : Int)) (some ((a + e + m : Nat) : Int))) = .str j ∧ _
    refine ⟨_, _, rfl, rfl, by rw [b1, b2]; omega, ?_⟩
    refine ⟨_, rfl, _, rfl, _, rfl, _, rfl, _, rfl, t, rfl, hz, ?_⟩
    show ∃ i j, V.str (cutS t none (some (a : Int)) ++ cutS t (some ((a + e : Nat) : Int)) (some ((a + e + m : Nat) : Int))) = .str i ∧ V.str (cutS t (some (a : Int)) (some ((a + e : Nat) : Int))) = .str j ∧ _
    refine ⟨_, _, rfl, rfl, by rw [app_len, b1, b2, b3]; omega, ?_⟩
    refine ⟨_, rfl, _, rfl, _, rfl, t, rfl, hz, ?_⟩
    show ∃ i j, V.str (cutS t none (some (a : Int)) ++ cutS t (some ((a + e : Nat) : Int)) (some ((a + e + m : Nat) : Int)) ++ cutS t (some (a : Int)) (some ((a + e : Nat) : Int))) = .str i ∧ V.str (cutS t (some ((a + e + m : Nat) : Int)) none) = .str j ∧ _
    refine ⟨_, _, rfl, rfl, by rw [app_len, app_len, b1, b2, b3, b4]; omega, fin (k5.trans k6) d6 ?_⟩
    rw [app_len, app_len, app_len, b1, b2, b3, b4]
    omega
theorem cal_leaf (T : Txt K mg w P) : C8.Cal P w K mg base 2 "_law_leaf" (spLeaf K) [] := by
  have C_law_take : C8.Cal P w K mg base 1 "_law_take" spTake [] := cal_take T
  obtain ⟨f, fd, F, hm, hb⟩ := T.h_law_leaf
  refine ⟨f, fd, _, [], F.ok sc_law_leaf (fun vs H Q E h => ?_) (fun cdv A outer s H vs Q E hr h => ?_), hm, F.kp, hb, .nil⟩
  · obtain ⟨d, n, nm, rfl, _⟩ := h
    rfl
  · obtain ⟨d, n, nm, rfl, hd, hnd, hn, hl, q⟩ := h
    refine ⟨_, (pss_cons
      (ps_set (i := 2) sc_law_leaf.nd rfl (Or.inl rfl) (C8.pe_c C_law_take hr (by decide) (by rfl) (pa_cons (pv 0) (pa_cons pe_int pa_nil))))
      (pss_cons
      (ps_if (PW.pt (pw_or (pt_cmpR op_eq (pe_callB (call_lenK (K := K) rfl) (by rfl) T.z_len PySem.boot_len (pa_cons (pv 1) pa_nil)) pe_int (nomark _)) (pw_or1 (pt_cmpR op_eq (pv 2) pe_int (nomark _))))) (pss_one
      (ps_ret (pe_tup (pa_cons (pe_ix (ix_listK (K := K) rfl) (pe_lst (pa_cons pe_str (pa_cons pe_str pa_nil))) (pe_op op_mod (pv 2) pe_int) (fun _ _ => rfl)) pa_nil)))) pss_nil)
      (pss_one
      (ps_ret (pe_tup (pa_cons pe_str (pa_cons (pe_ix (ix_listK (K := K) rfl) (pv 1) (C8.pe_c C_law_take hr (by decide) (by rfl) (pa_cons (pv 0) (pa_cons (pe_callB (call_lenK (K := K) rfl) (by rfl) T.z_len PySem.boot_len (pa_cons (pv 1) pa_nil)) pa_nil))) (fun _ _ => rfl)) pa_nil))))))), ?_⟩
    refine ⟨_, rfl, d, _, rfl, hd, by decide, fun r ds r0 r1 => ?_⟩
    have k1 : Kp d H (upd H d (.lst (ds.map V.int))) := Kp.own
    have d1 : Drw (upd H d (.lst (ds.map V.int))) d := Drw.own
    have hn1 := k1 _ _ hnd hn
    generalize upd H d (.lst (ds.map V.int)) = H1 at k1 d1 hn1 ⊢
    have lit : ∀ (Q2 : VK), (∀ (H' : Hp) (v : V) (f : Fm), Kp d H H' → Drw H' d → FmAt K H' v f → Wo nm f → sz f ≤ 1 → Q2 v H') → ∀ t, H1 t = none → ∃ p xs i v, V.ref t = V.ref p ∧ V.int (r % 2) = V.int i ∧ SqL K (upd H1 t (.lst [.str "true", .str "false"])) p xs ∧ atI xs i = some v ∧
        ([v].length ≤ sizeLine ∧ ∀ t2, (upd H1 t (.lst [.str "true", .str "false"])) t2 = none → Q2 (.ref t2) (upd (upd H1 t (.lst [.str "true", .str "false"])) t2 (.tup [v]))) := fun Q2 q2 t ht => by
      obtain ⟨z, hz, ha⟩ := pick_at (ss := ["true", "false"]) (i := r % 2) (Int.emod_nonneg _ (by decide)) (Int.emod_lt_of_pos _ (by decide))
      refine ⟨t, _, _, .str z, rfl, rfl, .of upd_same, ha, by show 1 ≤ sizeLine; decide, fun t2 ht2 => ?_⟩
      exact q2 _ _ (.c0 z) (k1.trans ((Kp.new ht).trans (Kp.new ht2))) ((d1.new ht).new ht2) ⟨t2, rfl, .of upd_same⟩ (show z = "true" ∨ z = "false" by simpa using hz) (Nat.le_refl _)
    refine ⟨_, rfl, n, _, rfl, .inl (.of hn1), rfl, _, rfl, ite_eq (fun c => ?_) (fun c => ⟨_, rfl, rfl, _, rfl, ite_eq (fun c2 => ?_) (fun c2 => ?_)⟩)⟩
    · exact ⟨by show 2 ≤ sizeLine; decide, fun t ht => ⟨_, rfl, _, _, rfl, rfl, by show (0 : Int) < 2; decide, lit Q q t ht⟩⟩
    · exact ⟨by show 2 ≤ sizeLine; decide, fun t ht => ⟨_, rfl, _, _, rfl, rfl, by show (0 : Int) < 2; decide, lit Q q t ht⟩⟩
    · rw [List.length_map] at c
      refine ⟨_, rfl, _, rfl, _, rfl, n, _, rfl, .inl (.of hn1), d, _, rfl, d1, by rw [List.length_map]; omega, fun u us u0 u1 => ?_⟩
      rw [List.length_map] at u1
      have k2 : Kp d H1 (upd H1 d (.lst (us.map V.int))) := Kp.own
      have d2 : Drw (upd H1 d (.lst (us.map V.int))) d := Drw.own
      have hn2 := k2 _ _ hnd hn1
      generalize upd H1 d (.lst (us.map V.int)) = H2 at k2 d2 hn2 ⊢
      obtain ⟨z, hz, ha⟩ := pick_at (ss := nm) u0 u1
      refine ⟨n, _, _, .str z, rfl, rfl, .of hn2, ha, by show 2 ≤ sizeLine; decide, fun t ht => ?_⟩
      exact q _ _ (.sg z) (k1.trans (k2.trans (Kp.new ht))) (d2.new ht) ⟨t, rfl, .of upd_same⟩ hz (Nat.le_refl _)
theorem str_ite {k x : Str} {A B : Prop} (h1 : k = x → A) (h2 : k ≠ x → B) : if decide (V.str k = V.str x) = true then A else B := by
  by_cases c : k = x
  · rw [if_pos (by rw [c]; exact decide_eq_true rfl)]
    exact h1 c
  · rw [if_neg (by rw [decide_eq_false (fun z => c (V.str.inj z))]; exact Bool.false_ne_true)]
    exact h2 c
abbrev L7 : List Str := ["next", "eventually", "always", "previous", "weak_previous", "once", "historically"]
abbrev M7 : List Str := ["until", "release", "since", "trigger", "weak_until", "until", "since"]
abbrev L4 : List Str := ["and", "or", "implies", "iff"]
theorem l7_un : ∀ s, s ∈ L7 → s ∈ unOps := by decide
theorem m7_bin : ∀ s, s ∈ M7 → s ∈ binOps := by decide
theorem l4_bin : ∀ s, s ∈ L4 → s ∈ binOps := by decide
/-! how often signs of a kind occur -/
def cnt (ks : List Str) : Fm → Nat
  | .c0 k => if k ∈ ks then 1 else 0
  | .sg _ => if sSig ∈ ks then 1 else 0
  | .un k f => (if k ∈ ks then 1 else 0) + cnt ks f
  | .bin k f g => (if k ∈ ks then 1 else 0) + cnt ks f + cnt ks g
theorem cntK_cons (ks : List Str) (g : Fm) (l : List Fm) : cntK ks (g :: l) = (if kd g ∈ ks then 1 else 0) + cntK ks l := by
  unfold cntK
  by_cases c : kd g ∈ ks
  · rw [List.filter_cons_of_pos (by simpa using c), List.length_cons, if_pos c, Nat.add_comm]
  · rw [List.filter_cons_of_neg (by simpa using c), if_neg c, Nat.zero_add]
theorem cntK_app (ks : List Str) (a b : List Fm) : cntK ks (a ++ b) = cntK ks a + cntK ks b := by
  unfold cntK
  rw [List.filter_append, List.length_append]
theorem cntK_pre (ks : List Str) : ∀ f : Fm, cntK ks (pre f) = cnt ks f
  | .c0 k => by
    show cntK ks [.c0 k] = _
    rw [cntK_cons]
    rfl
  | .sg s => by
    show cntK ks [.sg s] = _
    rw [cntK_cons]
    rfl
  | .un k f => by
    show cntK ks (.un k f :: pre f) = _
    rw [cntK_cons, cntK_pre ks f]
    rfl
  | .bin k f g => by
    show cntK ks (.bin k f g :: (pre f ++ pre g)) = _
    rw [cntK_cons, cntK_app, cntK_pre ks f, cntK_pre ks g, ← Nat.add_assoc]
    rfl
def dblK : List Str := ["iff", "weak_until"]
def Dd : Nat → Nat
  | 0 => 0
  | 1 => 0
  | n + 2 => 1 + 2 * Dd (n + 1)
theorem dd_le (n : Nat) : Dd n ≤ Dd (n + 1) := by
  cases n with
  | zero => exact Nat.zero_le _
  | succ n => show Dd (n + 1) ≤ 1 + 2 * Dd (n + 1); omega
/-- within the budget -/
def Bg (f : Fm) (b : Int) (dp : Nat) : Prop := (cnt tpK f : Int) ≤ b ∧ cnt dblK f ≤ Dd dp
theorem leaf_k : ∀ k ∈ (["true", "false", "signal"] : List Str), k ∉ tpK ∧ k ∉ dblK := by decide +kernel
theorem bg_leaf {nm : List Str} {f : Fm} {b : Int} {n : Nat} (h : Wo nm f) (hz : sz f ≤ 1) (hb : 0 ≤ b) : Bg f b n := by
  cases f with
  | c0 k =>
    have hk : k ∈ (["true", "false", "signal"] : List Str) := by
      have h : k = "true" ∨ k = "false" := h
      rcases h with h | h
      · rw [h]; simp
      · rw [h]; simp
    obtain ⟨h1, h2⟩ := leaf_k k hk
    unfold Bg cnt
    rw [if_neg h1, if_neg h2]
    exact ⟨hb, Nat.zero_le _⟩
  | sg s =>
    obtain ⟨h1, h2⟩ := leaf_k sSig (by simp)
    unfold Bg cnt
    rw [if_neg h1, if_neg h2]
    exact ⟨hb, Nat.zero_le _⟩
  | un k f =>
    have := sz_pos f
    have hz : sz f + 1 ≤ 1 := hz
    omega
  | bin k f g =>
    have := sz_pos f
    have hz : sz f + sz g + 1 ≤ 1 := hz
    omega
theorem un_db : ∀ s ∈ unOps, s ∉ dblK := by decide +kernel
theorem bg_un {s : Str} {g : Fm} {b b2 : Int} {n : Nat} (hs : s ∈ unOps) (h : Bg g b2 n) (hle : (if s ∈ tpK then 1 else 0) + b2 ≤ b) : Bg (.un s g) b (n + 1) := by
  have hd := dd_le n
  have h1 := h.1
  have h2 := h.2
  refine ⟨?_, ?_⟩
  · show (((if s ∈ tpK then 1 else 0) + cnt tpK g : Nat) : Int) ≤ b
    split at hle <;> rename_i c <;> simp only [c, if_true, if_false] <;> omega
  · show (if s ∈ dblK then 1 else 0) + cnt dblK g ≤ _
    rw [if_neg (un_db s hs)]
    omega
theorem bg_bin {s : Str} {g g2 : Fm} {b b1 b2 : Int} {n : Nat} (h : Bg g b1 n) (h' : Bg g2 b2 n) (hle : (if s ∈ tpK then 1 else 0) + b1 + b2 ≤ b) (hdb : n = 0 → s ∉ dblK) : Bg (.bin s g g2) b (n + 1) := by
  have h1 := h.1
  have h2 := h.2
  have h3 := h'.1
  have h4 := h'.2
  refine ⟨?_, ?_⟩
  · show (((if s ∈ tpK then 1 else 0) + cnt tpK g + cnt tpK g2 : Nat) : Int) ≤ b
    split at hle <;> rename_i c <;> simp only [c, if_true, if_false] <;> omega
  · show (if s ∈ dblK then 1 else 0) + cnt dblK g + cnt dblK g2 ≤ _
    cases n with
    | zero =>
      rw [if_neg (hdb rfl)]
      show 0 + cnt dblK g + cnt dblK g2 ≤ 0
      have : Dd 0 = 0 := rfl
      omega
    | succ n =>
      show _ ≤ 1 + 2 * Dd (n + 1)
      split <;> omega
def spForm (K : PySem.W.Frag) : Nat → Sp
  | 0 => fun _ _ _ _ => False
  | dp + 1 => fun vs H Q _ => ∃ (d n : Addr) (nm : List Str) (b : Int), vs = [.ref d, .ref n, .int b, .int (dp : Int)] ∧ Drw H d ∧ n ≠ d ∧ H n = some (.lst (nm.map V.str)) ∧ nm.length ≤ 30 ∧ 0 ≤ b ∧ b ≤ 1000 ∧
    ∀ (H' : Hp) (v : V) (f : Fm), Kp d H H' → Drw H' d → FmAt K H' v f → Wo nm f → Szd f dp → Bg f b dp → Q v H'
theorem l7_tp : ∀ s, s ∈ L7 → s ∈ tpK := by decide +kernel
theorem not_tp : (Str.ofString "not") ∉ tpK := by decide +kernel
theorem m7_tp : ∀ s, s ∈ M7 → s ∈ tpK := by decide +kernel
theorem m7_db : ∀ s, s ∈ M7 → s ≠ "weak_until" → s ∉ dblK := by decide +kernel
theorem l4_tp : ∀ s, s ∈ L4 → s ∉ tpK := by decide +kernel
theorem l4_db : ∀ s, s ∈ L4 → s ≠ "iff" → s ∉ dblK := by decide +kernel
theorem two_pow_pos' (n : Nat) : 1 ≤ 2 ^ n := Nat.one_le_two_pow
theorem cal_form_step {n : Nat} (T : Txt K mg w P) (C_law_formula : C8.Cal P w K mg base (2 + n) "_law_formula" (spForm K n) []) : C8.Cal P w K mg base (2 + n + 1) "_law_formula" (spForm K (n + 1)) [] := by
  have C_law_take : C8.Cal P w K mg base 1 "_law_take" spTake [] := cal_take T
  have C_law_leaf : C8.Cal P w K mg base 2 "_law_leaf" (spLeaf K) [] := cal_leaf T
  obtain ⟨f, fd, F, hm, hb⟩ := T.h_law_formula
  refine ⟨f, fd, _, [], F.ok sc_law_formula (fun vs H Q E h => ?_) (fun cdv A outer s H vs Q E hr h => ?_), hm, F.kp, hb, .nil⟩
  · obtain ⟨d, n, nm, b, rfl, _⟩ := h
    rfl
  · obtain ⟨d, na, nm, b, rfl, hd, hnd, hn, hl, hb0, hb1, q⟩ := h
    refine ⟨_, (pss_cons
      (ps_set (i := 4) sc_law_formula.nd rfl (Or.inl rfl) (C8.pe_c C_law_take hr (by omega) (by rfl) (pa_cons (pv 0) (pa_cons pe_int pa_nil))))
      (pss_cons
      (ps_if (PW.pt (pw_or (pt_cmpR op_eq (pv 3) pe_int (nomark _)) (pw_or1 (pt_cmpR op_lt (pv 4) pe_int (nomark _))))) (pss_one
      (ps_ret (C8.pe_c C_law_leaf hr (by omega) (by rfl) (pa_cons (pv 0) (pa_cons (pv 1) pa_nil))))) pss_nil)
      (C8.pss_cut
      (ps_if (PW.pt (pw_and (pt_cmpR op_gt (pv 2) pe_int (nomark _)) (pw_and1 (pt_cmpR op_lt (pv 4) pe_int (nomark _))))) (pss_cons
      (ps_set (i := 5) sc_law_formula.nd rfl (Or.inl rfl) (pe_lst (pa_cons pe_str (pa_cons pe_str (pa_cons pe_str (pa_cons pe_str (pa_cons pe_str (pa_cons pe_str (pa_cons pe_str pa_nil)))))))))
      (pss_cons
      (ps_if (pt_cmpR op_lt (pv 4) pe_int (nomark _)) (pss_one
      (ps_ret (pe_tup (pa_cons (pe_ix (ix_listK (K := K) rfl) (pv 5) (pe_op op_sub (pv 4) pe_int) (fun _ _ => rfl)) (pa_cons (C8.pe_c C_law_formula hr (by omega) (by rfl) (pa_cons (pv 0) (pa_cons (pv 1) (pa_cons (pe_op op_sub (pv 2) pe_int) (pa_cons (pe_op op_sub (pv 3) pe_int) pa_nil))))) pa_nil))))) pss_nil)
      (pss_cons
      (ps_set (i := 6) sc_law_formula.nd rfl (Or.inl rfl) (pe_ix (ix_listK (K := K) rfl) (pe_lst (pa_cons pe_str (pa_cons pe_str (pa_cons pe_str (pa_cons pe_str (pa_cons pe_str (pa_cons pe_str (pa_cons pe_str pa_nil)))))))) (pe_op op_sub (pv 4) pe_int) (fun _ _ => rfl)))
      (C8.pss_cut
      (ps_if (PW.pt (pw_and (pt_cmpR op_eq (pv 3) pe_int (nomark _)) (pw_and1 (pt_cmpR op_eq (pv 6) pe_str (nomark _))))) (pss_one
      (ps_set (i := 6) sc_law_formula.nd rfl (Or.inl rfl) pe_str)) pss_nil)
      (pss_cons
      (ps_set (i := 7) sc_law_formula.nd rfl (Or.inl rfl) (C8.pe_c C_law_take hr (by omega) (by rfl) (pa_cons (pv 0) (pa_cons (pv 2) pa_nil))))
      (pss_cons
      (ps_set (i := 8) sc_law_formula.nd rfl (Or.inl rfl) (C8.pe_c C_law_formula hr (by omega) (by rfl) (pa_cons (pv 0) (pa_cons (pv 1) (pa_cons (pv 7) (pa_cons (pe_op op_sub (pv 3) pe_int) pa_nil))))))
      (pss_one
      (ps_ret (pe_tup (pa_cons (pv 6) (pa_cons (pv 8) (pa_cons (C8.pe_c C_law_formula hr (by omega) (by rfl) (pa_cons (pv 0) (pa_cons (pv 1) (pa_cons (pe_op op_sub (pe_op op_sub (pv 2) pe_int) (pv 7)) (pa_cons (pe_op op_sub (pv 3) pe_int) pa_nil))))) pa_nil)))))))))))) pss_nil)
      (pss_cons
      (ps_if (pt_cmpR op_eq (pe_op op_mod (pv 4) pe_int) pe_int (nomark _)) (pss_one
      (ps_ret (pe_tup (pa_cons pe_str (pa_cons (C8.pe_c C_law_formula hr (by omega) (by rfl) (pa_cons (pv 0) (pa_cons (pv 1) (pa_cons (pv 2) (pa_cons (pe_op op_sub (pv 3) pe_int) pa_nil))))) pa_nil))))) pss_nil)
      (pss_cons
      (ps_set (i := 6) sc_law_formula.nd rfl (Or.inl rfl) (pe_ix (ix_listK (K := K) rfl) (pe_lst (pa_cons pe_str (pa_cons pe_str (pa_cons pe_str (pa_cons pe_str pa_nil))))) (pe_op op_mod (pv 4) pe_int) (fun _ _ => rfl)))
      (C8.pss_cut
      (ps_if (PW.pt (pw_and (pt_cmpR op_eq (pv 3) pe_int (nomark _)) (pw_and1 (pt_cmpR op_eq (pv 6) pe_str (nomark _))))) (pss_one
      (ps_set (i := 6) sc_law_formula.nd rfl (Or.inl rfl) pe_str)) pss_nil)
      (pss_cons
      (ps_set (i := 7) sc_law_formula.nd rfl (Or.inl rfl) (C8.pe_c C_law_take hr (by omega) (by rfl) (pa_cons (pv 0) (pa_cons (pe_op op_add (pv 2) pe_int) pa_nil))))
      (pss_cons
      (ps_set (i := 8) sc_law_formula.nd rfl (Or.inl rfl) (C8.pe_c C_law_formula hr (by omega) (by rfl) (pa_cons (pv 0) (pa_cons (pv 1) (pa_cons (pv 7) (pa_cons (pe_op op_sub (pv 3) pe_int) pa_nil))))))
      (pss_one
      (ps_ret (pe_tup (pa_cons (pv 6) (pa_cons (pv 8) (pa_cons (C8.pe_c C_law_formula hr (by omega) (by rfl) (pa_cons (pv 0) (pa_cons (pv 1) (pa_cons (pe_op op_sub (pv 2) (pv 7)) (pa_cons (pe_op op_sub (pv 3) pe_int) pa_nil))))) pa_nil)))))))))))))), ?_⟩
    refine ⟨_, rfl, d, _, rfl, hd, by decide, fun r ds r0 r1 => ?_⟩
    have k1 : Kp d H (upd H d (.lst (ds.map V.int))) := Kp.own
    have d1 : Drw (upd H d (.lst (ds.map V.int))) d := Drw.own
    have hn1 := k1 _ _ hnd hn
    generalize upd H d (.lst (ds.map V.int)) = H1 at k1 d1 hn1 ⊢
    have leaf : tRet (tCall (spLeaf K) [] C8.E0 (tCons (tVar 0) (tCons (tVar 1) tNil))) { nx := fun _ _ => True, rt := Q } [some (.ref d), some (.ref na), some (.int b), some (.int (n : Int)), some (.int r), none, none, none, none] H1 := by
      refine ⟨_, rfl, _, rfl, d, na, nm, rfl, d1, hnd, hn1, hl, fun H2 v g k2 d2 g2 w2 z2 => q H2 v g (k1.trans k2) d2 g2 w2 (szd_leaf z2 n) (bg_leaf w2 z2 hb0)⟩
    refine ⟨_, rfl, rfl, _, rfl, ite_eq (fun _ => leaf) (fun cn => ⟨_, rfl, _, _, rfl, rfl, _, rfl, ite_lt (fun _ => leaf) (fun c3 => ?_)⟩)⟩
    clear leaf
    obtain ⟨n', rfl⟩ : ∃ n', n = n' + 1 := ⟨n - 1, by omega⟩
    have hdp : (((n' + 1 : Nat) : Int) - 1) = (n' : Int) := by omega
    have rcl : ∀ (H2 : Hp) (b2 : Int) (Q2 : VK) (E2 : XK), Kp d H H2 → Drw H2 d → 0 ≤ b2 → b2 ≤ 1000 → (∀ (H' : Hp) (v : V) (g : Fm), Kp d H2 H' → Drw H' d → FmAt K H' v g → Wo nm g → Szd g n' → Bg g b2 n' → Q2 v H') → spForm K (n' + 1) [.ref d, .ref na, .int b2, .int (((n' + 1 : Nat) : Int) - 1)] H2 Q2 E2 := fun H2 b2 Q2 E2 k2 d2 z0 z1 q2 =>
      ⟨d, na, nm, b2, by rw [hdp], d2, hnd, k2 _ _ hnd hn, hl, z0, z1, q2⟩
    have fin1 : ∀ (H2 H3 : Hp) (s : Str) (v : V) (g : Fm) (b2 : Int), Kp d H H2 → Drw H2 d → s ∈ unOps → FmAt K H2 v g → Wo nm g → Szd g n' → Bg g b2 n' → (if s ∈ tpK then 1 else 0) + b2 ≤ b → ∀ t, H2 t = none → Q (.ref t) (upd H2 t (.tup [.str s, v])) := fun H2 H3 s v g b2 k2 d2 hs hg hw hz hy hle t ht =>
      q _ _ (.un s g) (k2.trans (Kp.new ht)) (d2.new ht) ⟨t, v, rfl, .of upd_same, hg.same (same_new ht)⟩ ⟨hs, hw⟩ (szd_un s hz) (bg_un hs hy hle)
    have fin2 : ∀ (H2 : Hp) (s : Str) (v u : V) (g g2 : Fm) (b1 b2 : Int), Kp d H H2 → Drw H2 d → s ∈ binOps → FmAt K H2 v g → Wo nm g → Szd g n' → Bg g b1 n' → FmAt K H2 u g2 → Wo nm g2 → Szd g2 n' → Bg g2 b2 n' → (if s ∈ tpK then 1 else 0) + b1 + b2 ≤ b → (n' = 0 → s ∉ dblK) → ∀ t, H2 t = none → Q (.ref t) (upd H2 t (.tup [.str s, v, u])) := fun H2 s v u g g2 b1 b2 k2 d2 hs hg hw hz hy hg2 hw2 hz2 hy2 hle hdb t ht =>
      q _ _ (.bin s g g2) (k2.trans (Kp.new ht)) (d2.new ht) ⟨t, v, u, rfl, .of upd_same, hg.same (same_new ht), hg2.same (same_new ht)⟩ ⟨hs, hw, hw2⟩ (szd_bin s hz hz2) (bg_bin hy hy2 hle hdb)
    refine ⟨fun σ H' => σ = [some (.ref d), some (.ref na), some (.int b), some (.int ((n' + 1 : Nat) : Int)), some (.int r), none, none, none, none] ∧ H1 = H', ?_, ?_⟩
    · refine ⟨_, rfl, _, _, rfl, rfl, _, rfl, ite_lt (fun c1 => ⟨_, rfl, _, _, rfl, rfl, _, rfl, ite_lt (fun c2 => ?_) (fun _ => ⟨rfl, rfl⟩)⟩) (fun _ => ⟨rfl, rfl⟩)⟩
      refine ⟨by show 7 ≤ sizeLine; decide, fun t1 n1 => ?_⟩
      have k2 := k1.trans (Kp.new (o := .lst (L7.map V.str)) n1)
      have d2 := d1.new (o := .lst (L7.map V.str)) n1
      refine ⟨_, rfl, _, _, rfl, rfl, _, rfl, ite_lt (fun c4 => ?_) (fun c4 => ?_)⟩
      · obtain ⟨s, hs, ha⟩ := pick_at (ss := L7) (i := r - 3) (by omega) (by show r - 3 < 7; omega)
        refine ⟨_, rfl, _, rfl, _, _, rfl, rfl, t1, _, _, .str s, rfl, rfl, .of upd_same, ha, ?_⟩
        refine ⟨_, rfl, _, rfl, _, rfl, _, _, rfl, rfl, _, rfl, _, _, rfl, rfl, rcl _ _ _ C8.E0 k2 d2 (by omega) (by omega) fun H3 v g k3 d3 g3 w3 z3 y3 => ?_⟩
        exact ⟨by show 2 ≤ sizeLine; decide, fun t ht => fin1 _ H3 s v g _ (k2.trans k3) d3 (l7_un s hs) g3 w3 z3 y3 (by rw [if_pos (l7_tp s hs)]; omega) t ht⟩
      · obtain ⟨s, hs, ha⟩ := pick_at (ss := M7) (i := r - 10) (by omega) (by show r - 10 < 7; omega)
        refine ⟨by show 7 ≤ sizeLine; decide, fun t2 n2 => ?_⟩
        have k3 := k2.trans (Kp.new (o := .lst (M7.map V.str)) n2)
        have d3 := d2.new (o := .lst (M7.map V.str)) n2
        refine ⟨_, rfl, _, _, rfl, rfl, t2, _, _, .str s, rfl, rfl, .of upd_same, ha, ?_⟩
        refine ⟨fun σ H' => ∃ s' : Str, s' ∈ binOps ∧ s' ∈ tpK ∧ (n' = 0 → s' ∉ dblK) ∧ σ = [some (.ref d), some (.ref na), some (.int b), some (.int ((n' + 1 : Nat) : Int)), some (.int r), some (.ref t1), some (.str s'), none, none] ∧ Kp d H H' ∧ Drw H' d, ?_, ?_⟩
        · refine ⟨_, rfl, rfl, _, rfl, ite_eq (fun _ => ⟨_, rfl, rfl, _, rfl, str_ite (fun _ => ?_) (fun hne => ?_)⟩) (fun hn1 => ?_)⟩
          · exact ⟨_, by decide, by decide, fun _ => by decide, rfl, k3, d3⟩
          · exact ⟨s, m7_bin s hs, m7_tp s hs, fun _ => m7_db s hs hne, rfl, k3, d3⟩
          · exact ⟨s, m7_bin s hs, m7_tp s hs, fun z => absurd (by rw [z]; rfl) hn1, rfl, k3, d3⟩
        · rintro σ H4 ⟨s', hs', htp, hdb, rfl, k4, d4⟩
          refine ⟨_, rfl, _, rfl, d, _, rfl, d4, c1, fun u us u0 u1 => ?_⟩
          have k5 : Kp d H (upd H4 d (.lst (us.map V.int))) := k4.trans Kp.own
          have d5 : Drw (upd H4 d (.lst (us.map V.int))) d := Drw.own
          generalize upd H4 d (.lst (us.map V.int)) = H5 at k5 d5 ⊢
          refine ⟨_, rfl, _, rfl, _, rfl, _, rfl, _, _, rfl, rfl, rcl _ _ _ C8.E0 k5 d5 (by omega) (by omega) fun H6 v g k6 d6 g6 w6 z6 y6 => ?_⟩
          refine ⟨_, rfl, _, rfl, _, rfl, _, rfl, _, rfl, _, _, rfl, rfl, _, rfl, _, _, rfl, rfl, _, rfl, _, _, rfl, rfl, rcl _ _ _ C8.E0 (k5.trans k6) d6 (by omega) (by omega) fun H7 v2 g2 k7 d7 g7 w7 z7 y7 => ?_⟩
          obtain ⟨ys, hys⟩ := d6
          exact ⟨by show 3 ≤ sizeLine; decide, fun t ht => fin2 H7 s' v v2 g g2 _ _ ((k5.trans k6).trans k7) d7 hs' (g6.kp hys k7) w6 z6 y6 g7 w7 z7 y7 (by rw [if_pos htp]; omega) hdb t ht⟩
    · rintro σ H' ⟨rfl, rfl⟩
      refine ⟨_, rfl, _, _, rfl, rfl, by show (0 : Int) < 5; decide, rfl, _, rfl, ite_eq (fun _ => ?_) (fun _ => ?_)⟩
      · refine ⟨_, rfl, _, rfl, _, rfl, _, rfl, _, _, rfl, rfl, rcl _ _ _ C8.E0 k1 d1 hb0 hb1 fun H3 v g k3 d3 g3 w3 z3 y3 => ?_⟩
        exact ⟨by show 2 ≤ sizeLine; decide, fun t ht => fin1 _ H3 _ v g _ (k1.trans k3) d3 (by decide) g3 w3 z3 y3 (by rw [if_neg not_tp]; omega) t ht⟩
      · obtain ⟨s, hs, ha⟩ := pick_at (ss := L4) (i := r % 4) (Int.emod_nonneg _ (by decide)) (Int.emod_lt_of_pos _ (by decide))
        refine ⟨by show 4 ≤ sizeLine; decide, fun t2 n2 => ?_⟩
        have k3 := k1.trans (Kp.new (o := .lst (L4.map V.str)) n2)
        have d3 := d1.new (o := .lst (L4.map V.str)) n2
        refine ⟨_, rfl, _, _, rfl, rfl, by show (0 : Int) < 4; decide, t2, _, _, .str s, rfl, rfl, .of upd_same, ha, ?_⟩
        refine ⟨fun σ H' => ∃ s' : Str, s' ∈ binOps ∧ s' ∉ tpK ∧ (n' = 0 → s' ∉ dblK) ∧ σ = [some (.ref d), some (.ref na), some (.int b), some (.int ((n' + 1 : Nat) : Int)), some (.int r), none, some (.str s'), none, none] ∧ Kp d H H' ∧ Drw H' d, ?_, ?_⟩
        · refine ⟨_, rfl, rfl, _, rfl, ite_eq (fun _ => ⟨_, rfl, rfl, _, rfl, str_ite (fun _ => ?_) (fun hne => ?_)⟩) (fun hn1 => ?_)⟩
          · exact ⟨_, by decide, by decide, fun _ => by decide, rfl, k3, d3⟩
          · exact ⟨s, l4_bin s hs, l4_tp s hs, fun _ => l4_db s hs hne, rfl, k3, d3⟩
          · exact ⟨s, l4_bin s hs, l4_tp s hs, fun z => absurd (by rw [z]; rfl) hn1, rfl, k3, d3⟩
        · rintro σ H4 ⟨s', hs', htp, hdb, rfl, k4, d4⟩
          refine ⟨_, rfl, _, rfl, _, _, rfl, rfl, d, _, rfl, d4, by omega, fun u us u0 u1 => ?_⟩
          have k5 : Kp d H (upd H4 d (.lst (us.map V.int))) := k4.trans Kp.own
          have d5 : Drw (upd H4 d (.lst (us.map V.int))) d := Drw.own
          generalize upd H4 d (.lst (us.map V.int)) = H5 at k5 d5 ⊢
          refine ⟨_, rfl, _, rfl, _, rfl, _, rfl, _, _, rfl, rfl, rcl _ _ _ C8.E0 k5 d5 (by omega) (by omega) fun H6 v g k6 d6 g6 w6 z6 y6 => ?_⟩
          refine ⟨_, rfl, _, rfl, _, rfl, _, rfl, _, rfl, _, rfl, _, _, rfl, rfl, _, rfl, _, _, rfl, rfl, rcl _ _ _ C8.E0 (k5.trans k6) d6 (by omega) (by omega) fun H7 v2 g2 k7 d7 g7 w7 z7 y7 => ?_⟩
          obtain ⟨ys, hys⟩ := d6
          exact ⟨by show 3 ≤ sizeLine; decide, fun t ht => fin2 H7 s' v v2 g g2 _ _ ((k5.trans k6).trans k7) d7 hs' (g6.kp hys k7) w6 z6 y6 g7 w7 z7 y7 (by rw [if_neg htp]; omega) hdb t ht⟩
theorem cal_form (T : Txt K mg w P) : ∀ n, C8.Cal P w K mg base (2 + n) "_law_formula" (spForm K n) []
  | 0 => by
    obtain ⟨f, fd, F, hm, hb⟩ := T.h_law_formula
    exact ⟨f, fd, _, [], ⟨fun vs H Q E h => h.elim, fun A outer s H args us vs Q E _ _ _ _ h => h.elim⟩, hm, F.kp, hb, .nil⟩
  | n + 1 => cal_form_step T (cal_form T n)
def GoodP (nm : List Str) (b : Int) (p : Pr) : Prop := Wo (nm ++ hdP p) (foP p) ∧ Szd (foP p) 3 ∧ Bg (foP p) b 3 ∧ match p with
  | .f _ => True
  | .q k hs _ => k ∈ (["exists", "forall"] : List Str) ∧ hs ∈ ([["h1"], ["h1", "k2"]] : List (List Str))
theorem hs_len : ∀ hs ∈ ([["h1"], ["h1", "k2"]] : List (List Str)), hs.length ≤ 2 := by decide +kernel
def spPrp (K : PySem.W.Frag) : Sp := fun vs H Q _ => ∃ (d n : Addr) (nm : List Str) (b : Int), vs = [.ref d, .ref n, .int b, .int 3, .int 4] ∧ Drw H d ∧ n ≠ d ∧ H n = some (.lst (nm.map V.str)) ∧ nm.length ≤ 20 ∧ 0 ≤ b ∧ b ≤ 5 ∧
  ∀ (H' : Hp) (v : V) (p : Pr), Kp d H H' → Drw H' d → PvAt K H' v p → GoodP nm b p → Q v H'
theorem hid_q {H : Hp} {a : Addr} {j : Int} {Q : VK} (h : SqT K H a [.str "h1", .str "k2"]) (hh : H a = some (.tup [.str "h1", .str "k2"])) (hj : j = 1 ∨ j = 2) (q : ∀ (H' : Hp) (b : Addr) (hs : List Str), Same H H' → (∀ d, Kp d H H') → (∀ d, Drw H d → Drw H' d) → H' b = some (.tup (hs.map V.str)) → hs ∈ ([["h1"], ["h1", "k2"]] : List (List Str)) → Q (.ref b) H') : rSlA K (.ref a) none (some j) H Q := by
  rcases hj with rfl | rfl
  · refine ⟨a, _, rfl, h, fun z => absurd z.2 (by show ¬ HT.sIx 2 2 (some 1) = 2; decide), fun _ p hp => ?_⟩
    exact q _ p ["h1"] (same_new hp) (fun d => Kp.new hp) (fun d hd => hd.new hp) upd_same (by simp)
  · refine ⟨a, _, rfl, h, fun _ => ?_, fun z => absurd ⟨(show HT.sIx 2 0 none = 0 by decide), (show HT.sIx 2 2 (some 2) = 2 by decide)⟩ z⟩
    exact q H a ["h1", "k2"] (Same.refl H) (fun d _ _ _ hb => hb) (fun d hd => hd) hh (by simp)
theorem cal_prp (T : Txt K mg w P) : C8.Cal P w K mg base 7 "_law_property" (spPrp K) [] := by
  have C_law_take : C8.Cal P w K mg base 1 "_law_take" spTake [] := cal_take T
  have C_law_formula : C8.Cal P w K mg base 6 "_law_formula" (spForm K 4) [] := cal_form T 4
  obtain ⟨f, fd, F, hm, hb⟩ := T.h_law_property
  refine ⟨f, fd, _, [], F.ok sc_law_property (fun vs H Q E h => ?_) (fun cdv A outer s H vs Q E hr h => ?_), hm, F.kp, hb, .nil⟩
  · obtain ⟨d, n, nm, b0, rfl, _⟩ := h
    rfl
  · obtain ⟨d, n, nm, b0, rfl, hd, nd, hn, hl, hb0, hb5, q⟩ := h
    refine ⟨_, (pss_cons
      (ps_if (pt_cmpR op_ge (C8.pe_c C_law_take hr (by decide) (by rfl) (pa_cons (pv 0) (pa_cons pe_int pa_nil))) (pv 4) (nomark _)) (pss_one
      (ps_ret (C8.pe_c C_law_formula hr (by decide) (by rfl) (pa_cons (pv 0) (pa_cons (pv 1) (pa_cons (pv 2) (pa_cons (pv 3) pa_nil))))))) pss_nil)
      (pss_cons
      (ps_set (i := 5) sc_law_property.nd rfl (Or.inl rfl) (pe_slice (sl_tupK (K := K) rfl) (pe_tup (pa_cons pe_str (pa_cons pe_str pa_nil))) po_none (po_some (pe_op op_add pe_int (pe_op op_fdiv (C8.pe_c C_law_take hr (by decide) (by rfl) (pa_cons (pv 0) (pa_cons pe_int pa_nil))) pe_int)))))
      (pss_cons
      (ps_set (i := 6) sc_law_property.nd rfl (Or.inl rfl) (C8.pe_c C_law_formula hr (by decide) (by rfl) (pa_cons (pv 0) (pa_cons (pe_op op_cat (pe_callTy (call_list_ofK (K := K) rfl) (by rfl) T.z_list (by decide +kernel) (pa_cons (pv 1) pa_nil)) (pe_callTy (call_list_ofK (K := K) rfl) (by rfl) T.z_list (by decide +kernel) (pa_cons (pv 5) pa_nil))) (pa_cons (pe_callB (call_min2 rfl) (by rfl) T.z_min (by decide +kernel) (pa_cons (pv 2) (pa_cons pe_int pa_nil))) (pa_cons (pv 3) pa_nil))))))
      (pss_one
      (ps_ret (pe_tup (pa_cons (pe_ix (ix_listK (K := K) rfl) (pe_lst (pa_cons pe_str (pa_cons pe_str pa_nil))) (C8.pe_c C_law_take hr (by decide) (by rfl) (pa_cons (pv 0) (pa_cons pe_int pa_nil))) (fun _ _ => rfl)) (pa_cons (pv 5) (pa_cons (pv 6) pa_nil))))))))), ?_⟩
    refine ⟨_, rfl, d, 12, rfl, hd, by decide, fun r ds r0 r1 => ?_⟩
    have k1 : Kp d H (upd H d (.lst (ds.map V.int))) := Kp.own
    have d1 : Drw (upd H d (.lst (ds.map V.int))) d := Drw.own
    have hn1 := k1 _ _ nd hn
    generalize upd H d (.lst (ds.map V.int)) = H1 at k1 d1 hn1 ⊢
    refine ⟨_, rfl, _, _, rfl, rfl, _, rfl, ite2 (fun c => ?_) (fun c => ?_)⟩
    · refine ⟨_, rfl, _, rfl, _, rfl, _, rfl, d, n, nm, b0, rfl, d1, nd, hn1, by omega, hb0, by omega, fun H' v g k2 d2 F2 W2 Z2 Y2 => ?_⟩
      exact q H' v (.f g) (k1.trans k2) d2 F2 ⟨by show Wo (nm ++ []) g; rw [List.append_nil]; exact W2, Z2, Y2, trivial⟩
    · refine ⟨sz2, fun t ht => ?_⟩
      have ntd : t ≠ d := fun e => by
        obtain ⟨ys, hy⟩ := d1
        rw [e, hy] at ht
        cases ht
      have s2 := same_new (o := .tup [.str "h1", .str "k2"]) ht
      have e2 := upd_same (H := H1) (a := t) (o := .tup [.str "h1", .str "k2"])
      have d2 := d1.new (o := .tup [.str "h1", .str "k2"]) ht
      have hn2 := s2 _ _ hn1
      have k2 : Kp d H1 (upd H1 t (.tup [.str "h1", .str "k2"])) := Kp.new ht
      generalize upd H1 t (.tup [.str "h1", .str "k2"]) = H2 at s2 e2 d2 hn2 k2 ⊢
      refine ⟨_, rfl, d, 5, rfl, d2, by decide, fun u us u0 u1 => ?_⟩
      have k3 : Kp d H2 (upd H2 d (.lst (us.map V.int))) := Kp.own
      have d3 : Drw (upd H2 d (.lst (us.map V.int))) d := Drw.own
      have hn3 := k3 _ _ nd hn2
      have e3 := k3 _ _ ntd e2
      generalize upd H2 d (.lst (us.map V.int)) = H3 at k3 d3 hn3 e3 ⊢
      refine ⟨_, _, rfl, rfl, ⟨by decide, by decide⟩, _, _, rfl, rfl, _, rfl, ?_⟩
      show rSlA K (.ref t) none (some (1 + u / 4)) H3 _
      refine hid_q (.of e3) e3 (by omega) fun H4 b hs s4 k4 d4 eb hin => ?_
      have hhl : hs.length ≤ 2 := hs_len hs hin
      have hbm : (if (2 : Int) < b0 then 2 else b0) ≤ b0 := by split <;> omega
      have hn4 := s4 _ _ hn3
      have d4' := d4 _ d3
      have nbd : b ≠ d := fun e => by
        obtain ⟨ys, hy⟩ := d4'
        rw [e, hy] at eb
        cases eb
      refine ⟨_, rfl, _, rfl, n, _, rfl, .inl (.of hn4), fun D1 hD1 => ?_⟩
      have s5 := same_new (o := .lst (nm.map V.str)) hD1
      have e5 := upd_same (H := H4) (a := D1) (o := .lst (nm.map V.str))
      have k5 : Kp d H4 (upd H4 D1 (.lst (nm.map V.str))) := Kp.new hD1
      have d5 := d4'.new (o := .lst (nm.map V.str)) hD1
      have eb5 := s5 _ _ eb
      generalize upd H4 D1 (.lst (nm.map V.str)) = H5 at s5 e5 k5 d5 eb5 ⊢
      refine ⟨_, rfl, b, _, rfl, .inr (.of eb5), fun D2 hD2 => ?_⟩
      have s6 := same_new (o := .lst (hs.map V.str)) hD2
      have e6 := upd_same (H := H5) (a := D2) (o := .lst (hs.map V.str))
      have e56 := s6 _ _ e5
      have k6 : Kp d H5 (upd H5 D2 (.lst (hs.map V.str))) := Kp.new hD2
      have d6 := d5.new (o := .lst (hs.map V.str)) hD2
      have eb6 := s6 _ _ eb5
      generalize upd H5 D2 (.lst (hs.map V.str)) = H6 at s6 e6 e56 k6 d6 eb6 ⊢
      refine ⟨D1, D2, _, _, rfl, rfl, e56, e6, by rw [List.length_map, List.length_map]; exact Nat.le_trans (show nm.length + hs.length ≤ 30 by omega) (by decide), fun c hc => ?_⟩
      have s7 := same_new (o := .lst (nm.map V.str ++ hs.map V.str)) hc
      have e7 : (upd H6 c (.lst (nm.map V.str ++ hs.map V.str))) c = some (.lst ((nm ++ hs).map V.str)) := by rw [upd_same, List.map_append]
      have k7 : Kp d H6 (upd H6 c (.lst (nm.map V.str ++ hs.map V.str))) := Kp.new hc
      have d7 := d6.new (o := .lst (nm.map V.str ++ hs.map V.str)) hc
      have ncd : c ≠ d := fun e => by
        obtain ⟨ys, hy⟩ := d6
        rw [e, hy] at hc
        cases hc
      have eb7 := s7 _ _ eb6
      generalize upd H6 c (.lst (nm.map V.str ++ hs.map V.str)) = H7 at s7 e7 k7 d7 eb7 ⊢
      refine ⟨_, rfl, _, _, rfl, _, rfl, d, c, nm ++ hs, (if (2 : Int) < b0 then 2 else b0), rfl, d7, ncd, e7, by rw [List.length_append]; omega, by split <;> omega, by split <;> omega, fun H8 v g k8 d8 F8 W8 Z8 Y8 => ?_⟩
      have eb8 := k8 _ _ nbd eb7
      refine ⟨sz2, fun l hl2 => ?_⟩
      have s9 := same_new (o := .lst [.str "exists", .str "forall"]) hl2
      have e9 := upd_same (H := H8) (a := l) (o := .lst [.str "exists", .str "forall"])
      have k9 : Kp d H8 (upd H8 l (.lst [.str "exists", .str "forall"])) := Kp.new hl2
      have d9 := d8.new (o := .lst [.str "exists", .str "forall"]) hl2
      have nld : l ≠ d := fun e => by
        obtain ⟨ys, hy⟩ := d8
        rw [e, hy] at hl2
        cases hl2
      have eb9 := s9 _ _ eb8
      have F9 := F8.same s9
      generalize upd H8 l (.lst [.str "exists", .str "forall"]) = H9 at s9 e9 k9 d9 eb9 F9 ⊢
      refine ⟨_, rfl, d, 2, rfl, d9, by decide, fun j js j0 j1 => ?_⟩
      obtain ⟨ys9, hy9⟩ := id d9
      have kA : Kp d H9 (upd H9 d (.lst (js.map V.int))) := Kp.own
      have dA : Drw (upd H9 d (.lst (js.map V.int))) d := Drw.own
      have eA := kA _ _ nld e9
      have ebA := kA _ _ nbd eb9
      have FA := F9.kp hy9 kA
      generalize upd H9 d (.lst (js.map V.int)) = HA at kA dA eA ebA FA ⊢
      obtain ⟨z, hz, hat⟩ := pick_at (ss := ["exists", "forall"]) (i := j) j0 (by show j < 2; exact j1)
      refine ⟨l, _, _, .str z, rfl, rfl, .of eA, hat, _, rfl, _, rfl, sz3, fun p hp => ?_⟩
      have sB := same_new (o := .tup [.str z, .ref b, v]) hp
      refine q _ _ (.q z hs g) ?_ (dA.new hp) ⟨p, b, v, rfl, .of upd_same, .of (sB _ _ ebA), FA.same sB⟩ ⟨W8, Z8, ⟨Int.le_trans Y8.1 hbm, Y8.2⟩, hz, hin⟩
      exact k1.trans (k2.trans (k3.trans ((k4 d).trans (k5.trans (k6.trans (k7.trans (k8.trans (k9.trans (kA.trans (Kp.new hp))))))))))
/-! the law's own printing -/
abbrev L1 : List (Str × Str) := [("not", "!"), ("next", "X"), ("eventually", "F"), ("always", "G"), ("previous", "Y"), ("weak_previous", "Z")]
abbrev L2' : List (Str × Str) := [("once", "O"), ("historically", "H"), ("and", "&"), ("or", "|"), ("implies", "->"), ("iff", "<->")]
abbrev L3' : List (Str × Str) := [("until", "U"), ("weak_until", "W"), ("release", "R"), ("since", "S"), ("trigger", "T")]
abbrev dsp (l : List (Str × Str)) : List (L2.Key × V) := l.map fun p => (Sum.inr p.1, V.str p.2)
def sgL (k : Str) : V := (valV (mergeK [] (dsp L1)) (Sum.inr k)).getD ((valV (mergeK [] (dsp L2')) (Sum.inr k)).getD ((valV (mergeK [] (dsp L3')) (Sum.inr k)).getD (.str "")))
theorem sgL_un : ∀ k ∈ unOps, sgL k = V.str (psg k) := by decide +kernel
theorem sgL_bin : ∀ k ∈ binOps, sgL k = V.str (isg k) := by decide +kernel
def spLp (K : PySem.W.Frag) : Nat → Sp
  | 0 => fun _ _ _ _ => False
  | n + 1 => fun vs H Q _ => ∃ (v : V) (f : Fm), vs = [v] ∧ FmAt K H v f ∧ Okf f ∧ dpt f ≤ n ∧ (prF f).length ≤ 100000 ∧ ∀ H', Same H H' → Q (.str (prF f)) H'
theorem cal_lp_step {n : Nat} (T : Txt K mg w P) (C_law_print : C8.Cal P w K mg base (1 + n) "_law_print" (spLp K n) []) : C8.Cal P w K mg base (1 + n + 1) "_law_print" (spLp K (n + 1)) [] := by
  obtain ⟨f, fd, F, hm, hb⟩ := T.h_law_print
  refine ⟨f, fd, _, [], F.ok sc_law_print (fun vs H Q E h => ?_) (fun cdv A outer s H vs Q E hr h => ?_), hm, F.kp, hb, .nil⟩
  · obtain ⟨v, f, rfl, _⟩ := h
    rfl
  · obtain ⟨v, f, rfl, hf, ho, hd, hl, q⟩ := h
    refine ⟨_, (pss_cons
      (ps_set (i := 1) sc_law_print.nd rfl (Or.inl rfl) (pe_disp (pps_cons pe_str pe_str (pps_cons pe_str pe_str (pps_cons pe_str pe_str (pps_cons pe_str pe_str (pps_cons pe_str pe_str (pps_cons pe_str pe_str pps_nil)))))) rfl rfl (by simp) (by decide)))
      (pss_cons
      (ps_set (i := 2) sc_law_print.nd rfl (Or.inl rfl) (pe_disp (pps_cons pe_str pe_str (pps_cons pe_str pe_str (pps_cons pe_str pe_str (pps_cons pe_str pe_str (pps_cons pe_str pe_str (pps_cons pe_str pe_str pps_nil)))))) rfl rfl (by simp) (by decide)))
      (pss_cons
      (ps_set (i := 3) sc_law_print.nd rfl (Or.inl rfl) (pe_disp (pps_cons pe_str pe_str (pps_cons pe_str pe_str (pps_cons pe_str pe_str (pps_cons pe_str pe_str (pps_cons pe_str pe_str pps_nil))))) rfl rfl (by simp) (by decide)))
      (pss_cons
      (ps_set (i := 4) sc_law_print.nd rfl (Or.inl rfl) (pe_ix (ix_tupK (K := K) rfl) (pv 0) pe_int (fun _ _ => rfl)))
      (pss_cons
      (ps_if (pt_cmpR op_eq (pv 4) pe_str (nomark _)) (pss_one
      (ps_ret (pe_ix (ix_tupK (K := K) rfl) (pv 0) pe_int (fun _ _ => rfl)))) pss_nil)
      (pss_cons
      (ps_if (pt_cmpR op_eq (pe_callB (call_lenK (K := K) rfl) (by rfl) T.z_len PySem.boot_len (pa_cons (pv 0) pa_nil)) pe_int (nomark _)) (pss_one
      (ps_ret (pv 4))) pss_nil)
      (pss_cons
      (ps_set (i := 5) sc_law_print.nd rfl (Or.inl rfl) (pe_dget2 (hu_of hr) (pv 1) (pv 4) (pe_dget2 (hu_of hr) (pv 2) (pv 4) (pe_dget2 (hu_of hr) (pv 3) (pv 4) pe_str ⟨rfl, rfl, rfl, rfl⟩) ⟨rfl, rfl, rfl, rfl⟩) ⟨rfl, rfl, rfl, rfl⟩))
      (pss_cons
      (ps_if (pt_cmpR op_eq (pe_callB (call_lenK (K := K) rfl) (by rfl) T.z_len PySem.boot_len (pa_cons (pv 0) pa_nil)) pe_int (nomark _)) (pss_one
      (ps_ret (pe_op op_add_str (pv 5) (C8.pe_c C_law_print hr (by omega) (by rfl) (pa_cons (pe_ix (ix_tupK (K := K) rfl) (pv 0) pe_int (fun _ _ => rfl)) pa_nil))))) pss_nil)
      (pss_one
      (ps_ret (pe_op op_add_str (pe_op op_add_str (pe_op op_add_str (pe_op op_add_str (pe_op op_add_str (pe_op op_add_str pe_str (C8.pe_c C_law_print hr (by omega) (by rfl) (pa_cons (pe_ix (ix_tupK (K := K) rfl) (pv 0) pe_int (fun _ _ => rfl)) pa_nil))) pe_str) (pv 5)) pe_str) (C8.pe_c C_law_print hr (by omega) (by rfl) (pa_cons (pe_ix (ix_tupK (K := K) rfl) (pv 0) pe_int (fun _ _ => rfl)) pa_nil))) pe_str))))))))))), ?_⟩
    have big : (100000 : Nat) ≤ sizeLine := by decide
    refine fun D1 n1 => ⟨upd_same, dsp L1, rfl, by decide, ?_⟩
    have s1 : Same H (upd (upd H D1 (.dK [])) D1 (.dK (mergeK [] (dsp L1)))) := fun b o e => by rw [upd_ne (ne_of_none e n1), upd_ne (ne_of_none e n1)]; exact e
    have e1 : (upd (upd H D1 (.dK [])) D1 (.dK (mergeK [] (dsp L1)))) D1 = some (.dK (mergeK [] (dsp L1))) := upd_same
    generalize upd (upd H D1 (.dK [])) D1 (.dK (mergeK [] (dsp L1))) = H1 at s1 e1 ⊢
    refine fun D2 n2 => ⟨upd_same, dsp L2', rfl, by decide, ?_⟩
    have s2 : Same H1 (upd (upd H1 D2 (.dK [])) D2 (.dK (mergeK [] (dsp L2')))) := fun b o e => by rw [upd_ne (ne_of_none e n2), upd_ne (ne_of_none e n2)]; exact e
    have e2 : (upd (upd H1 D2 (.dK [])) D2 (.dK (mergeK [] (dsp L2')))) D2 = some (.dK (mergeK [] (dsp L2'))) := upd_same
    generalize upd (upd H1 D2 (.dK [])) D2 (.dK (mergeK [] (dsp L2'))) = H2 at s2 e2 ⊢
    refine fun D3 n3 => ⟨upd_same, dsp L3', rfl, by decide, ?_⟩
    have s3 : Same H2 (upd (upd H2 D3 (.dK [])) D3 (.dK (mergeK [] (dsp L3')))) := fun b o e => by rw [upd_ne (ne_of_none e n3), upd_ne (ne_of_none e n3)]; exact e
    have e3 : (upd (upd H2 D3 (.dK [])) D3 (.dK (mergeK [] (dsp L3')))) D3 = some (.dK (mergeK [] (dsp L3'))) := upd_same
    generalize upd (upd H2 D3 (.dK [])) D3 (.dK (mergeK [] (dsp L3'))) = H3 at s3 e3 ⊢
    have e23 := s3 _ _ e2
    have e13 := s3 _ _ (s2 _ _ e1)
    have s03 := (s1.trans s2).trans s3
    have hf3 := hf.same s03
    clear s1 s2 s3 e1 e2 n1 n2 n3 hf
    have nz : ∀ {k : Str}, k ≠ sSig → (decide (V.str k = V.str "signal")) = false := fun hk => decide_eq_false fun z => hk (V.str.inj z)
    have call : ∀ (v2 : V) (g : Fm) (Q2 : VK), FmAt K H3 v2 g → Okf g → dpt g + 1 ≤ n → (prF g).length ≤ 100000 → (∀ H', Same H3 H' → Q2 (.str (prF g)) H') → spLp K n [v2] H3 Q2 C8.E0 := fun v2 g Q2 h1 h2 h3 h4 h5 => by
      obtain ⟨m, rfl⟩ : ∃ m, n = m + 1 := ⟨n - 1, by omega⟩
      exact ⟨v2, g, rfl, h1, h2, by omega, h4, h5⟩
    cases f with
    | sg s =>
      obtain ⟨a, rfl, ha⟩ := hf3
      refine ⟨_, rfl, a, _, _, _, rfl, rfl, ha, rfl, ?_⟩
      refine ⟨_, rfl, rfl, _, rfl, iteB_t rfl ?_⟩
      exact ⟨_, rfl, a, _, _, _, rfl, rfl, ha, rfl, q H3 s03⟩
    | c0 k =>
      obtain ⟨a, rfl, ha⟩ := hf3
      refine ⟨_, rfl, a, _, _, _, rfl, rfl, ha, rfl, ?_⟩
      refine ⟨_, rfl, rfl, _, rfl, ?_⟩
      have hk : k ≠ sSig := fun z => by
        have ho : k = "true" ∨ k = "false" := ho
        rw [z] at ho
        exact absurd ho (by decide +kernel)
      rw [nz hk]
      refine iteB_f rfl ⟨_, rfl, a, _, rfl, .inr ha, rfl, _, rfl, iteB_t (by rfl) ⟨_, rfl, q H3 s03⟩⟩
    | un k f =>
      obtain ⟨a, x, rfl, ha, hx⟩ := hf3
      have hl : (prF (.un k f)).length ≤ 100000 := hl
      have hlu := pr_len_un k f
      refine ⟨_, rfl, a, _, _, _, rfl, rfl, ha, rfl, ?_⟩
      refine ⟨_, rfl, rfl, _, rfl, ?_⟩
      rw [nz (un_ne ho.1)]
      refine iteB_f rfl ⟨_, rfl, a, _, rfl, .inr ha, rfl, _, rfl, iteB_f (by rfl) ?_⟩
      refine ⟨_, rfl, D1, rfl, .inl ⟨_, .inl e13⟩, _, rfl, _, rfl, D2, rfl, .inl ⟨_, .inl e23⟩, _, rfl, _, rfl, D3, rfl, .inl ⟨_, .inl e3⟩, _, rfl, _, DGet.k (k := Sum.inr k) e3, _, DGet.k (k := Sum.inr k) e23, _, DGet.k (k := Sum.inr k) e13, ?_⟩
      have hsg := sgL_un k ho.1
      unfold sgL at hsg
      rw [hsg]
      refine ⟨_, rfl, a, _, rfl, .inr ha, rfl, _, rfl, iteB_t (by rfl) ?_⟩
      refine ⟨_, rfl, _, rfl, a, _, _, _, rfl, rfl, ha, rfl, call x f _ hx ho.2 hd (by omega) fun H4 s4 => ⟨_, _, rfl, rfl, ?_, q H4 (s03.trans s4)⟩⟩
      have e : (prF (.un k f)).length = (psg k).length + (prF f).length := app_len _ _
      omega
    | bin k f g =>
      obtain ⟨a, x, y, rfl, ha, hx, hy⟩ := hf3
      have hl : (prF (.bin k f g)).length ≤ 100000 := hl
      have hlb := pr_len_bin k f g
      have hd : max (dpt f) (dpt g) + 1 ≤ n := hd
      refine ⟨_, rfl, a, _, _, _, rfl, rfl, ha, rfl, ?_⟩
      refine ⟨_, rfl, rfl, _, rfl, ?_⟩
      rw [nz (bin_ne ho.1)]
      refine iteB_f rfl ⟨_, rfl, a, _, rfl, .inr ha, rfl, _, rfl, iteB_f (by rfl) ?_⟩
      refine ⟨_, rfl, D1, rfl, .inl ⟨_, .inl e13⟩, _, rfl, _, rfl, D2, rfl, .inl ⟨_, .inl e23⟩, _, rfl, _, rfl, D3, rfl, .inl ⟨_, .inl e3⟩, _, rfl, _, DGet.k (k := Sum.inr k) e3, _, DGet.k (k := Sum.inr k) e23, _, DGet.k (k := Sum.inr k) e13, ?_⟩
      have hsg := sgL_bin k ho.1
      unfold sgL at hsg
      rw [hsg]
      refine ⟨_, rfl, a, _, rfl, .inr ha, rfl, _, rfl, iteB_f (by rfl) ?_⟩
      obtain ⟨o1, o2, o3⟩ := l_one
      have b1 : (Str.ofString "(" ++ prF f).length = 1 + (prF f).length := by rw [app_len, o2]
      have b2 : (Str.ofString "(" ++ prF f ++ Str.ofString " ").length = 1 + (prF f).length + 1 := by rw [app_len, b1, o1]
      have b3 : (Str.ofString "(" ++ prF f ++ Str.ofString " " ++ isg k).length = 1 + (prF f).length + 1 + (isg k).length := by rw [app_len, b2]
      have b4 : (Str.ofString "(" ++ prF f ++ Str.ofString " " ++ isg k ++ Str.ofString " ").length = 1 + (prF f).length + 1 + (isg k).length + 1 := by rw [app_len, b3, o1]
      have b5 : (Str.ofString "(" ++ prF f ++ Str.ofString " " ++ isg k ++ Str.ofString " " ++ prF g).length = 1 + (prF f).length + 1 + (isg k).length + 1 + (prF g).length := by rw [app_len, b4]
      refine ⟨_, rfl, a, _, _, _, rfl, rfl, ha, rfl, call x f _ hx ho.2.1 (by omega) (by omega) fun H4 s4 => ?_⟩
      refine ⟨_, _, rfl, rfl, by rw [o2]; omega, ?_⟩
      refine ⟨_, _, rfl, rfl, by rw [b1, o1]; omega, ?_⟩
      refine ⟨_, rfl, _, _, rfl, rfl, by rw [b2]; omega, ?_⟩
      refine ⟨_, _, rfl, rfl, by rw [b3, o1]; omega, ?_⟩
      obtain ⟨m, rfl⟩ : ∃ m, n = m + 1 := ⟨n - 1, by omega⟩
      refine ⟨_, rfl, a, _, _, _, rfl, rfl, sqt_same s4 ha, rfl, y, g, rfl, hy.same s4, ho.2.2, by omega, by omega, fun H5 s5 => ?_⟩
      refine ⟨_, _, rfl, rfl, by rw [b4]; omega, ?_⟩
      exact ⟨_, _, rfl, rfl, by rw [b5, o3]; omega, q H5 ((s03.trans s4).trans s5)⟩
theorem cal_lp (T : Txt K mg w P) : ∀ n, C8.Cal P w K mg base (1 + n) "_law_print" (spLp K n) []
  | 0 => by
    obtain ⟨f, fd, F, hm, hb⟩ := T.h_law_print
    exact ⟨f, fd, _, [], ⟨fun vs H Q E h => h.elim, fun A outer s H args us vs Q E _ _ _ _ h => h.elim⟩, hm, F.kp, hb, .nil⟩
  | n + 1 => cal_lp_step T (cal_lp T n)
theorem quant_or {k : Str} (h : k ∈ (["exists", "forall"] : List Str)) : k = "exists" ∨ k = "forall" := by simpa using h
theorem ex_ne : ("forall" : Str) ≠ "exists" := by decide +kernel
theorem kd_ne {f : Fm} (h : Okf f) : kd f ≠ "exists" ∧ kd f ≠ "forall" := by
  have := kd_q h
  constructor <;> intro z <;> rw [z] at this <;> exact this (by simp)
def spLpp (K : PySem.W.Frag) (n : Nat) : Sp := fun vs H Q _ => ∃ (v : V) (p : Pr), vs = [v] ∧ PvAt K H v p ∧ Okp p ∧ dpt (foP p) < n ∧ (prF (foP p)).length ≤ 10000 ∧ (hdP p).length ≤ 10 ∧ (∀ s ∈ hdP p, s.length ≤ 100) ∧ ∀ H', Same H H' → Q (.str (prP p)) H'
theorem cal_lpp {n : Nat} (T : Txt K mg w P) : C8.Cal P w K mg base (1 + n + 1) "_law_print_property" (spLpp K n) [] := by
  have C_law_print : C8.Cal P w K mg base (1 + n) "_law_print" (spLp K n) [] := cal_lp T n
  obtain ⟨f, fd, F, hm, hb⟩ := T.h_law_print_property
  refine ⟨f, fd, _, [], F.ok sc_law_print_property (fun vs H Q E h => ?_) (fun cdv A outer s H vs Q E hr h => ?_), hm, F.kp, hb, .nil⟩
  · obtain ⟨v, p, rfl, _⟩ := h
    rfl
  · obtain ⟨v, p, rfl, hp, ho, hd, hl, hh, hh2, q⟩ := h
    obtain ⟨m, rfl⟩ : ∃ m, n = m + 1 := ⟨n - 1, by omega⟩
    refine ⟨_, (pss_cons
      (ps_if (PW.pt (pw_or (pt_cmpR op_eq (pe_ix (ix_tupK (K := K) rfl) (pv 0) pe_int (fun _ _ => rfl)) pe_str (nomark _)) (pw_or1 (pt_cmpR op_eq (pe_ix (ix_tupK (K := K) rfl) (pv 0) pe_int (fun _ _ => rfl)) pe_str (nomark _))))) (pss_one
      (ps_ret (pe_op op_add_str (pe_op op_add_str (pe_op op_add_str (pe_op op_add_str (pe_ix (ix_tupK (K := K) rfl) (pv 0) pe_int (fun _ _ => rfl)) pe_str) (pe_join pe_str (pe_callTy (call_list_ofK (K := K) rfl) (by rfl) T.z_list (by decide +kernel) (pa_cons (pe_ix (ix_tupK (K := K) rfl) (pv 0) pe_int (fun _ _ => rfl)) pa_nil)))) pe_str) (C8.pe_c C_law_print hr (by omega) (by rfl) (pa_cons (pe_ix (ix_tupK (K := K) rfl) (pv 0) pe_int (fun _ _ => rfl)) pa_nil))))) pss_nil)
      (pss_one
      (ps_ret (C8.pe_c C_law_print hr (by omega) (by rfl) (pa_cons (pv 0) pa_nil))))), ?_⟩
    have big : (100000 : Nat) ≤ sizeLine := by decide
    cases p with
    | f f =>
      obtain ⟨a, xs, rfl, ha⟩ := FmAt.tup hp
      obtain ⟨h1, h2⟩ := kd_ne ho
      refine ⟨_, rfl, a, _, _, .str (kd f), rfl, rfl, ha, (show atI (V.str (kd f) :: xs) 0 = some (V.str (kd f)) from atI_nat (j := 0) rfl), rfl, _, rfl, iteB_f (decide_eq_false fun z => h1 (V.str.inj z)) ?_⟩
      refine ⟨_, rfl, a, _, _, .str (kd f), rfl, rfl, ha, (show atI (V.str (kd f) :: xs) 0 = some (V.str (kd f)) from atI_nat (j := 0) rfl), rfl, _, rfl, iteB_f (decide_eq_false fun z => h2 (V.str.inj z)) ?_⟩
      exact ⟨_, rfl, _, f, rfl, hp, ho, by show dpt f ≤ m; exact Nat.le_of_lt_succ hd, Nat.le_trans hl (by decide), fun H' s' => q H' s'⟩
    | q k hs f =>
      obtain ⟨a, b, u, rfl, ha, hb, hu⟩ := hp
      obtain ⟨o1, o2, o3, o4⟩ := ho
      have hkl := q_len k o1
      have hjl := join_le hs hh hh2
      have hl : (prF f).length ≤ 10000 := hl
      have hcm := l_cm.2.2.2.2.2.2.2.2
      have o1' := l_one.1
      have hs2 : (hs.map (·.length)).sum ≤ hs.length * 100 := sum_le hh2
      have hh : hs.length ≤ 10 := hh
      have e1 : (k ++ Str.ofString " ").length = k.length + 1 := by rw [app_len, o1']
      have e2 : (k ++ Str.ofString " " ++ Str.join (Str.ofString ", ") hs).length = k.length + 1 + (Str.join (Str.ofString ", ") hs).length := by rw [app_len, e1]
      have e3 : (k ++ Str.ofString " " ++ Str.join (Str.ofString ", ") hs ++ Str.ofString ": ").length = k.length + 1 + (Str.join (Str.ofString ", ") hs).length + 2 := by rw [app_len, e2, hcm.2]
      rcases quant_or o1 with hk | hk
      · refine ⟨_, rfl, a, _, _, _, rfl, rfl, ha, rfl, rfl, _, rfl, iteB_t (decide_eq_true (by rw [hk])) (iteB_t rfl ?_)⟩
        refine ⟨_, rfl, a, _, _, _, rfl, rfl, ha, rfl, _, _, rfl, rfl, by rw [o1']; omega, ?_⟩
        refine ⟨⟨_, rfl⟩, _, rfl, a, _, _, _, rfl, rfl, ha, rfl, b, _, rfl, .inr hb, fun D nD => ?_⟩
        generalize hX : upd H D _ = H1; obtain ⟨sH1, eD⟩ := nw nD hX; clear hX
        refine ⟨_, D, hs, rfl, rfl, .inl (.of eD), ?_, ?_⟩
        · rw [hcm.1]
          have : hs.length * 100 ≤ 1000 := by omega
          omega
        rw [show Txt.join (Str.ofString ", ") hs = Str.join (Str.ofString ", ") hs from TL.join_eq _ _]
        refine ⟨_, _, rfl, rfl, by rw [e1]; omega, ?_⟩
        refine ⟨_, _, rfl, rfl, by rw [e2, hcm.2]; omega, ?_⟩
        refine ⟨_, rfl, a, _, _, _, rfl, rfl, sqt_same sH1 ha, rfl, u, f, rfl, hu.same sH1, o4, Nat.le_of_lt_succ hd, by omega, fun H2 s2 => ⟨_, _, rfl, rfl, by rw [e3]; omega, q H2 (sH1.trans s2)⟩⟩
      · refine ⟨_, rfl, a, _, _, _, rfl, rfl, ha, rfl, rfl, _, rfl, iteB_f (decide_eq_false fun z => ex_ne ((hk.symm).trans (V.str.inj z))) ⟨_, rfl, a, _, _, _, rfl, rfl, ha, rfl, rfl, _, rfl, iteB_t (decide_eq_true (by rw [hk])) ?_⟩⟩
        refine ⟨_, rfl, a, _, _, _, rfl, rfl, ha, rfl, _, _, rfl, rfl, by rw [o1']; omega, ?_⟩
        refine ⟨⟨_, rfl⟩, _, rfl, a, _, _, _, rfl, rfl, ha, rfl, b, _, rfl, .inr hb, fun D nD => ?_⟩
        generalize hX : upd H D _ = H1; obtain ⟨sH1, eD⟩ := nw nD hX; clear hX
        refine ⟨_, D, hs, rfl, rfl, .inl (.of eD), ?_, ?_⟩
        · rw [hcm.1]
          have : hs.length * 100 ≤ 1000 := by omega
          omega
        rw [show Txt.join (Str.ofString ", ") hs = Str.join (Str.ofString ", ") hs from TL.join_eq _ _]
        refine ⟨_, _, rfl, rfl, by rw [e1]; omega, ?_⟩
        refine ⟨_, _, rfl, rfl, by rw [e2, hcm.2]; omega, ?_⟩
        refine ⟨_, rfl, a, _, _, _, rfl, rfl, sqt_same sH1 ha, rfl, u, f, rfl, hu.same sH1, o4, Nat.le_of_lt_succ hd, by omega, fun H2 s2 => ⟨_, _, rfl, rfl, by rw [e3]; omega, q H2 (sH1.trans s2)⟩⟩
theorem spN_len (j : Nat) : (Ml7.spN j).length = j := by
  show (List.replicate j 32).toArray.size = j
  simp
theorem two_pos (n : Nat) : 1 ≤ 2 ^ n := Nat.one_le_two_pow
/-! how long -/
theorem psg_len : ∀ k ∈ unOps, (psg k).length = 1 := by decide +kernel
theorem isg_len : ∀ k ∈ binOps, (isg k).length ≤ 3 := by decide +kernel
theorem c0_len : ∀ k ∈ (["true", "false"] : List Str), k.length ≤ 5 := by decide +kernel
theorem prF_len {nm : List Str} (hn : ∀ s ∈ nm, s.length ≤ 4) : ∀ {f : Fm}, Wo nm f → (prF f).length + 7 ≤ 12 * 2 ^ dpt f
  | .c0 k, h => by
    have h : k = "true" ∨ k = "false" := h
    have := c0_len k (by rcases h with h | h <;> rw [h] <;> simp)
    show k.length + 7 ≤ 12 * 1
    omega
  | .sg s, h => by
    have := hn s h
    show s.length + 7 ≤ 12 * 1
    omega
  | .un k f, h => by
    have h1 := prF_len hn h.2
    have h2 := psg_len k h.1
    have e : (prF (.un k f)).length = (psg k).length + (prF f).length := app_len _ _
    show _ ≤ 12 * 2 ^ (dpt f + 1)
    rw [e, h2, Nat.pow_succ]
    have := two_pos (dpt f)
    omega
  | .bin k f g, h => by
    have h1 := prF_len hn h.2.1
    have h2 := prF_len hn h.2.2
    have h3 := isg_len k h.1
    rw [pr_len_bin]
    show _ ≤ 12 * 2 ^ (max (dpt f) (dpt g) + 1)
    have h4 : 2 ^ dpt f ≤ 2 ^ max (dpt f) (dpt g) := Nat.pow_le_pow_right (by decide) (Nat.le_max_left _ _)
    have h5 : 2 ^ dpt g ≤ 2 ^ max (dpt f) (dpt g) := Nat.pow_le_pow_right (by decide) (Nat.le_max_right _ _)
    rw [Nat.pow_succ]
    omega
theorem pdp_dpt : ∀ f : Fm, pdp f ≤ dpt f
  | .c0 _ => Nat.le_refl _
  | .sg _ => Nat.le_refl _
  | .un _ f => Nat.le_succ_of_le (pdp_dpt f)
  | .bin _ f g => by
    have h1 := pdp_dpt f
    have h2 := pdp_dpt g
    show max (pdp f) (pdp g) + 1 ≤ max (dpt f) (dpt g) + 1
    omega
theorem wo_ok {nm : List Str} (hn : ∀ s ∈ nm, nameOk s = true) : ∀ {f : Fm}, Wo nm f → Okf f
  | .c0 _, h => h
  | .sg s, h => hn s h
  | .un _ f, h => ⟨h.1, wo_ok hn h.2⟩
  | .bin _ f g, h => ⟨h.1, wo_ok hn h.2.1, wo_ok hn h.2.2⟩
theorem hid_ok : ∀ hs ∈ ([["h1"], ["h1", "k2"]] : List (List Str)), hs ≠ [] ∧ hs.Nodup ∧ hs.length ≤ 2 ∧ ∀ s ∈ hs, nameOk s = true ∧ s.length ≤ 4 ∧ s ∈ (["h1", "k2"] : List Str) := by decide +kernel
theorem pr9 {nm : List Str} {p : Pr} {b : Int} (hnm : ∀ s ∈ nm, NmG s) (hG : GoodP nm b p) :
    Okp p ∧ dpt (foP p) ≤ 3 ∧ (prF (foP p)).length ≤ 100 ∧ (hdP p).length ≤ 2 ∧ (∀ s ∈ hdP p, s.length ≤ 4) ∧ (prP p).length ≤ 2000 := by
  obtain ⟨gw, gz, gb, gq⟩ := hG
  have hd3 := gz.2
  have hhd : ((∃ f, p = .f f) ∧ hdP p = []) ∨ (∃ k f, p = .q k (hdP p) f ∧ k ∈ (["exists", "forall"] : List Str) ∧ hdP p ∈ ([["h1"], ["h1", "k2"]] : List (List Str))) := by
    cases p with
    | f f => exact .inl ⟨⟨f, rfl⟩, rfl⟩
    | q k hs f => exact .inr ⟨k, f, rfl, gq.1, gq.2⟩
  have hh : (hdP p).length ≤ 2 ∧ ∀ s ∈ hdP p, nameOk s = true ∧ s.length ≤ 4 := by
    rcases hhd with ⟨_, e⟩ | ⟨_, _, _, _, e⟩
    · rw [e]; exact ⟨Nat.zero_le _, fun s hs => by (cases hs)⟩
    · exact ⟨(hid_ok _ e).2.2.1, fun s hs => ⟨((hid_ok _ e).2.2.2 s hs).1, ((hid_ok _ e).2.2.2 s hs).2.1⟩⟩
  have hall : ∀ s ∈ nm ++ hdP p, nameOk s = true ∧ s.length ≤ 4 := fun s hs => by
    rcases List.mem_append.mp hs with h | h
    · exact ⟨(hnm s h).1, (hnm s h).2.1⟩
    · exact hh.2 s h
  have hok : Okf (foP p) := wo_ok (fun s hs => (hall s hs).1) gw
  have hln := prF_len (fun s hs => (hall s hs).2) gw
  have hpow : 2 ^ dpt (foP p) ≤ 8 := by
    have : 2 ^ dpt (foP p) ≤ 2 ^ 3 := Nat.pow_le_pow_right (by decide) hd3
    exact this
  have hl100 : (prF (foP p)).length ≤ 100 := by omega
  refine ⟨?_, hd3, hl100, hh.1, fun s hs => (hh.2 s hs).2, ?_⟩
  · rcases hhd with ⟨⟨f, e⟩, _⟩ | ⟨k, f, e, h1, h2⟩
    · rw [e] at hok ⊢
      exact hok
    · have h3 := hid_ok _ h2
      have e2 : foP p = f := by rw [e]; rfl
      rw [e2] at hok
      rw [e]
      exact ⟨h1, h3.1, fun s hs => (h3.2.2.2 s hs).1, hok⟩
  · rcases hhd with ⟨⟨f, e⟩, _⟩ | ⟨k, f, e, h1, h2⟩
    · have e2 : foP p = f := by rw [e]; rfl
      rw [e2] at hl100
      rw [e]
      show (prF f).length ≤ 2000
      omega
    · have e2 : foP p = f := by rw [e]; rfl
      rw [e2] at hl100
      rw [e]
      have h3 := q_len k h1
      have hjl := join_le (hdP p) (by have := hh.1; omega) (fun s hs => Nat.le_trans (hh.2 s hs).2 (by decide))
      show (k ++ Str.ofString " " ++ Str.join (Str.ofString ", ") (hdP p) ++ Str.ofString ": " ++ prF f).length ≤ 2000
      rw [app_len, app_len, app_len, app_len, l_one.1, l_cm.2.2.2.2.2.2.2.2.2]
      omega
theorem ok_law {f : Addr} {fd : FuncData} (F : L2.Fun K "law" "law" s_law f fd) (T : Txt K mg w P) : FnOk P w K mg base CX0 200 f fd ["script"] (spLaw K) := by
  have C_law_draws : C8.Cal P w K mg base 1 "_law_draws" (spDraws K) [] := cal_draws T
  have C_law_take : C8.Cal P w K mg base 1 "_law_take" spTake [] := cal_take T
  have C_law_names : C8.Cal P w K mg base 3 "_law_names" spNames [] := cal_names T
  have C_law_property : C8.Cal P w K mg base 7 "_law_property" (spPrp K) [] := cal_prp T
  have C_law_print_property : C8.Cal P w K mg base 14 "_law_print_property" (spLpp K 12) [] := cal_lpp (n := 12) T
  have C_law_sign : C8.Cal P w K mg base 2 "_law_sign" spSg [] := cal_sg T
  have C_law_change : C8.Cal P w K mg base 3 "_law_change" spCg [] := cal_cg T
  have C_law_outcome : C8.Cal P w K mg base 190 "_law_outcome" (spOut9 K) [] := cal_out9 T
  have C_law_fault : C8.Cal P w K mg base 3 "_law_fault" spFa [] := cal_fa T
  refine F.ok sc_law (fun vs H Q E h => ?_) (fun cdv A outer s H vs Q E hr h => ?_)
  · obtain ⟨a, ns, rfl, _⟩ := h
    rfl
  · obtain ⟨a, ns, rfl, hS, h63, q⟩ := h
    refine ⟨_, (pss_cons
      (ps_set (i := 1) sc_law.nd rfl (Or.inr rfl) (C8.pe_c C_law_draws hr (by decide) (by rfl) (pa_cons (pv 0) (pa_cons pe_int pa_nil))))
      (pss_cons
      (ps_set (i := 2) sc_law.nd rfl (Or.inl rfl) (C8.pe_c C_law_names hr (by decide) (by rfl) (pa_cons (pv 1) (pa_cons (pe_op op_add pe_int (C8.pe_c C_law_take hr (by decide) (by rfl) (pa_cons (pv 1) (pa_cons pe_int pa_nil)))) pa_nil))))
      (pss_cons
      (ps_set (i := 3) sc_law.nd rfl (Or.inl rfl) (C8.pe_c C_law_print_property hr (by decide) (by rfl) (pa_cons (C8.pe_c C_law_property hr (by decide) (by rfl) (pa_cons (pv 1) (pa_cons (pv 2) (pa_cons (C8.pe_c C_law_take hr (by decide) (by rfl) (pa_cons (pv 1) (pa_cons pe_int pa_nil))) (pa_cons pe_int (pa_cons pe_int pa_nil)))))) pa_nil)))
      (C8.pss_cut
      (ps_if (pt_cmpR op_eq (C8.pe_c C_law_take hr (by decide) (by rfl) (pa_cons (pv 1) (pa_cons pe_int pa_nil))) pe_int (nomark _)) (pss_one
      (ps_set (i := 3) sc_law.nd rfl (Or.inl rfl) (pe_join pe_str (pe_lc (own := [("k", 4)]) (g := gName 4) (tt := tYes) rfl sc_law.nd (pi_range1 (by rfl) T.z_range (pa_cons (C8.pe_c C_law_take hr (by decide) (by rfl) (pa_cons (pv 1) (pa_cons pe_int pa_nil))) pa_nil)) (blkOk_by (N := N_law) (sc := defScope s_law) (by decide +kernel)) (fun _ _ _ _ _ => (pg_name (i := 4) sc_law.nd rfl (Or.inl rfl))) (fun _ _ _ _ _ => pts_nil) (fun _ _ _ _ _ => (C8.pe_c C_law_sign hr (by decide) (by rfl) (pa_cons (pv 1) (pa_cons pe_bl pa_nil)))))))) pss_nil)
      (pss_cons
      (ps_for PassesOwn.never rfl (pi_range1 (by rfl) T.z_range (pa_cons (C8.pe_c C_law_take hr (by decide) (by rfl) (pa_cons (pv 1) (pa_cons pe_int pa_nil))) pa_nil)) (pg_name (i := 4) sc_law.nd rfl (.inl rfl)) (pss_one
      (ps_set (i := 3) sc_law.nd rfl (Or.inl rfl) (C8.pe_c C_law_change hr (by decide) (by rfl) (pa_cons (pv 1) (pa_cons (pv 3) pa_nil))))))
      (C8.pss_cut
      (ps_if (pt_cmpR op_eq (C8.pe_c C_law_take hr (by decide) (by rfl) (pa_cons (pv 1) (pa_cons pe_int pa_nil))) pe_int (nomark _)) (pss_one
      (ps_set (i := 3) sc_law.nd rfl (Or.inl rfl) (pe_op op_add_str (pe_op Ml7.op_mulS pe_str (C8.pe_c C_law_take hr (by decide) (by rfl) (pa_cons (pv 1) (pa_cons pe_int pa_nil)))) (pv 3)))) pss_nil)
      (pss_cons
      (ps_if (PW.pt (pw_or (pt_cmpR op_gt (pe_callB call_len_str (by rfl) T.z_len PySem.boot_len (pa_cons (pv 3) pa_nil)) pe_int (nomark _)) (pw_or1 (pt_cmpR op_gt (pe_m1 PySem.F.slot_str_count PySem.F.type_str_count mt_count (pv 3) pe_str) pe_int (nomark _))))) (pss_one
      (ps_ret (pe_cmpR op_eq (C8.pe_c C_law_outcome hr (by decide) (by rfl) (pa_cons (pv 3) (pa_cons (pv 2) pa_nil))) (pe_un un_neg pe_int) (nomark _)))) pss_nil)
      (pss_one
      (ps_ret (pe_cmpR op_eq (C8.pe_c C_law_outcome hr (by decide) (by rfl) (pa_cons (pv 3) (pa_cons (pv 2) pa_nil))) (C8.pe_c C_law_fault hr (by decide) (by rfl) (pa_cons (pv 3) pa_nil)) (nomark _))))))))))), ?_⟩
    have big : (10000 : Nat) ≤ sizeLine := by decide
    refine ⟨_, rfl, a, ns, 250, rfl, hS, by decide, fun H1 d s1 hd0 hd1 => ?_⟩
    refine ⟨_, rfl, _, rfl, d, 3, rfl, hd1, by decide, fun r ds r0 r1 => ?_⟩
    have d2 : Drw (upd H1 d (.lst (ds.map V.int))) d := Drw.own
    generalize upd H1 d (.lst (ds.map V.int)) = H2 at d2 ⊢
    refine ⟨_, _, rfl, rfl, d, 1 + r, rfl, d2, by omega, by omega, fun H3 n nm k3 d3 nd3 hn3 hnl hok hnd hnm => ?_⟩
    refine ⟨_, rfl, _, rfl, _, rfl, d, 5, rfl, d3, by decide, fun r4 ds4 r40 r41 => ?_⟩
    have k4 : Kp d H3 (upd H3 d (.lst (ds4.map V.int))) := Kp.own
    have d4 : Drw (upd H3 d (.lst (ds4.map V.int))) d := Drw.own
    have hn4 := k4 _ _ nd3 hn3
    generalize upd H3 d (.lst (ds4.map V.int)) = H4 at k4 d4 hn4 ⊢
    refine ⟨d, n, nm, r4, rfl, d4, nd3, hn4, by omega, r40, by omega, fun H5 pv p0 k5 d5 hp5 hG => ?_⟩
    have hn5 := k5 _ _ nd3 hn4
    obtain ⟨g1, g2, g3, g4, g5, g6⟩ := pr9 hnm hG
    refine ⟨pv, p0, rfl, hp5, g1, by omega, by omega, by omega, fun s hs => by have := g5 s hs; omega, fun H6 s6 => ?_⟩
    have d6 := d5.same s6
    have hn6 := s6 _ _ hn5
    -- a row of signs instead
    refine ⟨fun σ H' => ∃ (t : Str) (v4 : Option V), σ = [some (.ref a), some (.ref d), some (.ref n), some (.str t), v4] ∧ Drw H' d ∧ H' n = some (.lst (nm.map V.str)) ∧ t.length ≤ 2000, ?_, ?_⟩
    · refine ⟨_, rfl, d, 5, rfl, d6, by decide, fun u us u0 u1 => ?_⟩
      have k7 : Kp d H6 (upd H6 d (.lst (us.map V.int))) := Kp.own
      have d7 : Drw (upd H6 d (.lst (us.map V.int))) d := Drw.own
      have hn7 := k7 _ _ nd3 hn6
      generalize upd H6 d (.lst (us.map V.int)) = H7 at k7 d7 hn7 ⊢
      refine ⟨rfl, _, rfl, ite_eq (fun _ => ?_) (fun _ => ⟨_, none, rfl, d7, hn7, g6⟩)⟩
      refine ⟨⟨_, rfl⟩, _, rfl, d, 11, rfl, d7, by decide, fun m ms m0 m1 => ?_⟩
      have k8 : Kp d H7 (upd H7 d (.lst (ms.map V.int))) := Kp.own
      have d8 : Drw (upd H7 d (.lst (ms.map V.int))) d := Drw.own
      have hn8 := k8 _ _ nd3 hn7
      generalize upd H7 d (.lst (ms.map V.int)) = H8 at k8 d8 hn8 ⊢
      refine ⟨_, rfl, by omega, by omega, fun D hD => ?_⟩
      have nDd : D ≠ d := fun z => by
        obtain ⟨ys, hy⟩ := d8
        rw [z, hy] at hD
        cases hD
      have nDn : D ≠ n := fun z => by rw [z, hn8] at hD; cases hD
      refine lc_range (lo := 0) (n := m.toNat) (fun i H' => ∃ xs : List Str, Drw H' d ∧ H' n = some (.lst (nm.map V.str)) ∧ H' D = some (.lst (xs.map V.str)) ∧ xs.length = i ∧ ∀ x ∈ xs, x.length = 1)
        ⟨[], d8.new hD, (same_new hD) _ _ hn8, upd_same, rfl, by simp⟩ ?_ ?_
      · rintro i H9 hi ⟨xs, d9, n9, e9, el, hx⟩
        refine ⟨rfl, _, rfl, d, true, rfl, d9, fun H10 c k10 d10 => ?_⟩
        have e10 := k10 _ _ nDd e9
        have n10 := k10 _ _ nd3 n9
        refine ⟨xs.map V.str, e10, by rw [List.length_map]; exact Nat.lt_of_le_of_lt (show xs.length ≤ 1000 by omega) (by decide), xs ++ [⟨#[c]⟩], ?_, ?_, ?_, by simp [el], fun x hx2 => ?_⟩
        · obtain ⟨ys, hy⟩ := d10
          exact ⟨ys, by rw [upd_ne nDd.symm]; exact hy⟩
        · rw [upd_ne nDn.symm]
          exact n10
        · rw [upd_same, List.map_append]
          rfl
        · rcases List.mem_append.mp hx2 with z | z
          · exact hx x z
          · rw [List.mem_singleton.mp z]
            rfl
      · rintro H9 ⟨xs, d9, n9, e9, el, hx⟩
        have hsum : (xs.map (·.length)).sum ≤ 10 := by
          have e : xs.map (·.length) = List.replicate xs.length 1 := List.eq_replicate_iff.mpr ⟨by rw [List.length_map], fun b hb => by
            obtain ⟨x, hx2, rfl⟩ := List.mem_map.mp hb
            exact hx x hx2⟩
          rw [e, List.sum_replicate_nat]
          omega
        have hz0 : Str.length (Str.ofString "") = 0 := by decide +kernel
        have hjl := StrLaws.join_length_le (Str.ofString "") xs
        rw [← (show Txt.join (Str.ofString "") xs = Str.join (Str.ofString "") xs from TL.join_eq _ _), hz0] at hjl
        refine ⟨_, D, xs, rfl, rfl, .inl (.of e9), ?_, _, none, rfl, d9, n9, by omega⟩
        show (xs.map (·.length)).sum + xs.length * Str.length (Str.ofString "") ≤ 16777216
        rw [hz0]
        omega
    rintro σ H7 ⟨t, v4, rfl, d7, hn7, ht7⟩
    -- the changes
    refine ⟨_, rfl, d, 5, rfl, d7, by decide, fun m ms m0 m1 => ?_⟩
    have k8 : Kp d H7 (upd H7 d (.lst (ms.map V.int))) := Kp.own
    have d8 : Drw (upd H7 d (.lst (ms.map V.int))) d := Drw.own
    have hn8 := k8 _ _ nd3 hn7
    generalize upd H7 d (.lst (ms.map V.int)) = H8 at k8 d8 hn8 ⊢
    refine ⟨_, rfl, by omega, by omega, for_range (lo := 0) (n := m.toNat) (fun i σ H' => ∃ (t' : Str) (v4 : Option V), σ = [some (.ref a), some (.ref d), some (.ref n), some (.str t'), v4] ∧ Drw H' d ∧ H' n = some (.lst (nm.map V.str)) ∧ t'.length ≤ 2000 + i) ⟨t, v4, rfl, d8, hn8, ht7⟩ ?_ ?_⟩
    · rintro i σ H9 hi ⟨t', v4', rfl, d9, hn9, ht9⟩
      refine ⟨_, rfl, _, rfl, d, t', rfl, d9, by omega, fun H10 t2 k10 d10 h10 => ?_⟩
      exact ⟨t2, _, rfl, d10, k10 _ _ nd3 hn9, by omega⟩
    rintro σ H9 ⟨t1, v41, rfl, d9, hn9, ht9⟩
    -- the blanks in front
    refine ⟨fun σ H' => ∃ (t : Str) (v4 : Option V), σ = [some (.ref a), some (.ref d), some (.ref n), some (.str t), v4] ∧ H' n = some (.lst (nm.map V.str)) ∧ t.length ≤ 3000, ?_, ?_⟩
    · refine ⟨_, rfl, d, 5, rfl, d9, by decide, fun u us u0 u1 => ?_⟩
      have k10 : Kp d H9 (upd H9 d (.lst (us.map V.int))) := Kp.own
      have d10 : Drw (upd H9 d (.lst (us.map V.int))) d := Drw.own
      have hn10 := k10 _ _ nd3 hn9
      generalize upd H9 d (.lst (us.map V.int)) = H10 at k10 d10 hn10 ⊢
      refine ⟨rfl, _, rfl, ite_eq (fun _ => ?_) (fun _ => ⟨_, _, rfl, hn10, by omega⟩)⟩
      refine ⟨_, rfl, d, 191, rfl, d10, by decide, fun b bs b0 b1 => ?_⟩
      have k11 : Kp d H10 (upd H10 d (.lst (bs.map V.int))) := Kp.own
      have hn11 := k11 _ _ nd3 hn10
      generalize upd H10 d (.lst (bs.map V.int)) = H11 at k11 hn11 ⊢
      obtain ⟨j, rfl⟩ : ∃ j : Nat, b = (j : Int) := ⟨b.toNat, by omega⟩
      refine ⟨j, rfl, rfl, by omega, _, rfl, _, _, rfl, rfl, by rw [spN_len]; omega, _, _, rfl, hn11, by rw [app_len, spN_len]; omega⟩
    rintro σ H10 ⟨t, v42, rfl, hn10, ht10⟩
    obtain ⟨ts, htk⟩ := tks_tot _ t.cps.toList 0 (Nat.le_refl _)
    have hz : t.length ≤ sizeLine := by omega
    have small : (200 < t.length ∨ 20 < Txt.count t (Str.ofString "(")) → outI t ts = -1 := fun c => if_pos c
    refine ⟨_, rfl, t, rfl, hz, _, _, rfl, rfl, _, rfl, ?_⟩
    by_cases b1 : 200 < t.length
    · refine iteB_t (decide_eq_true (by omega)) (iteB_t rfl ?_)
      refine ⟨_, rfl, _, rfl, n, t, nm, ts, rfl, .inl (.of hn10), by omega, by omega, htk, fun H' => ⟨_, rfl, rfl, ?_⟩⟩
      rw [small (.inl b1)]
      exact q H'
    refine iteB_f (decide_eq_false (by omega)) ?_
    refine ⟨_, rfl, ⟨_, rfl⟩, _, _, rfl, rfl, _, _, rfl, rfl, _, rfl, ?_⟩
    by_cases b2 : 20 < Txt.count t (Str.ofString "(")
    · refine iteB_t (decide_eq_true (by omega)) ?_
      refine ⟨_, rfl, _, rfl, n, t, nm, ts, rfl, .inl (.of hn10), by omega, by omega, htk, fun H' => ⟨_, rfl, rfl, ?_⟩⟩
      rw [small (.inr b2)]
      exact q H'
    refine iteB_f (decide_eq_false (by omega)) ?_
    have e0 : outI t ts = pf ts := if_neg fun z => z.elim b1 b2
    refine ⟨_, rfl, _, rfl, n, t, nm, ts, rfl, .inl (.of hn10), by omega, by omega, htk, fun H' => ⟨_, rfl, t, ts, rfl, by omega, htk, fun H2 => ⟨rfl, ?_⟩⟩⟩
    rw [e0, decide_eq_true (show V.int (pf ts) = V.int (pf ts) from rfl)]
    exact q H2
end

theorem all_mk {l : PySem.W.OpenLaw} {w : World} {K : PySem.W.Frag} {h : Heap} {mg : Str → Option Value} {fa : Addr} {f0 f1 f2 f3 f4 f5 f6 f7 f8 f9 f10 f11 f12 f13 f14 f15 f16 f17 f18 f19 f20 f21 f22 f23 f24 f25 f26 f27 f28 f29 f30 f31 f32 f33 f34 aQ aN aF aP aG aA C fI fP fT fA fH fF fU fO aR aI aL bL0 bL1 bL2 bL3 bL4 cT czd gzd czu gzu czf gzf cSy : Addr} (X : K.In h) (G : h.Ns mainGlobals mg) (hfa : mg "law" = some (.ref fa))
    {od0 an0 od1 an1 od2 an2 od3 an3 od4 an4 od5 an5 od6 an6 od7 an7 od8 an8 od9 an9 od10 an10 od11 an11 od12 an12 od13 an13 od14 an14 od15 an15 od16 an16 od17 an17 od18 an18 od19 an19 od20 an20 od21 an21 od22 an22 od23 an23 od24 an24 od25 an25 od26 an26 od27 an27 od28 an28 od29 an29 od30 an30 od31 an31 od32 an32 od33 an33 od34 an34 : Option Addr} {sl0 sl1 sl2 sl3 sl4 sl5 sl6 sl7 sl8 sl9 sl10 sl11 sl12 sl13 sl14 sl15 sl16 sl17 sl18 sl19 sl20 sl21 sl22 sl23 sl24 sl25 sl26 sl27 sl28 sl29 sl30 sl31 sl32 sl33 sl34 : Array (Option Value)} {oc0 kV0 dc0 pm0 cd0 ct0 oc1 kV1 dc1 pm1 cd1 ct1 oc2 kV2 dc2 pm2 cd2 ct2 oc3 kV3 dc3 pm3 cd3 ct3 oc4 kV4 dc4 pm4 cd4 ct4 oc5 kV5 dc5 pm5 cd5 ct5 oc6 kV6 dc6 pm6 cd6 ct6 oc7 kV7 dc7 pm7 cd7 ct7 oc8 kV8 dc8 pm8 cd8 ct8 oc9 kV9 dc9 pm9 cd9 ct9 oc10 kV10 dc10 pm10 cd10 ct10 oc11 kV11 dc11 pm11 cd11 ct11 oc12 kV12 dc12 pm12 cd12 ct12 oc13 kV13 dc13 pm13 cd13 ct13 oc14 kV14 dc14 pm14 cd14 ct14 oc15 kV15 dc15 pm15 cd15 ct15 oc16 kV16 dc16 pm16 cd16 ct16 oc17 kV17 dc17 pm17 cd17 ct17 oc18 kV18 dc18 pm18 cd18 ct18 oc19 kV19 dc19 pm19 cd19 ct19 oc20 kV20 dc20 pm20 cd20 ct20 oc21 kV21 dc21 pm21 cd21 ct21 oc22 kV22 dc22 pm22 cd22 ct22 oc23 kV23 dc23 pm23 cd23 ct23 oc24 kV24 dc24 pm24 cd24 ct24 oc25 kV25 dc25 pm25 cd25 ct25 oc26 kV26 dc26 pm26 cd26 ct26 oc27 kV27 dc27 pm27 cd27 ct27 oc28 kV28 dc28 pm28 cd28 ct28 oc29 kV29 dc29 pm29 cd29 ct29 oc30 kV30 dc30 pm30 cd30 ct30 oc31 kV31 dc31 pm31 cd31 ct31 oc32 kV32 dc32 pm32 cd32 ct32 oc33 kV33 dc33 pm33 cd33 ct33 oc34 kV34 dc34 pm34 cd34 ct34 : Value} {dQ dN dF dP dG dA : Option Addr} {slQ slN slF slP slG slA : Array (Option Value)} {nQ nN nF nP nG nA : Nat} {tQ0 tQ1 tN0 tN1 tF0 tF1 tF2 tF3 tF4 tF5 tP0 tP1 tP2 tP3 tP4 tP5 tG0 tG1 tG2 tG3 tG4 tG5 tG6 tG7 tG8 tG9 tG10 tG11 tG12 tG13 tG14 tG15 tG16 tG17 tG18 tG19 tG20 tA0 tA1 : Tok} {tk1 tk2 tm1 tm2 tm3 tm4 tm5 tm6 : Tok} {odI anI : Option Addr} {slmI : Array (Option Value)} {ocI kVI dcI pmI cdI ctI : Value} {odP anP : Option Addr} {slmP : Array (Option Value)} {ocP kVP dcP pmP cdP ctP : Value} {odT anT : Option Addr} {slmT : Array (Option Value)} {ocT kVT dcT pmT cdT ctT : Value} {odA anA : Option Addr} {slmA : Array (Option Value)} {ocA kVA dcA pmA cdA ctA : Value} {odH anH : Option Addr} {slmH : Array (Option Value)} {ocH kVH dcH pmH cdH ctH : Value} {odF anF : Option Addr} {slmF : Array (Option Value)} {ocF kVF dcF pmF cdF ctF : Value} {odU anU : Option Addr} {slmU : Array (Option Value)} {ocU kVU dcU pmU cdU ctU : Value} {odO anO : Option Addr} {slmO : Array (Option Value)} {ocO kVO dcO pmO cdO ctO : Value} {krh0 krh1 krh2 krh3 krh4 krh5 krh6 krh7 : Int} {krk0 krv0 krk1 krv1 krk2 krv2 krk3 krv3 krk4 krv4 krk5 krv5 krk6 krv6 krk7 krv7 : Tok} {krn : Nat} {kih0 kih1 kih2 kih3 kih4 kih5 kih6 kih7 kih8 : Int} {kik0 kiv0 kik1 kiv1 kik2 kiv2 kik3 kiv3 kik4 kiv4 kik5 kiv5 kik6 kiv6 kik7 kiv7 kik8 kiv8 : Tok} {kin : Nat} {dLV dLV0 dLV1 dLV2 dLV3 dLV4 : Option Addr} {slLV slLV0 slLV1 slLV2 slLV3 slLV4 : Array (Option Value)} {nLV nLV0 nLV1 nLV2 nLV3 nLV4 : Nat} {tL00 tL10 tL20 tL30 tL40 tL41 tL42 tL43 tL44 : Tok}  {nmzd qnzd : Str} {nszd cdazd cczd : Addr} {bszd bmzd sbzd : List Value} {snzd : List Str} {abzd : Bool} {cozd : Option Bool} {ddzd odzd anzd cyzd cmzd : Option Addr} {kazd kbzd kczd kdzd kezd : Option Value} {oczd kVzd dczd pmzd ctzd cxzd clzd : Value} {slzd czzd cnzd : Array (Option Value)} {fizd : Array Value} {filezd : Str} {tfzd : Tok} {cddzd : ClassData} {nmzu qnzu : Str} {nszu cdazu cczu : Addr} {bszu bmzu sbzu : List Value} {snzu : List Str} {abzu : Bool} {cozu : Option Bool} {ddzu odzu anzu cyzu cmzu : Option Addr} {kazu kbzu kczu kdzu kezu : Option Value} {oczu kVzu dczu pmzu ctzu cxzu clzu : Value} {slzu czzu cnzu : Array (Option Value)} {fizu : Array Value} {filezu : Str} {tfzu : Tok} {cddzu : ClassData}  {nmzf qnzf : Str} {nszf cdazf cczf : Addr} {bszf bmzf sbzf : List Value} {snzf : List Str} {abzf : Bool} {cozf : Option Bool} {ddzf odzf anzf cyzf cmzf : Option Addr} {kazf kbzf kczf kdzf kezf : Option Value} {oczf kVzf dczf pmzf ctzf cxzf clzf : Value} {slzf czzf cnzf : Array (Option Value)} {fizf : Array Value} {filezf : Str} {tfzf : Tok} {cddzf : ClassData} {tkp : Tok} 
    (a0 : PySem.W.nsIn K mainGlobals "decimal" = some (some (.ref f0))) (l0 : K.lookup f0 = some ⟨oc0, od0, .func (PySem.W.fnOf "decimal" "decimal" (defArgs s_decimal) (defBody s_decimal) (defScope s_decimal) .none kV0 dc0 pm0 an0 cd0 ct0), sl0⟩) (c0 : PySem.W.codeIn K cd0 "decimal" = true) (k0 : PySem.W.keepIn K (.ref f0) = true)
    (a1 : PySem.W.nsIn K mainGlobals "operands" = some (some (.ref f1))) (l1 : K.lookup f1 = some ⟨oc1, od1, .func (PySem.W.fnOf "operands" "operands" (defArgs s_operands) (defBody s_operands) (defScope s_operands) .none kV1 dc1 pm1 an1 cd1 ct1), sl1⟩) (c1 : PySem.W.codeIn K cd1 "operands" = true) (k1 : PySem.W.keepIn K (.ref f1) = true)
    (a2 : PySem.W.nsIn K mainGlobals "subformulas" = some (some (.ref f2))) (l2 : K.lookup f2 = some ⟨oc2, od2, .func (PySem.W.fnOf "subformulas" "subformulas" (defArgs s_subformulas) (defBody s_subformulas) (defScope s_subformulas) .none kV2 dc2 pm2 an2 cd2 ct2), sl2⟩) (c2 : PySem.W.codeIn K cd2 "subformulas" = true) (k2 : PySem.W.keepIn K (.ref f2) = true)
    (a3 : PySem.W.nsIn K mainGlobals "count_operators" = some (some (.ref f3))) (l3 : K.lookup f3 = some ⟨oc3, od3, .func (PySem.W.fnOf "count_operators" "count_operators" (defArgs s_count_operators) (defBody s_count_operators) (defScope s_count_operators) .none kV3 dc3 pm3 an3 cd3 ct3), sl3⟩) (c3 : PySem.W.codeIn K cd3 "count_operators" = true) (k3 : PySem.W.keepIn K (.ref f3) = true)
    (a4 : PySem.W.nsIn K mainGlobals "temporal_count" = some (some (.ref f4))) (l4 : K.lookup f4 = some ⟨oc4, od4, .func (PySem.W.fnOf "temporal_count" "temporal_count" (defArgs s_temporal_count) (defBody s_temporal_count) (defScope s_temporal_count) .none kV4 dc4 pm4 an4 cd4 ct4), sl4⟩) (c4 : PySem.W.codeIn K cd4 "temporal_count" = true) (k4 : PySem.W.keepIn K (.ref f4) = true)
    (a5 : PySem.W.nsIn K mainGlobals "depth" = some (some (.ref f5))) (l5 : K.lookup f5 = some ⟨oc5, od5, .func (PySem.W.fnOf "depth" "depth" (defArgs s_depth) (defBody s_depth) (defScope s_depth) .none kV5 dc5 pm5 an5 cd5 ct5), sl5⟩) (c5 : PySem.W.codeIn K cd5 "depth" = true) (k5 : PySem.W.keepIn K (.ref f5) = true)
    (a6 : PySem.W.nsIn K mainGlobals "word_at" = some (some (.ref f6))) (l6 : K.lookup f6 = some ⟨oc6, od6, .func (PySem.W.fnOf "word_at" "word_at" (defArgs s_word_at) (defBody s_word_at) (defScope s_word_at) .none kV6 dc6 pm6 an6 cd6 ct6), sl6⟩) (c6 : PySem.W.codeIn K cd6 "word_at" = true) (k6 : PySem.W.keepIn K (.ref f6) = true)
    (a7 : PySem.W.nsIn K mainGlobals "is_reserved" = some (some (.ref f7))) (l7 : K.lookup f7 = some ⟨oc7, od7, .func (PySem.W.fnOf "is_reserved" "is_reserved" (defArgs s_is_reserved) (defBody s_is_reserved) (defScope s_is_reserved) .none kV7 dc7 pm7 an7 cd7 ct7), sl7⟩) (c7 : PySem.W.codeIn K cd7 "is_reserved" = true) (k7 : PySem.W.keepIn K (.ref f7) = true)
    (a8 : PySem.W.nsIn K mainGlobals "parse_property" = some (some (.ref f8))) (l8 : K.lookup f8 = some ⟨oc8, od8, .func (PySem.W.fnOf "parse_property" "parse_property" (defArgs s_parse_property) (defBody s_parse_property) (defScope s_parse_property) .none kV8 dc8 pm8 an8 cd8 ct8), sl8⟩) (c8 : PySem.W.codeIn K cd8 "parse_property" = true) (k8 : PySem.W.keepIn K (.ref f8) = true)
    (a9 : PySem.W.nsIn K mainGlobals "check_names" = some (some (.ref f9))) (l9 : K.lookup f9 = some ⟨oc9, od9, .func (PySem.W.fnOf "check_names" "check_names" (defArgs s_check_names) (defBody s_check_names) (defScope s_check_names) .none kV9 dc9 pm9 an9 cd9 ct9), sl9⟩) (c9 : PySem.W.codeIn K cd9 "check_names" = true) (k9 : PySem.W.keepIn K (.ref f9) = true)
    (a10 : PySem.W.nsIn K mainGlobals "check_bounds" = some (some (.ref f10))) (l10 : K.lookup f10 = some ⟨oc10, od10, .func (PySem.W.fnOf "check_bounds" "check_bounds" (defArgs s_check_bounds) (defBody s_check_bounds) (defScope s_check_bounds) .none kV10 dc10 pm10 an10 cd10 ct10), sl10⟩) (c10 : PySem.W.codeIn K cd10 "check_bounds" = true) (k10 : PySem.W.keepIn K (.ref f10) = true)
    (a11 : PySem.W.nsIn K mainGlobals "split_tokens" = some (some (.ref f11))) (l11 : K.lookup f11 = some ⟨oc11, od11, .func (PySem.W.fnOf "split_tokens" "split_tokens" (defArgs s_split_tokens) (defBody s_split_tokens) (defScope s_split_tokens) .none kV11 dc11 pm11 an11 cd11 ct11), sl11⟩) (c11 : PySem.W.codeIn K cd11 "split_tokens" = true) (k11 : PySem.W.keepIn K (.ref f11) = true)
    (a12 : PySem.W.nsIn K mainGlobals "token_at" = some (some (.ref f12))) (l12 : K.lookup f12 = some ⟨oc12, od12, .func (PySem.W.fnOf "token_at" "token_at" (defArgs s_token_at) (defBody s_token_at) (defScope s_token_at) .none kV12 dc12 pm12 an12 cd12 ct12), sl12⟩) (c12 : PySem.W.codeIn K cd12 "token_at" = true) (k12 : PySem.W.keepIn K (.ref f12) = true)
    (a13 : PySem.W.nsIn K mainGlobals "fold" = some (some (.ref f13))) (l13 : K.lookup f13 = some ⟨oc13, od13, .func (PySem.W.fnOf "fold" "fold" (defArgs s_fold) (defBody s_fold) (defScope s_fold) .none kV13 dc13 pm13 an13 cd13 ct13), sl13⟩) (c13 : PySem.W.codeIn K cd13 "fold" = true) (k13 : PySem.W.keepIn K (.ref f13) = true)
    (a14 : PySem.W.nsIn K mainGlobals "fold_left" = some (some (.ref f14))) (l14 : K.lookup f14 = some ⟨oc14, od14, .func (PySem.W.fnOf "fold_left" "fold_left" (defArgs s_fold_left) (defBody s_fold_left) (defScope s_fold_left) .none kV14 dc14 pm14 an14 cd14 ct14), sl14⟩) (c14 : PySem.W.codeIn K cd14 "fold_left" = true) (k14 : PySem.W.keepIn K (.ref f14) = true)
    (a15 : PySem.W.nsIn K mainGlobals "fold_right" = some (some (.ref f15))) (l15 : K.lookup f15 = some ⟨oc15, od15, .func (PySem.W.fnOf "fold_right" "fold_right" (defArgs s_fold_right) (defBody s_fold_right) (defScope s_fold_right) .none kV15 dc15 pm15 an15 cd15 ct15), sl15⟩) (c15 : PySem.W.codeIn K cd15 "fold_right" = true) (k15 : PySem.W.keepIn K (.ref f15) = true)
    (a16 : PySem.W.nsIn K mainGlobals "_law_draws" = some (some (.ref f16))) (l16 : K.lookup f16 = some ⟨oc16, od16, .func (PySem.W.fnOf "_law_draws" "_law_draws" (defArgs s_law_draws) (defBody s_law_draws) (defScope s_law_draws) .none kV16 dc16 pm16 an16 cd16 ct16), sl16⟩) (c16 : PySem.W.codeIn K cd16 "_law_draws" = true) (k16 : PySem.W.keepIn K (.ref f16) = true)
    (a17 : PySem.W.nsIn K mainGlobals "_law_take" = some (some (.ref f17))) (l17 : K.lookup f17 = some ⟨oc17, od17, .func (PySem.W.fnOf "_law_take" "_law_take" (defArgs s_law_take) (defBody s_law_take) (defScope s_law_take) .none kV17 dc17 pm17 an17 cd17 ct17), sl17⟩) (c17 : PySem.W.codeIn K cd17 "_law_take" = true) (k17 : PySem.W.keepIn K (.ref f17) = true)
    (a18 : PySem.W.nsIn K mainGlobals "_law_is_integer" = some (some (.ref f18))) (l18 : K.lookup f18 = some ⟨oc18, od18, .func (PySem.W.fnOf "_law_is_integer" "_law_is_integer" (defArgs s_law_is_integer) (defBody s_law_is_integer) (defScope s_law_is_integer) .none kV18 dc18 pm18 an18 cd18 ct18), sl18⟩) (c18 : PySem.W.codeIn K cd18 "_law_is_integer" = true) (k18 : PySem.W.keepIn K (.ref f18) = true)
    (a19 : PySem.W.nsIn K mainGlobals "_law_name" = some (some (.ref f19))) (l19 : K.lookup f19 = some ⟨oc19, od19, .func (PySem.W.fnOf "_law_name" "_law_name" (defArgs s_law_name) (defBody s_law_name) (defScope s_law_name) .none kV19 dc19 pm19 an19 cd19 ct19), sl19⟩) (c19 : PySem.W.codeIn K cd19 "_law_name" = true) (k19 : PySem.W.keepIn K (.ref f19) = true)
    (a20 : PySem.W.nsIn K mainGlobals "_law_names" = some (some (.ref f20))) (l20 : K.lookup f20 = some ⟨oc20, od20, .func (PySem.W.fnOf "_law_names" "_law_names" (defArgs s_law_names) (defBody s_law_names) (defScope s_law_names) .none kV20 dc20 pm20 an20 cd20 ct20), sl20⟩) (c20 : PySem.W.codeIn K cd20 "_law_names" = true) (k20 : PySem.W.keepIn K (.ref f20) = true)
    (a21 : PySem.W.nsIn K mainGlobals "_law_leaf" = some (some (.ref f21))) (l21 : K.lookup f21 = some ⟨oc21, od21, .func (PySem.W.fnOf "_law_leaf" "_law_leaf" (defArgs s_law_leaf) (defBody s_law_leaf) (defScope s_law_leaf) .none kV21 dc21 pm21 an21 cd21 ct21), sl21⟩) (c21 : PySem.W.codeIn K cd21 "_law_leaf" = true) (k21 : PySem.W.keepIn K (.ref f21) = true)
    (a22 : PySem.W.nsIn K mainGlobals "_law_formula" = some (some (.ref f22))) (l22 : K.lookup f22 = some ⟨oc22, od22, .func (PySem.W.fnOf "_law_formula" "_law_formula" (defArgs s_law_formula) (defBody s_law_formula) (defScope s_law_formula) .none kV22 dc22 pm22 an22 cd22 ct22), sl22⟩) (c22 : PySem.W.codeIn K cd22 "_law_formula" = true) (k22 : PySem.W.keepIn K (.ref f22) = true)
    (a23 : PySem.W.nsIn K mainGlobals "_law_property" = some (some (.ref f23))) (l23 : K.lookup f23 = some ⟨oc23, od23, .func (PySem.W.fnOf "_law_property" "_law_property" (defArgs s_law_property) (defBody s_law_property) (defScope s_law_property) .none kV23 dc23 pm23 an23 cd23 ct23), sl23⟩) (c23 : PySem.W.codeIn K cd23 "_law_property" = true) (k23 : PySem.W.keepIn K (.ref f23) = true)
    (a24 : PySem.W.nsIn K mainGlobals "_law_print" = some (some (.ref f24))) (l24 : K.lookup f24 = some ⟨oc24, od24, .func (PySem.W.fnOf "_law_print" "_law_print" (defArgs s_law_print) (defBody s_law_print) (defScope s_law_print) .none kV24 dc24 pm24 an24 cd24 ct24), sl24⟩) (c24 : PySem.W.codeIn K cd24 "_law_print" = true) (k24 : PySem.W.keepIn K (.ref f24) = true)
    (a25 : PySem.W.nsIn K mainGlobals "_law_print_property" = some (some (.ref f25))) (l25 : K.lookup f25 = some ⟨oc25, od25, .func (PySem.W.fnOf "_law_print_property" "_law_print_property" (defArgs s_law_print_property) (defBody s_law_print_property) (defScope s_law_print_property) .none kV25 dc25 pm25 an25 cd25 ct25), sl25⟩) (c25 : PySem.W.codeIn K cd25 "_law_print_property" = true) (k25 : PySem.W.keepIn K (.ref f25) = true)
    (a26 : PySem.W.nsIn K mainGlobals "_law_token_end" = some (some (.ref f26))) (l26 : K.lookup f26 = some ⟨oc26, od26, .func (PySem.W.fnOf "_law_token_end" "_law_token_end" (defArgs s_law_token_end) (defBody s_law_token_end) (defScope s_law_token_end) .none kV26 dc26 pm26 an26 cd26 ct26), sl26⟩) (c26 : PySem.W.codeIn K cd26 "_law_token_end" = true) (k26 : PySem.W.keepIn K (.ref f26) = true)
    (a27 : PySem.W.nsIn K mainGlobals "_law_tokens" = some (some (.ref f27))) (l27 : K.lookup f27 = some ⟨oc27, od27, .func (PySem.W.fnOf "_law_tokens" "_law_tokens" (defArgs s_law_tokens) (defBody s_law_tokens) (defScope s_law_tokens) .none kV27 dc27 pm27 an27 cd27 ct27), sl27⟩) (c27 : PySem.W.codeIn K cd27 "_law_tokens" = true) (k27 : PySem.W.keepIn K (.ref f27) = true)
    (a28 : PySem.W.nsIn K mainGlobals "_law_is_name" = some (some (.ref f28))) (l28 : K.lookup f28 = some ⟨oc28, od28, .func (PySem.W.fnOf "_law_is_name" "_law_is_name" (defArgs s_law_is_name) (defBody s_law_is_name) (defScope s_law_is_name) .none kV28 dc28 pm28 an28 cd28 ct28), sl28⟩) (c28 : PySem.W.codeIn K cd28 "_law_is_name" = true) (k28 : PySem.W.keepIn K (.ref f28) = true)
    (a29 : PySem.W.nsIn K mainGlobals "_law_begin" = some (some (.ref f29))) (l29 : K.lookup f29 = some ⟨oc29, od29, .func (PySem.W.fnOf "_law_begin" "_law_begin" (defArgs s_law_begin) (defBody s_law_begin) (defScope s_law_begin) .none kV29 dc29 pm29 an29 cd29 ct29), sl29⟩) (c29 : PySem.W.codeIn K cd29 "_law_begin" = true) (k29 : PySem.W.keepIn K (.ref f29) = true)
    (a30 : PySem.W.nsIn K mainGlobals "_law_fault" = some (some (.ref f30))) (l30 : K.lookup f30 = some ⟨oc30, od30, .func (PySem.W.fnOf "_law_fault" "_law_fault" (defArgs s_law_fault) (defBody s_law_fault) (defScope s_law_fault) .none kV30 dc30 pm30 an30 cd30 ct30), sl30⟩) (c30 : PySem.W.codeIn K cd30 "_law_fault" = true) (k30 : PySem.W.keepIn K (.ref f30) = true)
    (a31 : PySem.W.nsIn K mainGlobals "_law_sign" = some (some (.ref f31))) (l31 : K.lookup f31 = some ⟨oc31, od31, .func (PySem.W.fnOf "_law_sign" "_law_sign" (defArgs s_law_sign) (defBody s_law_sign) (defScope s_law_sign) .none kV31 dc31 pm31 an31 cd31 ct31), sl31⟩) (c31 : PySem.W.codeIn K cd31 "_law_sign" = true) (k31 : PySem.W.keepIn K (.ref f31) = true)
    (a32 : PySem.W.nsIn K mainGlobals "_law_change" = some (some (.ref f32))) (l32 : K.lookup f32 = some ⟨oc32, od32, .func (PySem.W.fnOf "_law_change" "_law_change" (defArgs s_law_change) (defBody s_law_change) (defScope s_law_change) .none kV32 dc32 pm32 an32 cd32 ct32), sl32⟩) (c32 : PySem.W.codeIn K cd32 "_law_change" = true) (k32 : PySem.W.keepIn K (.ref f32) = true)
    (a33 : PySem.W.nsIn K mainGlobals "_law_outcome" = some (some (.ref f33))) (l33 : K.lookup f33 = some ⟨oc33, od33, .func (PySem.W.fnOf "_law_outcome" "_law_outcome" (defArgs s_law_outcome) (defBody s_law_outcome) (defScope s_law_outcome) .none kV33 dc33 pm33 an33 cd33 ct33), sl33⟩) (c33 : PySem.W.codeIn K cd33 "_law_outcome" = true) (k33 : PySem.W.keepIn K (.ref f33) = true)
    (a34 : PySem.W.nsIn K mainGlobals "law" = some (some (.ref f34))) (l34 : K.lookup f34 = some ⟨oc34, od34, .func (PySem.W.fnOf "law" "law" (defArgs s_law) (defBody s_law) (defScope s_law) .none kV34 dc34 pm34 an34 cd34 ct34), sl34⟩) (c34 : PySem.W.codeIn K cd34 "law" = true) (k34 : PySem.W.keepIn K (.ref f34) = true)
    (z0 : PySem.W.nsIn K mainGlobals "ValueError" = some none) (z1 : PySem.W.nsIn K mainGlobals "abs" = some none) (z2 : PySem.W.nsIn K mainGlobals "bool" = some none) (z3 : PySem.W.nsIn K mainGlobals "int" = some none) (z4 : PySem.W.nsIn K mainGlobals "isinstance" = some none) (z5 : PySem.W.nsIn K mainGlobals "len" = some none) (z6 : PySem.W.nsIn K mainGlobals "list" = some none) (z7 : PySem.W.nsIn K mainGlobals "max" = some none) (z8 : PySem.W.nsIn K mainGlobals "min" = some none) (z9 : PySem.W.nsIn K mainGlobals "range" = some none) (z10 : PySem.W.nsIn K mainGlobals "str" = some none) (z11 : PySem.W.nsIn K mainGlobals "tuple" = some none) (z12 : PySem.W.nsIn K mainGlobals "zip" = some none) (gQa : PySem.W.nsIn K mainGlobals "QUANTIFIERS" = some (some (.ref aQ))) (gQb : K.lookup aQ = some ⟨.type "tuple", dQ, .seq #[.str "exists" tQ0, .str "forall" tQ1] nQ, slQ⟩) (gNa : PySem.W.nsIn K mainGlobals "CONSTANTS" = some (some (.ref aN))) (gNb : K.lookup aN = some ⟨.type "tuple", dN, .seq #[.str "true" tN0, .str "false" tN1] nN, slN⟩) (gFa : PySem.W.nsIn K mainGlobals "FUTURE" = some (some (.ref aF))) (gFb : K.lookup aF = some ⟨.type "tuple", dF, .seq #[.str "next" tF0, .str "eventually" tF1, .str "always" tF2, .str "until" tF3, .str "weak_until" tF4, .str "release" tF5] nF, slF⟩) (gPa : PySem.W.nsIn K mainGlobals "PAST" = some (some (.ref aP))) (gPb : K.lookup aP = some ⟨.type "tuple", dP, .seq #[.str "previous" tP0, .str "weak_previous" tP1, .str "once" tP2, .str "historically" tP3, .str "since" tP4, .str "trigger" tP5] nP, slP⟩) (gGa : PySem.W.nsIn K mainGlobals "SIGNS" = some (some (.ref aG))) (gGb : K.lookup aG = some ⟨.type "tuple", dG, .seq #[.str "<->" tG0, .str "->" tG1, .str "!" tG2, .str "&" tG3, .str "|" tG4, .str "(" tG5, .str ")" tG6, .str "," tG7, .str ":" tG8, .str "X" tG9, .str "F" tG10, .str "G" tG11, .str "U" tG12, .str "W" tG13, .str "R" tG14, .str "Y" tG15, .str "Z" tG16, .str "O" tG17, .str "H" tG18, .str "S" tG19, .str "T" tG20] nG, slG⟩) (gAa : PySem.W.nsIn K mainGlobals "ASSOCIATE_TO_THE_LEFT" = some (some (.ref aA))) (gAb : K.lookup aA = some ⟨.type "tuple", dA, .seq #[.str "|" tA0, .str "&" tA1] nA, slA⟩) (gc : PySem.W.nsIn K mainGlobals "LOWER_CASE" = some (some (.str "abcdefghijklmnopqrstuvwxyz" tk1))) (gd : PySem.W.nsIn K mainGlobals "DIGITS" = some (some (.str "0123456789" tk2))) (ya : PySem.W.nsIn K mainGlobals "Reader" = some (some (.ref C))) (yb : PySem.W.plainGet K C Str.empty = true) (yc : PySem.W.hasDictIn K C = true) (yd : PySem.W.plainOver K C = true) (ye : PySem.W.findIn K (.ref C) "__setattr__" = some (some (.builtin "object.__setattr__"))) (yf0 : PySem.W.findIn K (.ref C) "tokens" = some none) (yf1 : PySem.W.findIn K (.ref C) "at" = some none) (yf2 : PySem.W.findIn K (.ref C) "prefixes" = some none) (yj : PySem.W.makesIn K C = true) (yk : PySem.W.findIn K (.ref C) "__init__" = some (some (.ref fI))) (yl : PySem.W.isFn K (.ref fI) = true) (ym : PySem.W.keepIn K (.ref C) = true) (yn : K.lookup fI = some ⟨ocI, odI, .func (PySem.W.fnOf "__init__" "Reader.__init__" (defArgs s_Reader_init) (defBody s_Reader_init) (defScope s_Reader_init) .none kVI dcI pmI anI cdI ctI), slmI⟩) (yo : PySem.W.codeIn K cdI "Reader.__init__" = true) (yp : PySem.W.keepIn K (.ref fI) = true) (p9a : PySem.W.findIn K (.ref C) "peek" = some (some (.ref fP))) (p9n : K.lookup fP = some ⟨ocP, odP, .func (PySem.W.fnOf "peek" "Reader.peek" (defArgs s_Reader_peek) (defBody s_Reader_peek) (defScope s_Reader_peek) .none kVP dcP pmP anP cdP ctP), slmP⟩) (p9o : PySem.W.codeIn K cdP "Reader.peek" = true) (p9p : PySem.W.keepIn K (.ref fP) = true) (p9b : PySem.W.isFn K (.ref fP) = true) (t9a : PySem.W.findIn K (.ref C) "take" = some (some (.ref fT))) (t9n : K.lookup fT = some ⟨ocT, odT, .func (PySem.W.fnOf "take" "Reader.take" (defArgs s_Reader_take) (defBody s_Reader_take) (defScope s_Reader_take) .none kVT dcT pmT anT cdT ctT), slmT⟩) (t9o : PySem.W.codeIn K cdT "Reader.take" = true) (t9p : PySem.W.keepIn K (.ref fT) = true) (t9b : PySem.W.isFn K (.ref fT) = true) (a9a : PySem.W.findIn K (.ref C) "read_all" = some (some (.ref fA))) (a9n : K.lookup fA = some ⟨ocA, odA, .func (PySem.W.fnOf "read_all" "Reader.read_all" (defArgs s_Reader_read_all) (defBody s_Reader_read_all) (defScope s_Reader_read_all) .none kVA dcA pmA anA cdA ctA), slmA⟩) (a9o : PySem.W.codeIn K cdA "Reader.read_all" = true) (a9p : PySem.W.keepIn K (.ref fA) = true) (a9b : PySem.W.isFn K (.ref fA) = true) (h9a : PySem.W.findIn K (.ref C) "read_hidden" = some (some (.ref fH))) (h9n : K.lookup fH = some ⟨ocH, odH, .func (PySem.W.fnOf "read_hidden" "Reader.read_hidden" (defArgs s_Reader_read_hidden) (defBody s_Reader_read_hidden) (defScope s_Reader_read_hidden) .none kVH dcH pmH anH cdH ctH), slmH⟩) (h9o : PySem.W.codeIn K cdH "Reader.read_hidden" = true) (h9p : PySem.W.keepIn K (.ref fH) = true) (h9b : PySem.W.isFn K (.ref fH) = true) (f9a : PySem.W.findIn K (.ref C) "read_formula" = some (some (.ref fF))) (f9n : K.lookup fF = some ⟨ocF, odF, .func (PySem.W.fnOf "read_formula" "Reader.read_formula" (defArgs s_Reader_read_formula) (defBody s_Reader_read_formula) (defScope s_Reader_read_formula) .none kVF dcF pmF anF cdF ctF), slmF⟩) (f9o : PySem.W.codeIn K cdF "Reader.read_formula" = true) (f9p : PySem.W.keepIn K (.ref fF) = true) (f9b : PySem.W.isFn K (.ref fF) = true) (u9a : PySem.W.findIn K (.ref C) "read_unary" = some (some (.ref fU))) (u9n : K.lookup fU = some ⟨ocU, odU, .func (PySem.W.fnOf "read_unary" "Reader.read_unary" (defArgs s_Reader_read_unary) (defBody s_Reader_read_unary) (defScope s_Reader_read_unary) .none kVU dcU pmU anU cdU ctU), slmU⟩) (u9o : PySem.W.codeIn K cdU "Reader.read_unary" = true) (u9p : PySem.W.keepIn K (.ref fU) = true) (u9b : PySem.W.isFn K (.ref fU) = true) (o9a : PySem.W.findIn K (.ref C) "read_atom" = some (some (.ref fO))) (o9n : K.lookup fO = some ⟨ocO, odO, .func (PySem.W.fnOf "read_atom" "Reader.read_atom" (defArgs s_Reader_read_atom) (defBody s_Reader_read_atom) (defScope s_Reader_read_atom) .none kVO dcO pmO anO cdO ctO), slmO⟩) (o9o : PySem.W.codeIn K cdO "Reader.read_atom" = true) (o9p : PySem.W.keepIn K (.ref fO) = true) (o9b : PySem.W.isFn K (.ref fO) = true) (kra : PySem.W.nsIn K mainGlobals "PREFIX_SIGNS" = some (some (.ref aR))) (krb : K.lookup aR = some ⟨.type "dict", none, .dict #[⟨krh0, .str "not" krk0, .str "!" krv0⟩, ⟨krh1, .str "next" krk1, .str "X" krv1⟩, ⟨krh2, .str "eventually" krk2, .str "F" krv2⟩, ⟨krh3, .str "always" krk3, .str "G" krv3⟩, ⟨krh4, .str "previous" krk4, .str "Y" krv4⟩, ⟨krh5, .str "weak_previous" krk5, .str "Z" krv5⟩, ⟨krh6, .str "once" krk6, .str "O" krv6⟩, ⟨krh7, .str "historically" krk7, .str "H" krv7⟩] krn, #[]⟩) (krk : PySem.W.KeysLit w.params (#[⟨krh0, .str "not" krk0, .str "!" krv0⟩, ⟨krh1, .str "next" krk1, .str "X" krv1⟩, ⟨krh2, .str "eventually" krk2, .str "F" krv2⟩, ⟨krh3, .str "always" krk3, .str "G" krv3⟩, ⟨krh4, .str "previous" krk4, .str "Y" krv4⟩, ⟨krh5, .str "weak_previous" krk5, .str "Z" krv5⟩, ⟨krh6, .str "once" krk6, .str "O" krv6⟩, ⟨krh7, .str "historically" krk7, .str "H" krv7⟩] : Array DictEntry).toList) (krl : (aR == sysModules) = false) (kia : PySem.W.nsIn K mainGlobals "INFIX_SIGNS" = some (some (.ref aI))) (kib : K.lookup aI = some ⟨.type "dict", none, .dict #[⟨kih0, .str "iff" kik0, .str "<->" kiv0⟩, ⟨kih1, .str "implies" kik1, .str "->" kiv1⟩, ⟨kih2, .str "or" kik2, .str "|" kiv2⟩, ⟨kih3, .str "and" kik3, .str "&" kiv3⟩, ⟨kih4, .str "until" kik4, .str "U" kiv4⟩, ⟨kih5, .str "weak_until" kik5, .str "W" kiv5⟩, ⟨kih6, .str "release" kik6, .str "R" kiv6⟩, ⟨kih7, .str "since" kik7, .str "S" kiv7⟩, ⟨kih8, .str "trigger" kik8, .str "T" kiv8⟩] kin, #[]⟩) (kik : PySem.W.KeysLit w.params (#[⟨kih0, .str "iff" kik0, .str "<->" kiv0⟩, ⟨kih1, .str "implies" kik1, .str "->" kiv1⟩, ⟨kih2, .str "or" kik2, .str "|" kiv2⟩, ⟨kih3, .str "and" kik3, .str "&" kiv3⟩, ⟨kih4, .str "until" kik4, .str "U" kiv4⟩, ⟨kih5, .str "weak_until" kik5, .str "W" kiv5⟩, ⟨kih6, .str "release" kik6, .str "R" kiv6⟩, ⟨kih7, .str "since" kik7, .str "S" kiv7⟩, ⟨kih8, .str "trigger" kik8, .str "T" kiv8⟩] : Array DictEntry).toList) (kil : (aI == sysModules) = false) (lva : PySem.W.nsIn K mainGlobals "LEVELS" = some (some (.ref aL))) (lvb : K.lookup aL = some ⟨.type "tuple", dLV, .seq #[.ref bL0, .ref bL1, .ref bL2, .ref bL3, .ref bL4] nLV, slLV⟩) (lvc0 : K.lookup bL0 = some ⟨.type "tuple", dLV0, .seq #[.str "<->" tL00] nLV0, slLV0⟩) (lvc1 : K.lookup bL1 = some ⟨.type "tuple", dLV1, .seq #[.str "->" tL10] nLV1, slLV1⟩) (lvc2 : K.lookup bL2 = some ⟨.type "tuple", dLV2, .seq #[.str "|" tL20] nLV2, slLV2⟩) (lvc3 : K.lookup bL3 = some ⟨.type "tuple", dLV3, .seq #[.str "&" tL30] nLV3, slLV3⟩) (lvc4 : K.lookup bL4 = some ⟨.type "tuple", dLV4, .seq #[.str "U" tL40, .str "W" tL41, .str "R" tL42, .str "S" tL43, .str "T" tL44] nLV4, slLV4⟩) (mt0 : PySem.W.nsIn K mainGlobals "MOST_CHARACTERS" = some (some (.int 200 tm1))) (mt1 : PySem.W.nsIn K mainGlobals "MOST_PARENTHESES" = some (some (.int 20 tm2))) (mt2 : PySem.W.nsIn K mainGlobals "MOST_HIDDEN" = some (some (.int 3 tm3))) (mt3 : PySem.W.nsIn K mainGlobals "MOST_DEPTH" = some (some (.int 100 tm4))) (mt4 : PySem.W.nsIn K mainGlobals "MOST_TEMPORAL" = some (some (.int 8 tm5))) (mt5 : PySem.W.nsIn K mainGlobals "MOST_DOUBLING" = some (some (.int 6 tm6))) (xxa : PySem.W.nsIn K mainGlobals "TooLarge" = some (some (.ref cT))) (xxb : PySem.W.excIn K cT [.type "ValueError", .type "Exception", .type "BaseException", .type "object"] "ValueError.__new__" = true) (xxc : PySem.W.keepIn K (.ref cT) = true) (xxd : PySem.W.typeIn K (.ref cT) = some (.type "type")) (xxe : PySem.W.subIn K (.ref cT) (.ref cT) = some true) (xxf : PySem.W.findIn K (.ref cT) "__getattribute__" = some (some (.builtin "BaseException.__getattribute__"))) (xxg : PySem.W.findIn K (.ref cT) "__getattr__" = some none) (xxh : PySem.W.subIn K (.ref cT) (.type "BaseException") = some true) (xxi : PySem.W.hasDictIn K cT = true) (xxj : PySem.W.findIn K (.ref cT) "__class__" = some (some (.builtin "object.__class__"))) (xxk : PySem.W.specialIn K (.builtin "object.__class__") "__get__" = some (some (.builtin "getset_descriptor.__get__"))) (xxl : PySem.W.takesIn K (.builtin "object.__class__") = some true) (xxm : PySem.W.mroIn K cT (.type "object") = some true) (zda : PySem.W.nsIn K mainGlobals "DuplicateSignal" = some (some (.ref czd))) (zdb : K.lookup czd = some (excClassObj nmzd qnzd czd nszd bszd bmzd true snzd sbzd abzd cozd ddzd kazd kbzd kczd kdzd kezd "ValueError.__new__")) (zdc : PySem.HandSPX.refsVE bmzd = true) (zdd : PySem.W.findIn K (.ref czd) "__setattr__" = some (some (.builtin "object.__setattr__"))) (zde : PySem.W.subIn K (.ref czd) (.type "BaseException") = some true) (zdf : PySem.W.typeIn K (.ref czd) = some (.type "type")) (zdg : PySem.W.keepIn K (.ref czd) = true) (zdh : PySem.W.findIn K (.ref czd) "__init__" = some (some (.ref gzd))) (zdi : PySem.W.typeIn K (.ref gzd) = some (.type "function")) (zdj : K.lookup gzd = some ⟨oczd, odzd, .func (PySem.W.ksFn "__init__" "DuplicateSignal.__init__" (defArgs s_DuplicateSignal_init) (defBody s_DuplicateSignal_init) (defScope s_DuplicateSignal_init) .none kVzd dczd pmzd anzd (.ref cdazd) ctzd cczd), slzd⟩) (zdk : PySem.W.codeIn K (.ref cdazd) "DuplicateSignal.__init__" = true) (zdl : K.lookup cdazd = some ⟨cxzd, cyzd, .fields fizd, czzd⟩) (zdm : fizd[2]? = some (.str filezd tfzd)) (zdn : ((l.prog.main.file : Str) == filezd) = true) (zdo : K.lookup cczd = some ⟨clzd, cmzd, .cell (some (.ref czd)), cnzd⟩) (zdp : PySem.W.clsIn K czd = some cddzd) (zdq : PySem.W.alongIn K "__init__" ((cddzd.mro.dropWhile (· != .ref czd)).drop 1) = some (some (.builtin "ValueError.__init__"))) (zdr : PySem.W.mroIn K czd (.ref czd) = some true) (zds : PySem.W.subIn K (.ref czd) (.type "ValueError") = some true) (zdt : PySem.W.findIn K (.ref czd) "__getattribute__" = some (some (.builtin "BaseException.__getattribute__"))) (zdu : PySem.W.findIn K (.ref czd) "__getattr__" = some none) (zdv : PySem.W.hasDictIn K czd = true) (zdw : PySem.W.findIn K (.ref czd) "name" = some none) (zua : PySem.W.nsIn K mainGlobals "UnknownSignal" = some (some (.ref czu))) (zub : K.lookup czu = some (excClassObj nmzu qnzu czu nszu bszu bmzu true snzu sbzu abzu cozu ddzu kazu kbzu kczu kdzu kezu "ValueError.__new__")) (zuc : PySem.HandSPX.refsVE bmzu = true) (zud : PySem.W.findIn K (.ref czu) "__setattr__" = some (some (.builtin "object.__setattr__"))) (zue : PySem.W.subIn K (.ref czu) (.type "BaseException") = some true) (zuf : PySem.W.typeIn K (.ref czu) = some (.type "type")) (zug : PySem.W.keepIn K (.ref czu) = true) (zuh : PySem.W.findIn K (.ref czu) "__init__" = some (some (.ref gzu))) (zui : PySem.W.typeIn K (.ref gzu) = some (.type "function")) (zuj : K.lookup gzu = some ⟨oczu, odzu, .func (PySem.W.ksFn "__init__" "UnknownSignal.__init__" (defArgs s_UnknownSignal_init) (defBody s_UnknownSignal_init) (defScope s_UnknownSignal_init) .none kVzu dczu pmzu anzu (.ref cdazu) ctzu cczu), slzu⟩) (zuk : PySem.W.codeIn K (.ref cdazu) "UnknownSignal.__init__" = true) (zul : K.lookup cdazu = some ⟨cxzu, cyzu, .fields fizu, czzu⟩) (zum : fizu[2]? = some (.str filezu tfzu)) (zun : ((l.prog.main.file : Str) == filezu) = true) (zuo : K.lookup cczu = some ⟨clzu, cmzu, .cell (some (.ref czu)), cnzu⟩) (zup : PySem.W.clsIn K czu = some cddzu) (zuq : PySem.W.alongIn K "__init__" ((cddzu.mro.dropWhile (· != .ref czu)).drop 1) = some (some (.builtin "ValueError.__init__"))) (zur : PySem.W.mroIn K czu (.ref czu) = some true) (zus : PySem.W.subIn K (.ref czu) (.type "ValueError") = some true) (zut : PySem.W.findIn K (.ref czu) "__getattribute__" = some (some (.builtin "BaseException.__getattribute__"))) (zuu : PySem.W.findIn K (.ref czu) "__getattr__" = some none) (zuv : PySem.W.hasDictIn K czu = true) (zuw : PySem.W.findIn K (.ref czu) "name" = some none) (hp1 : PySem.W.nsIn K mainGlobals "super" = some none) (hp2 : (l.prog.main.scope.names.lookup ("super" : Str)).isSome = false) (hp3 : PySem.W.nsIn K cStatics "thirdparty.any" = some none) (hq1 : PySem.W.kitOne K (.ref cT) (.type "ValueError") = some true) (hq2 : PySem.W.exmOne K (.ref czd) (.ref czd) = some true) (hq3 : PySem.W.exmOne K (.ref czu) (.ref czd) = some false) (hq4 : PySem.W.exmOne K (.ref czu) (.ref czu) = some true) (hq5 : PySem.W.exmOne K (.ref cT) (.ref czd) = some false) (hq6 : PySem.W.exmOne K (.ref cT) (.ref czu) = some false) (zfa : PySem.W.nsIn K mainGlobals "FormulaSyntaxError" = some (some (.ref czf))) (zfb : K.lookup czf = some (excClassObj nmzf qnzf czf nszf bszf bmzf true snzf sbzf abzf cozf ddzf kazf kbzf kczf kdzf kezf "ValueError.__new__")) (zfc : PySem.HandSPX.refsVE bmzf = true) (zfd : PySem.W.findIn K (.ref czf) "__setattr__" = some (some (.builtin "object.__setattr__"))) (zfe : PySem.W.subIn K (.ref czf) (.type "BaseException") = some true) (zff : PySem.W.typeIn K (.ref czf) = some (.type "type")) (zfg : PySem.W.keepIn K (.ref czf) = true) (zfh : PySem.W.findIn K (.ref czf) "__init__" = some (some (.ref gzf))) (zfi : PySem.W.typeIn K (.ref gzf) = some (.type "function")) (zfj : K.lookup gzf = some ⟨oczf, odzf, .func (PySem.W.ksFn "__init__" "FormulaSyntaxError.__init__" (defArgs s_FormulaSyntaxError_init) (defBody s_FormulaSyntaxError_init) (defScope s_FormulaSyntaxError_init) .none kVzf dczf pmzf anzf (.ref cdazf) ctzf cczf), slzf⟩) (zfk : PySem.W.codeIn K (.ref cdazf) "FormulaSyntaxError.__init__" = true) (zfl : K.lookup cdazf = some ⟨cxzf, cyzf, .fields fizf, czzf⟩) (zfm : fizf[2]? = some (.str filezf tfzf)) (zfn : ((l.prog.main.file : Str) == filezf) = true) (zfo : K.lookup cczf = some ⟨clzf, cmzf, .cell (some (.ref czf)), cnzf⟩) (zfp : PySem.W.clsIn K czf = some cddzf) (zfq : PySem.W.alongIn K "__init__" ((cddzf.mro.dropWhile (· != .ref czf)).drop 1) = some (some (.builtin "ValueError.__init__"))) (zfr : PySem.W.mroIn K czf (.ref czf) = some true) (zfs : PySem.W.subIn K (.ref czf) (.type "ValueError") = some true) (zft : PySem.W.findIn K (.ref czf) "__getattribute__" = some (some (.builtin "BaseException.__getattribute__"))) (zfu : PySem.W.findIn K (.ref czf) "__getattr__" = some none) (zfv : PySem.W.hasDictIn K czf = true) (zfw : PySem.W.findIn K (.ref czf) "position" = some none) (zfx : PySem.W.findIn K (.ref czf) "__class__" = some (some (.builtin "object.__class__"))) (zfy : PySem.W.mroIn K czf (.type "object") = some true) (hs1 : PySem.W.nsIn K mainGlobals "SynthError" = some (some (.ref cSy))) (hs2 : PySem.W.nsIn K mainGlobals "PIECE" = some (some (.int 1000000000000000000 tkp))) (hr1 : PySem.W.kitOne K (.ref czf) (.type "ValueError") = some true) (hr2 : PySem.W.exmOne K (.ref czf) (.ref czf) = some true) (hr3 : PySem.W.exmOne K (.ref cT) (.ref czf) = some false) (hr4 : PySem.W.exmOne K (.ref czd) (.ref czf) = some false) (hr5 : PySem.W.exmOne K (.ref czu) (.ref czf) = some false) (hr6 : PySem.W.exmOne K (.ref cT) (.ref cSy) = some true) (hr7 : PySem.W.exmOne K (.ref czd) (.ref cSy) = some true) (hr8 : PySem.W.exmOne K (.ref czu) (.ref cSy) = some true) :
    ∃ fd : FuncData, (∀ (s : Shared) (v : Value), BindsTo s fd ⟨[v], []⟩ [("script", v)]) ∧ ∀ base : Heap, K.In base → base.Ns mainGlobals mg → FnOk l.prog w K mg base CX0 200 fa fd ["script"] (spLaw K) := by
  have e := hfa.symm.trans (PySem.W.mg_of X G a34)
  cases e
  have T : Txt K mg w l.prog := ⟨⟨f0, _, fun_mk (st := s_decimal) l0 c0 k0, PySem.W.mg_of X G a0, (fun_mk (st := s_decimal) l0 c0 k0).binds fun _ _ _ _ _ _ us hl => match us, hl with | [_], _ => rfl⟩, ⟨f1, _, fun_mk (st := s_operands) l1 c1 k1, PySem.W.mg_of X G a1, (fun_mk (st := s_operands) l1 c1 k1).binds fun _ _ _ _ _ _ us hl => match us, hl with | [_], _ => rfl⟩, ⟨f2, _, fun_mk (st := s_subformulas) l2 c2 k2, PySem.W.mg_of X G a2, (fun_mk (st := s_subformulas) l2 c2 k2).binds fun _ _ _ _ _ _ us hl => match us, hl with | [_], _ => rfl⟩, ⟨f3, _, fun_mk (st := s_count_operators) l3 c3 k3, PySem.W.mg_of X G a3, (fun_mk (st := s_count_operators) l3 c3 k3).binds fun _ _ _ _ _ _ us hl => match us, hl with | [_, _], _ => rfl⟩, ⟨f4, _, fun_mk (st := s_temporal_count) l4 c4 k4, PySem.W.mg_of X G a4, (fun_mk (st := s_temporal_count) l4 c4 k4).binds fun _ _ _ _ _ _ us hl => match us, hl with | [_], _ => rfl⟩, ⟨f5, _, fun_mk (st := s_depth) l5 c5 k5, PySem.W.mg_of X G a5, (fun_mk (st := s_depth) l5 c5 k5).binds fun _ _ _ _ _ _ us hl => match us, hl with | [_], _ => rfl⟩, ⟨f6, _, fun_mk (st := s_word_at) l6 c6 k6, PySem.W.mg_of X G a6, (fun_mk (st := s_word_at) l6 c6 k6).binds fun _ _ _ _ _ _ us hl => match us, hl with | [_, _], _ => rfl⟩, ⟨f7, _, fun_mk (st := s_is_reserved) l7 c7 k7, PySem.W.mg_of X G a7, (fun_mk (st := s_is_reserved) l7 c7 k7).binds fun _ _ _ _ _ _ us hl => match us, hl with | [_], _ => rfl⟩, ⟨f8, _, fun_mk (st := s_parse_property) l8 c8 k8, PySem.W.mg_of X G a8, (fun_mk (st := s_parse_property) l8 c8 k8).binds fun _ _ _ _ _ _ us hl => match us, hl with | [_, _], _ => rfl⟩, ⟨f9, _, fun_mk (st := s_check_names) l9 c9 k9, PySem.W.mg_of X G a9, (fun_mk (st := s_check_names) l9 c9 k9).binds fun _ _ _ _ _ _ us hl => match us, hl with | [_, _, _], _ => rfl⟩, ⟨f10, _, fun_mk (st := s_check_bounds) l10 c10 k10, PySem.W.mg_of X G a10, (fun_mk (st := s_check_bounds) l10 c10 k10).binds fun _ _ _ _ _ _ us hl => match us, hl with | [_, _], _ => rfl⟩, ⟨f11, _, fun_mk (st := s_split_tokens) l11 c11 k11, PySem.W.mg_of X G a11, (fun_mk (st := s_split_tokens) l11 c11 k11).binds fun _ _ _ _ _ _ us hl => match us, hl with | [_], _ => rfl⟩, ⟨f12, _, fun_mk (st := s_token_at) l12 c12 k12, PySem.W.mg_of X G a12, (fun_mk (st := s_token_at) l12 c12 k12).binds fun _ _ _ _ _ _ us hl => match us, hl with | [_, _], _ => rfl⟩, ⟨f13, _, fun_mk (st := s_fold) l13 c13 k13, PySem.W.mg_of X G a13, (fun_mk (st := s_fold) l13 c13 k13).binds fun _ _ _ _ _ _ us hl => match us, hl with | [_, _], _ => rfl⟩, ⟨f14, _, fun_mk (st := s_fold_left) l14 c14 k14, PySem.W.mg_of X G a14, (fun_mk (st := s_fold_left) l14 c14 k14).binds fun _ _ _ _ _ _ us hl => match us, hl with | [_, _], _ => rfl⟩, ⟨f15, _, fun_mk (st := s_fold_right) l15 c15 k15, PySem.W.mg_of X G a15, (fun_mk (st := s_fold_right) l15 c15 k15).binds fun _ _ _ _ _ _ us hl => match us, hl with | [_, _], _ => rfl⟩, ⟨f16, _, fun_mk (st := s_law_draws) l16 c16 k16, PySem.W.mg_of X G a16, (fun_mk (st := s_law_draws) l16 c16 k16).binds fun _ _ _ _ _ _ us hl => match us, hl with | [_, _], _ => rfl⟩, ⟨f17, _, fun_mk (st := s_law_take) l17 c17 k17, PySem.W.mg_of X G a17, (fun_mk (st := s_law_take) l17 c17 k17).binds fun _ _ _ _ _ _ us hl => match us, hl with | [_, _], _ => rfl⟩, ⟨f18, _, fun_mk (st := s_law_is_integer) l18 c18 k18, PySem.W.mg_of X G a18, (fun_mk (st := s_law_is_integer) l18 c18 k18).binds fun _ _ _ _ _ _ us hl => match us, hl with | [_], _ => rfl⟩, ⟨f19, _, fun_mk (st := s_law_name) l19 c19 k19, PySem.W.mg_of X G a19, (fun_mk (st := s_law_name) l19 c19 k19).binds fun _ _ _ _ _ _ us hl => match us, hl with | [_, _], _ => rfl⟩, ⟨f20, _, fun_mk (st := s_law_names) l20 c20 k20, PySem.W.mg_of X G a20, (fun_mk (st := s_law_names) l20 c20 k20).binds fun _ _ _ _ _ _ us hl => match us, hl with | [_, _], _ => rfl⟩, ⟨f21, _, fun_mk (st := s_law_leaf) l21 c21 k21, PySem.W.mg_of X G a21, (fun_mk (st := s_law_leaf) l21 c21 k21).binds fun _ _ _ _ _ _ us hl => match us, hl with | [_, _], _ => rfl⟩, ⟨f22, _, fun_mk (st := s_law_formula) l22 c22 k22, PySem.W.mg_of X G a22, (fun_mk (st := s_law_formula) l22 c22 k22).binds fun _ _ _ _ _ _ us hl => match us, hl with | [_, _, _, _], _ => rfl⟩, ⟨f23, _, fun_mk (st := s_law_property) l23 c23 k23, PySem.W.mg_of X G a23, (fun_mk (st := s_law_property) l23 c23 k23).binds fun _ _ _ _ _ _ us hl => match us, hl with | [_, _, _, _, _], _ => rfl⟩, ⟨f24, _, fun_mk (st := s_law_print) l24 c24 k24, PySem.W.mg_of X G a24, (fun_mk (st := s_law_print) l24 c24 k24).binds fun _ _ _ _ _ _ us hl => match us, hl with | [_], _ => rfl⟩, ⟨f25, _, fun_mk (st := s_law_print_property) l25 c25 k25, PySem.W.mg_of X G a25, (fun_mk (st := s_law_print_property) l25 c25 k25).binds fun _ _ _ _ _ _ us hl => match us, hl with | [_], _ => rfl⟩, ⟨f26, _, fun_mk (st := s_law_token_end) l26 c26 k26, PySem.W.mg_of X G a26, (fun_mk (st := s_law_token_end) l26 c26 k26).binds fun _ _ _ _ _ _ us hl => match us, hl with | [_, _], _ => rfl⟩, ⟨f27, _, fun_mk (st := s_law_tokens) l27 c27 k27, PySem.W.mg_of X G a27, (fun_mk (st := s_law_tokens) l27 c27 k27).binds fun _ _ _ _ _ _ us hl => match us, hl with | [_], _ => rfl⟩, ⟨f28, _, fun_mk (st := s_law_is_name) l28 c28 k28, PySem.W.mg_of X G a28, (fun_mk (st := s_law_is_name) l28 c28 k28).binds fun _ _ _ _ _ _ us hl => match us, hl with | [_], _ => rfl⟩, ⟨f29, _, fun_mk (st := s_law_begin) l29 c29 k29, PySem.W.mg_of X G a29, (fun_mk (st := s_law_begin) l29 c29 k29).binds fun _ _ _ _ _ _ us hl => match us, hl with | [_], _ => rfl⟩, ⟨f30, _, fun_mk (st := s_law_fault) l30 c30 k30, PySem.W.mg_of X G a30, (fun_mk (st := s_law_fault) l30 c30 k30).binds fun _ _ _ _ _ _ us hl => match us, hl with | [_], _ => rfl⟩, ⟨f31, _, fun_mk (st := s_law_sign) l31 c31 k31, PySem.W.mg_of X G a31, (fun_mk (st := s_law_sign) l31 c31 k31).binds fun _ _ _ _ _ _ us hl => match us, hl with | [_, _], _ => rfl⟩, ⟨f32, _, fun_mk (st := s_law_change) l32 c32 k32, PySem.W.mg_of X G a32, (fun_mk (st := s_law_change) l32 c32 k32).binds fun _ _ _ _ _ _ us hl => match us, hl with | [_, _], _ => rfl⟩, ⟨f33, _, fun_mk (st := s_law_outcome) l33 c33 k33, PySem.W.mg_of X G a33, (fun_mk (st := s_law_outcome) l33 c33 k33).binds fun _ _ _ _ _ _ us hl => match us, hl with | [_, _], _ => rfl⟩, PySem.W.mg_none_of X G z0, PySem.W.mg_none_of X G z1, PySem.W.mg_none_of X G z2, PySem.W.mg_none_of X G z3, PySem.W.mg_none_of X G z4, PySem.W.mg_none_of X G z5, PySem.W.mg_none_of X G z6, PySem.W.mg_none_of X G z7, PySem.W.mg_none_of X G z8, PySem.W.mg_none_of X G z9, PySem.W.mg_none_of X G z10, PySem.W.mg_none_of X G z11, PySem.W.mg_none_of X G z12, ⟨⟨aQ, aN, aF, aP, aG, aA, ⟨PySem.W.mg_of X G gQa, fun H => .inr ⟨_, _, _, gQb, rfl, rfl, (show 2 ≤ sizeLine by decide), (.cons ⟨_, rfl⟩ (.cons ⟨_, rfl⟩ .nil))⟩⟩, ⟨PySem.W.mg_of X G gNa, fun H => .inr ⟨_, _, _, gNb, rfl, rfl, (show 2 ≤ sizeLine by decide), (.cons ⟨_, rfl⟩ (.cons ⟨_, rfl⟩ .nil))⟩⟩, ⟨PySem.W.mg_of X G gFa, fun H => .inr ⟨_, _, _, gFb, rfl, rfl, (show 6 ≤ sizeLine by decide), (.cons ⟨_, rfl⟩ (.cons ⟨_, rfl⟩ (.cons ⟨_, rfl⟩ (.cons ⟨_, rfl⟩ (.cons ⟨_, rfl⟩ (.cons ⟨_, rfl⟩ .nil))))))⟩⟩, ⟨PySem.W.mg_of X G gPa, fun H => .inr ⟨_, _, _, gPb, rfl, rfl, (show 6 ≤ sizeLine by decide), (.cons ⟨_, rfl⟩ (.cons ⟨_, rfl⟩ (.cons ⟨_, rfl⟩ (.cons ⟨_, rfl⟩ (.cons ⟨_, rfl⟩ (.cons ⟨_, rfl⟩ .nil))))))⟩⟩, ⟨PySem.W.mg_of X G gGa, fun H => .inr ⟨_, _, _, gGb, rfl, rfl, (show 21 ≤ sizeLine by decide), (.cons ⟨_, rfl⟩ (.cons ⟨_, rfl⟩ (.cons ⟨_, rfl⟩ (.cons ⟨_, rfl⟩ (.cons ⟨_, rfl⟩ (.cons ⟨_, rfl⟩ (.cons ⟨_, rfl⟩ (.cons ⟨_, rfl⟩ (.cons ⟨_, rfl⟩ (.cons ⟨_, rfl⟩ (.cons ⟨_, rfl⟩ (.cons ⟨_, rfl⟩ (.cons ⟨_, rfl⟩ (.cons ⟨_, rfl⟩ (.cons ⟨_, rfl⟩ (.cons ⟨_, rfl⟩ (.cons ⟨_, rfl⟩ (.cons ⟨_, rfl⟩ (.cons ⟨_, rfl⟩ (.cons ⟨_, rfl⟩ (.cons ⟨_, rfl⟩ .nil)))))))))))))))))))))⟩⟩, ⟨PySem.W.mg_of X G gAa, fun H => .inr ⟨_, _, _, gAb, rfl, rfl, (show 2 ≤ sizeLine by decide), (.cons ⟨_, rfl⟩ (.cons ⟨_, rfl⟩ .nil))⟩⟩⟩, ⟨tk1, tk2, PySem.W.mg_of X G gc, PySem.W.mg_of X G gd⟩, ⟨C, fI, fP, fT, fA, fH, fF, fU, fO, _, _, _, _, _, _, _, _, ⟨⟨yb, yc, yd, ye⟩, yf0, yf1, yf2⟩, ⟨yj, yk, yl, ym⟩, PySem.W.mg_of X G ya, fun_mk (st := s_Reader_init) yn yo yp, (fun_mk (st := s_Reader_init) yn yo yp).binds fun _ _ _ _ _ _ us hl => match us, hl with | [_, _], _ => rfl, ⟨p9a, p9b, p9p⟩, fun_mk (st := s_Reader_peek) p9n p9o p9p, (fun_mk (st := s_Reader_peek) p9n p9o p9p).binds fun _ _ _ _ _ _ us hl => match us, hl with | [_], _ => rfl, ⟨t9a, t9b, t9p⟩, fun_mk (st := s_Reader_take) t9n t9o t9p, (fun_mk (st := s_Reader_take) t9n t9o t9p).binds fun _ _ _ _ _ _ us hl => match us, hl with | [_, _], _ => rfl, ⟨a9a, a9b, a9p⟩, fun_mk (st := s_Reader_read_all) a9n a9o a9p, (fun_mk (st := s_Reader_read_all) a9n a9o a9p).binds fun _ _ _ _ _ _ us hl => match us, hl with | [_], _ => rfl, ⟨h9a, h9b, h9p⟩, fun_mk (st := s_Reader_read_hidden) h9n h9o h9p, (fun_mk (st := s_Reader_read_hidden) h9n h9o h9p).binds fun _ _ _ _ _ _ us hl => match us, hl with | [_], _ => rfl, ⟨f9a, f9b, f9p⟩, fun_mk (st := s_Reader_read_formula) f9n f9o f9p, (fun_mk (st := s_Reader_read_formula) f9n f9o f9p).binds fun _ _ _ _ _ _ us hl => match us, hl with | [_, _], _ => rfl, ⟨u9a, u9b, u9p⟩, fun_mk (st := s_Reader_read_unary) u9n u9o u9p, (fun_mk (st := s_Reader_read_unary) u9n u9o u9p).binds fun _ _ _ _ _ _ us hl => match us, hl with | [_], _ => rfl, ⟨o9a, o9b, o9p⟩, fun_mk (st := s_Reader_read_atom) o9n o9o o9p, (fun_mk (st := s_Reader_read_atom) o9n o9o o9p).binds fun _ _ _ _ _ _ us hl => match us, hl with | [_], _ => rfl⟩, ⟨aR, PySem.W.mg_of X G kra, ⟨_, _, krb, krk, krl, ⟨_, _, _, rfl, ⟨_, rfl⟩, ⟨_, rfl⟩, ⟨_, _, _, rfl, ⟨_, rfl⟩, ⟨_, rfl⟩, ⟨_, _, _, rfl, ⟨_, rfl⟩, ⟨_, rfl⟩, ⟨_, _, _, rfl, ⟨_, rfl⟩, ⟨_, rfl⟩, ⟨_, _, _, rfl, ⟨_, rfl⟩, ⟨_, rfl⟩, ⟨_, _, _, rfl, ⟨_, rfl⟩, ⟨_, rfl⟩, ⟨_, _, _, rfl, ⟨_, rfl⟩, ⟨_, rfl⟩, ⟨_, _, _, rfl, ⟨_, rfl⟩, ⟨_, rfl⟩, rfl⟩⟩⟩⟩⟩⟩⟩⟩, by decide +kernel⟩⟩, ⟨aI, PySem.W.mg_of X G kia, ⟨_, _, kib, kik, kil, ⟨_, _, _, rfl, ⟨_, rfl⟩, ⟨_, rfl⟩, ⟨_, _, _, rfl, ⟨_, rfl⟩, ⟨_, rfl⟩, ⟨_, _, _, rfl, ⟨_, rfl⟩, ⟨_, rfl⟩, ⟨_, _, _, rfl, ⟨_, rfl⟩, ⟨_, rfl⟩, ⟨_, _, _, rfl, ⟨_, rfl⟩, ⟨_, rfl⟩, ⟨_, _, _, rfl, ⟨_, rfl⟩, ⟨_, rfl⟩, ⟨_, _, _, rfl, ⟨_, rfl⟩, ⟨_, rfl⟩, ⟨_, _, _, rfl, ⟨_, rfl⟩, ⟨_, rfl⟩, ⟨_, _, _, rfl, ⟨_, rfl⟩, ⟨_, rfl⟩, rfl⟩⟩⟩⟩⟩⟩⟩⟩⟩, by decide +kernel⟩⟩, ⟨aL, PySem.W.mg_of X G lva, [bL0, bL1, bL2, bL3, bL4], rfl, (fun H => .inr ⟨_, _, _, lvb, rfl, rfl, (show 5 ≤ sizeLine by decide), (.cons rfl (.cons rfl (.cons rfl (.cons rfl (.cons rfl .nil)))))⟩), fun l hl => by
    match l, hl with
    | 0, _ => exact ⟨bL0, rfl, (fun H => .inr ⟨_, _, _, lvc0, rfl, rfl, (show 1 ≤ sizeLine by decide), (.cons ⟨_, rfl⟩ .nil)⟩)⟩
    | 1, _ => exact ⟨bL1, rfl, (fun H => .inr ⟨_, _, _, lvc1, rfl, rfl, (show 1 ≤ sizeLine by decide), (.cons ⟨_, rfl⟩ .nil)⟩)⟩
    | 2, _ => exact ⟨bL2, rfl, (fun H => .inr ⟨_, _, _, lvc2, rfl, rfl, (show 1 ≤ sizeLine by decide), (.cons ⟨_, rfl⟩ .nil)⟩)⟩
    | 3, _ => exact ⟨bL3, rfl, (fun H => .inr ⟨_, _, _, lvc3, rfl, rfl, (show 1 ≤ sizeLine by decide), (.cons ⟨_, rfl⟩ .nil)⟩)⟩
    | 4, _ => exact ⟨bL4, rfl, (fun H => .inr ⟨_, _, _, lvc4, rfl, rfl, (show 5 ≤ sizeLine by decide), (.cons ⟨_, rfl⟩ (.cons ⟨_, rfl⟩ (.cons ⟨_, rfl⟩ (.cons ⟨_, rfl⟩ (.cons ⟨_, rfl⟩ .nil)))))⟩)⟩⟩, ⟨tm1, tm2, tm3, tm4, tm5, tm6, PySem.W.mg_of X G mt0, PySem.W.mg_of X G mt1, PySem.W.mg_of X G mt2, PySem.W.mg_of X G mt3, PySem.W.mg_of X G mt4, PySem.W.mg_of X G mt5⟩, ⟨cT, czd, gzd, czu, gzu, _, _, ⟨PySem.W.mg_of X G xxa, xxb, xxc, xxd, xxe, ⟨xxf, xxg, xxh, xxi, xxj, xxk, xxl, xxm⟩⟩, ⟨⟨⟨_, _, _, _, _, _, _, _, _, _, _, _, _, _, _, zdb, zdc⟩, zdd, zde, zdf, zdg⟩, PySem.W.mg_of X G zda, zdh, zdi, ⟨_, _, _, _, _, _, _, _, _, _, _, _, _, _, _, _, _, _, _, _, rfl, zdj, zdk, zdl, zdm, zdn, zdo, zdp, zdq⟩, zdr, hp2, hp3, zds, PySem.W.mg_none_of X G hp1⟩, ⟨zdt, zdu, zde, zdv⟩, zdw, ⟨⟨⟨_, _, _, _, _, _, _, _, _, _, _, _, _, _, _, zub, zuc⟩, zud, zue, zuf, zug⟩, PySem.W.mg_of X G zua, zuh, zui, ⟨_, _, _, _, _, _, _, _, _, _, _, _, _, _, _, _, _, _, _, _, rfl, zuj, zuk, zul, zum, zun, zuo, zup, zuq⟩, zur, hp2, hp3, zus, PySem.W.mg_none_of X G hp1⟩, ⟨zut, zuu, zue, zuv⟩, zuw, ⟨xxf, xxg, xxh, xxi, xxj, xxk, xxl, xxm⟩, hq1, hq2, hq3, hq4, hq5, hq6⟩, ⟨czf, gzf, cSy, _, tkp, ⟨⟨⟨_, _, _, _, _, _, _, _, _, _, _, _, _, _, _, zfb, zfc⟩, zfd, zfe, zff, zfg⟩, PySem.W.mg_of X G zfa, zfh, zfi, ⟨_, _, _, _, _, _, _, _, _, _, _, _, _, _, _, _, _, _, _, _, rfl, zfj, zfk, zfl, zfm, zfn, zfo, zfp, zfq⟩, zfr, hp2, hp3, zfs, PySem.W.mg_none_of X G hp1⟩, ⟨zft, zfu, zfe, zfv, zfx, xxk, xxl, zfy⟩, zfw, PySem.W.mg_of X G hs1, PySem.W.mg_of X G hs2, hr1, hr2, fun a b c ea eb ec => by cases (PySem.W.mg_of X G xxa).symm.trans ea; cases (PySem.W.mg_of X G zda).symm.trans eb; cases (PySem.W.mg_of X G zua).symm.trans ec; exact ⟨hr3, hr4, hr5, hr6, hr7, hr8⟩⟩⟩⟩
  exact ⟨_, fun s v => .of_eq rfl, fun base _ _ => ok_law (fun_mk (st := s_law) l34 c34 k34) T⟩
end My
open PySem PySem.W PyProof.Rows
set_option maxHeartbeats 0 in
theorem PySem.Challenge.cw_reactivesynth_k09_syntax_errors_holds : PySem.Challenge.rw_reactivesynth_k09_syntax_errors.Holds := by
  w_on; o_law; k_head; (case hw => w_witness2)
  k_fill
  refine L2.walk_of (l := PySem.Challenge.rw_reactivesynth_k09_syntax_errors) (n := 63) (k := 200) (x := "script") (CX := fun _ => L2.CX0) (sp := fun w => My.spLaw _) rfl (by decide) rfl ⟨rfl, by decide, by decide⟩ (fun w h Y => PySem.W.kIn_of Y) ?F (fun _ _ a ns hl _ hS => ⟨a, ns, rfl, hS, hl, fun _ => rfl⟩) (fun _ _ _ _ _ h => h)
  case F =>
    intro w mg fa h KX G hmg
    refine' My.all_mk KX G hmg ?a0 ?l0 ?c0 ?k0 ?a1 ?l1 ?c1 ?k1 ?a2 ?l2 ?c2 ?k2 ?a3 ?l3 ?c3 ?k3 ?a4 ?l4 ?c4 ?k4 ?a5 ?l5 ?c5 ?k5 ?a6 ?l6 ?c6 ?k6 ?a7 ?l7 ?c7 ?k7 ?a8 ?l8 ?c8 ?k8 ?a9 ?l9 ?c9 ?k9 ?a10 ?l10 ?c10 ?k10 ?a11 ?l11 ?c11 ?k11 ?a12 ?l12 ?c12 ?k12 ?a13 ?l13 ?c13 ?k13 ?a14 ?l14 ?c14 ?k14 ?a15 ?l15 ?c15 ?k15 ?a16 ?l16 ?c16 ?k16 ?a17 ?l17 ?c17 ?k17 ?a18 ?l18 ?c18 ?k18 ?a19 ?l19 ?c19 ?k19 ?a20 ?l20 ?c20 ?k20 ?a21 ?l21 ?c21 ?k21 ?a22 ?l22 ?c22 ?k22 ?a23 ?l23 ?c23 ?k23 ?a24 ?l24 ?c24 ?k24 ?a25 ?l25 ?c25 ?k25 ?a26 ?l26 ?c26 ?k26 ?a27 ?l27 ?c27 ?k27 ?a28 ?l28 ?c28 ?k28 ?a29 ?l29 ?c29 ?k29 ?a30 ?l30 ?c30 ?k30 ?a31 ?l31 ?c31 ?k31 ?a32 ?l32 ?c32 ?k32 ?a33 ?l33 ?c33 ?k33 ?a34 ?l34 ?c34 ?k34 ?z0 ?z1 ?z2 ?z3 ?z4 ?z5 ?z6 ?z7 ?z8 ?z9 ?z10 ?z11 ?z12 ?gQa ?gQb ?gNa ?gNb ?gFa ?gFb ?gPa ?gPb ?gGa ?gGb ?gAa ?gAb ?gc ?gd ?ya ?yb ?yc ?yd ?ye ?yf0 ?yf1 ?yf2 ?yj ?yk ?yl ?ym ?yn ?yo ?yp ?p9a ?p9n ?p9o ?p9p ?p9b ?t9a ?t9n ?t9o ?t9p ?t9b ?a9a ?a9n ?a9o ?a9p ?a9b ?h9a ?h9n ?h9o ?h9p ?h9b ?f9a ?f9n ?f9o ?f9p ?f9b ?u9a ?u9n ?u9o ?u9p ?u9b ?o9a ?o9n ?o9o ?o9p ?o9b ?kra ?krb ?krk ?krl ?kia ?kib ?kik ?kil ?lva ?lvb ?lvc0 ?lvc1 ?lvc2 ?lvc3 ?lvc4 ?mt0 ?mt1 ?mt2 ?mt3 ?mt4 ?mt5 ?xxa ?xxb ?xxc ?xxd ?xxe ?xxf ?xxg ?xxh ?xxi ?xxj ?xxk ?xxl ?xxm ?zda ?zdb ?zdc ?zdd ?zde ?zdf ?zdg ?zdh ?zdi ?zdj ?zdk ?zdl ?zdm ?zdn ?zdo ?zdp ?zdq ?zdr ?zds ?zdt ?zdu ?zdv ?zdw ?zua ?zub ?zuc ?zud ?zue ?zuf ?zug ?zuh ?zui ?zuj ?zuk ?zul ?zum ?zun ?zuo ?zup ?zuq ?zur ?zus ?zut ?zuu ?zuv ?zuw ?hp1 ?hp2 ?hp3 ?hq1 ?hq2 ?hq3 ?hq4 ?hq5 ?hq6 ?zfa ?zfb ?zfc ?zfd ?zfe ?zff ?zfg ?zfh ?zfi ?zfj ?zfk ?zfl ?zfm ?zfn ?zfo ?zfp ?zfq ?zfr ?zfs ?zft ?zfu ?zfv ?zfw ?zfx ?zfy ?hs1 ?hs2 ?hr1 ?hr2 ?hr3 ?hr4 ?hr5 ?hr6 ?hr7 ?hr8
    (case a0 => k_is); (case l0 => k_is); (case c0 => k_is); (case k0 => k_is); (case a1 => k_is); (case l1 => k_is); (case c1 => k_is); (case k1 => k_is); (case a2 => k_is); (case l2 => k_is); (case c2 => k_is); (case k2 => k_is); (case a3 => k_is); (case l3 => k_is); (case c3 => k_is); (case k3 => k_is); (case a4 => k_is); (case l4 => k_is); (case c4 => k_is); (case k4 => k_is); (case a5 => k_is); (case l5 => k_is); (case c5 => k_is); (case k5 => k_is); (case a6 => k_is); (case l6 => k_is); (case c6 => k_is); (case k6 => k_is); (case a7 => k_is); (case l7 => k_is); (case c7 => k_is); (case k7 => k_is); (case a8 => k_is); (case l8 => k_is); (case c8 => k_is); (case k8 => k_is); (case a9 => k_is); (case l9 => k_is); (case c9 => k_is); (case k9 => k_is); (case a10 => k_is); (case l10 => k_is); (case c10 => k_is); (case k10 => k_is); (case a11 => k_is); (case l11 => k_is); (case c11 => k_is); (case k11 => k_is); (case a12 => k_is); (case l12 => k_is); (case c12 => k_is); (case k12 => k_is); (case a13 => k_is); (case l13 => k_is); (case c13 => k_is); (case k13 => k_is); (case a14 => k_is); (case l14 => k_is); (case c14 => k_is); (case k14 => k_is); (case a15 => k_is); (case l15 => k_is); (case c15 => k_is); (case k15 => k_is); (case a16 => k_is); (case l16 => k_is); (case c16 => k_is); (case k16 => k_is); (case a17 => k_is); (case l17 => k_is); (case c17 => k_is); (case k17 => k_is); (case a18 => k_is); (case l18 => k_is); (case c18 => k_is); (case k18 => k_is); (case a19 => k_is); (case l19 => k_is); (case c19 => k_is); (case k19 => k_is); (case a20 => k_is); (case l20 => k_is); (case c20 => k_is); (case k20 => k_is); (case a21 => k_is); (case l21 => k_is); (case c21 => k_is); (case k21 => k_is); (case a22 => k_is); (case l22 => k_is); (case c22 => k_is); (case k22 => k_is); (case a23 => k_is); (case l23 => k_is); (case c23 => k_is); (case k23 => k_is); (case a24 => k_is); (case l24 => k_is); (case c24 => k_is); (case k24 => k_is); (case a25 => k_is); (case l25 => k_is); (case c25 => k_is); (case k25 => k_is); (case a26 => k_is); (case l26 => k_is); (case c26 => k_is); (case k26 => k_is); (case a27 => k_is); (case l27 => k_is); (case c27 => k_is); (case k27 => k_is); (case a28 => k_is); (case l28 => k_is); (case c28 => k_is); (case k28 => k_is); (case a29 => k_is); (case l29 => k_is); (case c29 => k_is); (case k29 => k_is); (case a30 => k_is); (case l30 => k_is); (case c30 => k_is); (case k30 => k_is); (case a31 => k_is); (case l31 => k_is); (case c31 => k_is); (case k31 => k_is); (case a32 => k_is); (case l32 => k_is); (case c32 => k_is); (case k32 => k_is); (case a33 => k_is); (case l33 => k_is); (case c33 => k_is); (case k33 => k_is); (case a34 => k_is); (case l34 => k_is); (case c34 => k_is); (case k34 => k_is); (case z0 => k_is); (case z1 => k_is); (case z2 => k_is); (case z3 => k_is); (case z4 => k_is); (case z5 => k_is); (case z6 => k_is); (case z7 => k_is); (case z8 => k_is); (case z9 => k_is); (case z10 => k_is); (case z11 => k_is); (case z12 => k_is); (case gQa => k_is); (case gQb => k_is); (case gNa => k_is); (case gNb => k_is); (case gFa => k_is); (case gFb => k_is); (case gPa => k_is); (case gPb => k_is); (case gGa => k_is); (case gGb => k_is); (case gAa => k_is); (case gAb => k_is); (case gc => k_is); (case gd => k_is); (case ya => k_is); (case yb => k_is); (case yc => k_is); (case yd => k_is); (case ye => k_is); (case yf0 => k_is); (case yf1 => k_is); (case yf2 => k_is); (case yj => k_is); (case yk => k_is); (case yl => k_is); (case ym => k_is); (case yn => k_is); (case yo => k_is); (case yp => k_is); (case p9a => k_is); (case p9n => k_is); (case p9o => k_is); (case p9p => k_is); (case p9b => k_is); (case t9a => k_is); (case t9n => k_is); (case t9o => k_is); (case t9p => k_is); (case t9b => k_is); (case a9a => k_is); (case a9n => k_is); (case a9o => k_is); (case a9p => k_is); (case a9b => k_is); (case h9a => k_is); (case h9n => k_is); (case h9o => k_is); (case h9p => k_is); (case h9b => k_is); (case f9a => k_is); (case f9n => k_is); (case f9o => k_is); (case f9p => k_is); (case f9b => k_is); (case u9a => k_is); (case u9n => k_is); (case u9o => k_is); (case u9p => k_is); (case u9b => k_is); (case o9a => k_is); (case o9n => k_is); (case o9o => k_is); (case o9p => k_is); (case o9b => k_is); (case kra => k_is); (case krb => k_is); (case krk => k_keys); (case krl => first | rfl | decide | k_is); (case kia => k_is); (case kib => k_is); (case kik => k_keys); (case kil => first | rfl | decide | k_is); (case lva => k_is); (case lvb => k_is); (case lvc0 => k_is); (case lvc1 => k_is); (case lvc2 => k_is); (case lvc3 => k_is); (case lvc4 => k_is); (case mt0 => k_is); (case mt1 => k_is); (case mt2 => k_is); (case mt3 => k_is); (case mt4 => k_is); (case mt5 => k_is); (case xxa => first | rfl | k_is); (case xxb => first | k_exc | rfl | k_is); (case xxc => first | rfl | k_is); (case xxd => first | rfl | k_is); (case xxe => first | rfl | k_is); (case xxf => first | rfl | k_is); (case xxg => first | rfl | k_is); (case xxh => first | rfl | k_is); (case xxi => first | rfl | k_is); (case xxj => first | rfl | k_is); (case xxk => first | rfl | k_is); (case xxl => first | rfl | k_is); (case xxm => first | rfl | k_is); (case zda => k_is); (case zdb => k_is); (case zdc => first | rfl | decide | k_is); (case zdd => k_is); (case zde => k_is); (case zdf => k_is); (case zdg => k_is); (case zdh => k_is); (case zdi => k_is); (case zdj => k_is); (case zdk => k_is); (case zdl => k_is); (case zdm => first | rfl | k_is); (case zdn => first | rfl | decide +kernel); (case zdo => k_is); (case zdp => k_is); (case zdq => first | kernel_rfl | rfl | decide +kernel); (case zdr => k_is); (case zds => k_is); (case zdt => k_is); (case zdu => k_is); (case zdv => k_is); (case zdw => k_is); (case zua => k_is); (case zub => k_is); (case zuc => first | rfl | decide | k_is); (case zud => k_is); (case zue => k_is); (case zuf => k_is); (case zug => k_is); (case zuh => k_is); (case zui => k_is); (case zuj => k_is); (case zuk => k_is); (case zul => k_is); (case zum => first | rfl | k_is); (case zun => first | rfl | decide +kernel); (case zuo => k_is); (case zup => k_is); (case zuq => first | kernel_rfl | rfl | decide +kernel); (case zur => k_is); (case zus => k_is); (case zut => k_is); (case zuu => k_is); (case zuv => k_is); (case zuw => k_is); (case hp1 => k_is); (case hp2 => first | rfl | decide +kernel); (case hp3 => k_is); (case hq1 => first | k_is | rfl | decide +kernel); (case hq2 => first | k_is | rfl | decide +kernel); (case hq3 => first | k_is | rfl | decide +kernel); (case hq4 => first | k_is | rfl | decide +kernel); (case hq5 => first | k_is | rfl | decide +kernel); (case hq6 => first | k_is | rfl | decide +kernel); (case zfa => k_is); (case zfb => k_is); (case zfc => first | rfl | decide | k_is); (case zfd => k_is); (case zfe => k_is); (case zff => k_is); (case zfg => k_is); (case zfh => k_is); (case zfi => k_is); (case zfj => k_is); (case zfk => k_is); (case zfl => k_is); (case zfm => first | rfl | k_is); (case zfn => first | rfl | decide +kernel); (case zfo => k_is); (case zfp => k_is); (case zfq => first | kernel_rfl | rfl | decide +kernel); (case zfr => k_is); (case zfs => k_is); (case zft => k_is); (case zfu => k_is); (case zfv => k_is); (case zfw => k_is); (case zfx => k_is); (case zfy => k_is); (case hs1 => k_is); (case hs2 => k_is); (case hr1 => first | k_is | rfl | decide +kernel); (case hr2 => first | k_is | rfl | decide +kernel); (case hr3 => first | k_is | rfl | decide +kernel); (case hr4 => first | k_is | rfl | decide +kernel); (case hr5 => first | k_is | rfl | decide +kernel); (case hr6 => first | k_is | rfl | decide +kernel); (case hr7 => first | k_is | rfl | decide +kernel); (case hr8 => first | k_is | rfl | decide +kernel)
