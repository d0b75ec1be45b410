import PyProof.Rows.All
import Wide.All
import OpenK.AllK
import Wide.FinOn
import HandS.ForMost
import HandS.ForExc
import HandS.ExcIs
import HandS.ExcOwn
import HandS.WordsExc
import HandS.TryMany
import HandS.TryOnly
import HandS.Codes
import HandS.IsInst
import HandS.TupAny
import HandS.TupMul
import HandS.SortKw
import KE.KMinKey
import PyProof.WalksMore
import HandS.Dict
import HandS.Style
import HandS.Conv
import HandS.Walk
import HandS.Zip
import PyProof.AutoSeq1
import HandS.Text
import HandS.More
import HandS.Strs
import HandS.SetFor
import HandS.SetTxt0
import HandS.MakeKwOnly
import HandS.Property
import HandS.Star
import HandS.Defaults
import HandS.AnyAll
import HandS.DictComp
import KE.KRevSl
import HandS.FStr
import HandS.Steps
import HandS.Iter
import HandS.StrMore
import HandS.WideBits
import HandS.Replace
import HandS.ExcInit
import HandS.ClsMeth
import KE.KExcSuper
import HandS.ExcField
import PySem.Challenge.RW_reactivesynth_k48_spec_text_refused
set_option Elab.async false
set_option linter.all false
set_option maxRecDepth 100000
set_option maxHeartbeats 4000000
namespace Wd
/-- m is the length of a proper border of the first k letters -/
def Bd (w : Nat → Int) (k m : Nat) : Prop := m < k ∧ ∀ i, i < m → w i = w (k - m + i)
/-- .. the greatest -/
def Lg (w : Nat → Int) (k m : Nat) : Prop := Bd w k m ∧ ∀ j, Bd w k j → j ≤ m
theorem Bd.zero {w : Nat → Int} {k : Nat} (h : 0 < k) : Bd w k 0 := ⟨h, fun i hi => absurd hi (Nat.not_lt_zero i)⟩
theorem Bd.down {w : Nat → Int} {k m : Nat} (h : Bd w (k + 1) (m + 1)) : Bd w k m ∧ w m = w k := by
  obtain ⟨h1, h2⟩ := h
  refine ⟨⟨by omega, fun i hi => ?_⟩, ?_⟩
  · have := h2 i (by omega)
    rw [this]
    congr 1
    omega
  · have := h2 m (by omega)
    rw [this]
    congr 1
    omega
theorem Bd.up {w : Nat → Int} {k m : Nat} (h : Bd w k m) (e : w m = w k) : Bd w (k + 1) (m + 1) := by
  obtain ⟨h1, h2⟩ := h
  refine ⟨by omega, fun i hi => ?_⟩
  rcases Nat.lt_or_ge i m with c | c
  · rw [h2 i c]
    congr 1
    omega
  · have : i = m := by omega
    subst this
    rw [e]
    congr 1
    omega
theorem Bd.inner {w : Nat → Int} {k b j : Nat} (h : Bd w k b) (g : Bd w k j) (l : j < b) : Bd w b j := by
  obtain ⟨h1, h2⟩ := h
  obtain ⟨g1, g2⟩ := g
  refine ⟨l, fun i hi => ?_⟩
  rw [g2 i hi, h2 (b - j + i) (by omega)]
  congr 1
  omega
theorem Bd.trans {w : Nat → Int} {k b j : Nat} (h : Bd w k b) (g : Bd w b j) : Bd w k j := by
  obtain ⟨h1, h2⟩ := h
  obtain ⟨g1, g2⟩ := g
  refine ⟨by omega, fun i hi => ?_⟩
  rw [g2 i hi, h2 (b - j + i) (by omega)]
  congr 1
  omega
/-- what the inner loop keeps: b is a border of the first k letters, and no border of the first k + 1 is longer than b + 1 -/
def In (w : Nat → Int) (k b : Nat) : Prop := Bd w k b ∧ ∀ j, Bd w (k + 1) (j + 1) → j ≤ b
theorem In.start {w : Nat → Int} {k b : Nat} (h : Lg w k b) : In w k b := ⟨h.1, fun j hj => h.2 j hj.down.1⟩
theorem In.step {w : Nat → Int} {k b c : Nat} (h : In w k b) (hb : 0 < b) (ne : w k ≠ w b) (g : Lg w b c) : In w k c ∧ c < b := by
  refine ⟨⟨h.1.trans g.1, fun j hj => ?_⟩, g.1.1⟩
  have h1 := h.2 j hj
  obtain ⟨h2, h3⟩ := hj.down
  have : j ≠ b := fun z => ne (by rw [← h3, z])
  exact g.2 j (h.1.inner h2 (by omega))
theorem In.found {w : Nat → Int} {k b : Nat} (h : In w k b) (e : w k = w b) : Lg w (k + 1) (b + 1) := by
  refine ⟨h.1.up e.symm, fun j hj => ?_⟩
  cases j with
  | zero => omega
  | succ j => exact Nat.succ_le_succ (h.2 j hj)
theorem In.none {w : Nat → Int} {k : Nat} (h : In w k 0) (ne : w k ≠ w 0) : Lg w (k + 1) 0 := by
  refine ⟨Bd.zero (by omega), fun j hj => ?_⟩
  cases j with
  | zero => omega
  | succ j =>
    have h1 := h.2 j hj
    have : j = 0 := by omega
    subst this
    exact absurd hj.down.2.symm ne
/-! periods -/
/-- the letters of the word without end that repeats the first n letters -/
def cyc (w : Nat → Int) (n i : Nat) : Int := w (i % n)
def Rp (w : Nat → Int) (n p : Nat) : Prop := ∀ i, cyc w n (i + p) = cyc w n i
theorem Rp.mul {w : Nat → Int} {n p : Nat} (h : Rp w n p) : ∀ k i, cyc w n (i + k * p) = cyc w n i
  | 0, i => by rw [Nat.zero_mul, Nat.add_zero]
  | k + 1, i => by
    rw [Nat.succ_mul, ← Nat.add_assoc, h, h.mul k i]
theorem Rp.mod {w : Nat → Int} {n p i : Nat} (h : Rp w n p) : cyc w n i = cyc w n (i % p) := by
  have := h.mul (i / p) (i % p)
  rw [Nat.mul_comm, Nat.mod_add_div] at this
  exact this
theorem cyc_lt {w : Nat → Int} {n i : Nat} (h : i < n) : cyc w n i = w i := by
  unfold cyc
  rw [Nat.mod_eq_of_lt h]
theorem rp_self (w : Nat → Int) (n : Nat) : Rp w n n := fun i => by
  unfold cyc
  rw [Nat.add_mod_right]
/-- a period of the finite word that divides its length is one of the word without end -/
theorem rp_of {w : Nat → Int} {n p : Nat} (hp : 0 < p) (hd : p ∣ n) (hn : 0 < n) (h : ∀ i, i + p < n → w i = w (i + p)) : Rp w n p := by
  have red : ∀ k i, i + k * p < n → w (i + k * p) = w i := by
    intro k
    induction k with
    | zero => intro i _; rw [Nat.zero_mul, Nat.add_zero]
    | succ k ih =>
      intro i hi
      rw [Nat.succ_mul] at hi ⊢
      rw [← Nat.add_assoc, ← h (i + k * p) (by omega)]
      exact ih i (by omega)
  have toMod : ∀ i, cyc w n i = w (i % p) := by
    intro i
    unfold cyc
    have h1 : i % n < n := Nat.mod_lt _ hn
    have e : i % n % p + (i % n / p) * p = i % n := by
      rw [Nat.mul_comm]
      exact Nat.mod_add_div _ _
    have h2 := red (i % n / p) (i % n % p) (by rw [e]; exact h1)
    rw [e] at h2
    rw [h2, Nat.mod_mod_of_dvd _ hd]
  intro i
  rw [toMod, toMod, Nat.add_mod_right]
/-- the least repetition: r divides n, the word repeats its first r letters, and no shorter one does -/
structure Least (w : Nat → Int) (n r : Nat) : Prop where
  pos : 0 < r
  dvd : r ∣ n
  rp : Rp w n r
  min : ∀ p, 0 < p → p ∣ n → Rp w n p → r ≤ p
theorem least_of {w : Nat → Int} {n b : Nat} (hn : 0 < n) (h : Lg w n b) : Least w n (if n % (n - b) = 0 then n - b else n) := by
  obtain ⟨⟨hb, h1⟩, h2⟩ := h
  have hs : 0 < n - b := by omega
  -- n - b is the least period of the finite word
  have per : ∀ i, i + (n - b) < n → w i = w (i + (n - b)) := fun i hi => by
    have := h1 i (by omega)
    rw [this]
    congr 1
    omega
  have low : ∀ p, 0 < p → p ≤ n → (∀ i, i + p < n → w i = w (i + p)) → n - b ≤ p := fun p hp hpn hq => by
    have := h2 (n - p) ⟨by omega, fun i hi => by
      have := hq i (by omega)
      rw [this]
      congr 1
      omega⟩
    omega
  have fin : ∀ p, Rp w n p → ∀ i, i + p < n → w i = w (i + p) := fun p hp i hi => by
    have := hp i
    rw [cyc_lt hi, cyc_lt (by omega)] at this
    exact this.symm
  -- a shorter repetition makes n - b a repetition
  have key : ∀ p, 0 < p → p ∣ n → p < n → Rp w n p → n % (n - b) = 0 ∧ n - b ≤ p := by
    intro p hp hd hlt hr
    have le := low p hp (by omega) (fin p hr)
    obtain ⟨q, hq⟩ := hd
    have hq2 : 2 ≤ q := by
      rcases Nat.lt_or_ge q 2 with c | c
      · have : q = 0 ∨ q = 1 := by omega
        rcases this with z | z
        · rw [z] at hq; omega
        · rw [z] at hq; omega
      · exact c
    have h2p : 2 * p ≤ n := by
      rw [hq, Nat.mul_comm 2 p]
      exact Nat.mul_le_mul_left p hq2
    have rs : Rp w n (n - b) := by
      intro i
      have e1 : cyc w n (i + (n - b)) = cyc w n (i % p + (n - b)) := by
        have := hr.mul (i / p) (i % p + (n - b))
        rw [← this]
        congr 1
        have := Nat.mod_add_div i p
        rw [Nat.mul_comm (i / p) p]
        omega
      have hm : i % p < p := Nat.mod_lt _ hp
      rw [e1, hr.mod (i := i), cyc_lt (show i % p + (n - b) < n by omega), cyc_lt (show i % p < n by omega)]
      exact (per _ (by omega)).symm
    -- p is a multiple of n - b
    have hmod : p % (n - b) = 0 := by
      rcases Nat.eq_zero_or_pos (p % (n - b)) with z | z
      · exact z
      · have lt : p % (n - b) < n - b := Nat.mod_lt _ hs
        have rm : Rp w n (p % (n - b)) := by
          intro i
          have a := rs.mul (p / (n - b)) (i + p % (n - b))
          have e : i + p % (n - b) + p / (n - b) * (n - b) = i + p := by
            rw [Nat.mul_comm, Nat.add_assoc, Nat.mod_add_div]
          rw [e] at a
          rw [← a]
          exact hr i
        have := low _ z (by omega) (fin _ rm)
        omega
    refine ⟨?_, le⟩
    exact Nat.mod_eq_zero_of_dvd (Nat.dvd_trans (Nat.dvd_of_mod_eq_zero hmod) ⟨q, hq⟩)
  by_cases c : n % (n - b) = 0
  · rw [if_pos c]
    refine ⟨hs, Nat.dvd_of_mod_eq_zero c, rp_of hs (Nat.dvd_of_mod_eq_zero c) hn per, fun p hp hd hr => ?_⟩
    exact low p hp (Nat.le_of_dvd hn hd) (fin p hr)
  · rw [if_neg c]
    refine ⟨hn, Nat.dvd_refl n, rp_self w n, fun p hp hd hr => ?_⟩
    have le := Nat.le_of_dvd hn hd
    rcases Nat.lt_or_ge p n with l | l
    · exact absurd (key p hp hd l hr).1 c
    · exact l
end Wd
/-! ### min(xs, default=d) of a list of ints: own rule -/
namespace MinD
open PySem PySem.W PyProof.Rows
def kwD (d : Value) : List (Str × Value) := [(Str.ofString "default", d)]
theorem nameL : (toString "min" ++ toString ".loop" : String) = "min.loop" := by decide
section
variable {prog : Program} {w : World} {A : Around} {R : Result → Shared → Prop} {I S : Addr} {fp wr : List Addr} {n : Nat} {P : Nat → Value → Prop} {St : Nat → Heap → Prop} {d : Value}
theorem loopD (W : Walks prog w A.in1 I fp wr n P St) (bt : Nat → Nat → Bool) (cm : CmpOf prog w A.in1 .Lt P bt) (nf : S ∉ fp) :
    ∀ (m j : Nat) (u : Shared) (best : Value) (c : Nat), n - (j + 1) = m → j + 1 ≤ n → St (j + 1) u.heap → P (argBest bt j) best →
    u.heap.get? S = some { cls := .type "list", dict := none, data := .seq #[best, best] c, slots := #[] } →
    (∀ v g tk, P (argBest bt (n - 1)) v → (∀ b o, b ∉ wr → b ≠ S → u.heap.get? b = some o → g.get? b = some o) → R (.ok (.ret v)) { u with heap := g, toks := tk }) →
    codeAny (model prog w) A (.builtin "min.loop" ⟨[.ref I, .none, .ref S], kwD d⟩) R u := by
  have nw : S ∉ wr := fun q => nf (W.sub _ q)
  intro m
  induction m with
  | zero =>
    intro j u best c em hj st pb gS out
    have ej : j + 1 = n := by omega
    refine codeAny_builtin PySem.F.entry_min_loop ?_
    rw [Around.under_plainId PySem.F.plain_min_loop _]
    show wpAny _ A.in1 (seqItems? (.ref S) >>= _) _ _ u
    refine wpAny_bind (wpAny_seqItems gS rfl ?_)
    show wpAny _ A.in1 (tryCatch (pyNext (.ref I)) _ >>= _) _ _ u
    refine wpAny_bind (wpAny_tryCatch (W.done u _ _ (ej ▸ st) fun g tk keep => ?_))
    have gS2 := keep S _ nw gS
    show wpAny _ A.in1 (updateSeq S (fun _ => #[]) >>= _) _ _ _
    refine wpAny_bind (wpAny_updateSeq gS2 rfl (wpAny_bind (wpAny_letGo (wpAny_pure ?_))))
    exact out best _ tk (by rw [← ej]; exact pb) fun b o hb hS e => (Heap.get?_update_other _ _ (Ne.symm hS)).trans (keep b o hb e)
  | succ m ih =>
    intro j u best c em hj st pb gS out
    have lt : j + 1 < n := by omega
    refine codeAny_builtin PySem.F.entry_min_loop ?_
    rw [Around.under_plainId PySem.F.plain_min_loop _]
    show wpAny _ A.in1 (seqItems? (.ref S) >>= _) _ _ u
    refine wpAny_bind (wpAny_seqItems gS rfl ?_)
    show wpAny _ A.in1 (tryCatch (pyNext (.ref I)) _ >>= _) _ _ u
    refine wpAny_bind (wpAny_tryCatch (W.item (j + 1) u _ _ lt st fun v g tk pv st2 keep => ?_))
    have gS2 := keep S _ nw gS
    show wpAny _ A.in1 (tryCatch (holding [v, v] (richCompare .Lt v best >>= _)) _ >>= _) _ _ _
    refine wpAny_bind (wpAny_tryCatch (wpAny_holding (wpAny_bind (cm (j + 1) (argBest bt j) v best _ _ _ pv pb ?_))))
    refine wpAny_bind (wpAny_holding (wpAny_truthy_bool (wpAny_bind (wpAny_letGo (wpAny_pure ?_)))))
    cases hb : bt (j + 1) (argBest bt j) with
    | true =>
      simp only [if_true]
      refine wpAny_bind (wpAny_updateSeq gS2 rfl (wpAny_bind (wpAny_letGo ?_)))
      rw [nameL]
      refine wpAny_pure ⟨plainId_quiet PySem.F.plain_min_loop _, ih (j + 1) _ v _ (by omega) lt (W.frame _ _ _ st2 fun b bf o e => ?_) (by simp only [argBest, hb, if_true]; exact pv) (Heap.get?_update_self _ gS2 rfl)
        fun v2 g2 tk2 p2 keep2 => ?_⟩
      · exact (Heap.get?_update_other _ _ (fun q : S = b => nf (by rw [q]; exact bf))).trans e
      · exact out v2 g2 tk2 p2 fun b o hw hS e => keep2 b o hw hS ((Heap.get?_update_other _ _ (Ne.symm hS)).trans (keep b o hw e))
    | false =>
      simp only [Bool.false_eq_true, if_false]
      refine wpAny_bind (wpAny_letGo ?_)
      rw [nameL]
      exact wpAny_pure ⟨plainId_quiet PySem.F.plain_min_loop _, ih (j + 1) _ best c (by omega) lt st2 (by simp only [argBest, hb, Bool.false_eq_true, if_false]; exact pb) gS2 fun v2 g2 tk2 p2 keep2 =>
        out v2 g2 tk2 p2 fun b o hw hS e => keep2 b o hw hS (keep b o hw e)⟩
theorem firstD (W : Walks prog w A.in1 I fp wr n P St) (bt : Nat → Nat → Bool) (cm : CmpOf prog w A.in1 .Lt P bt) (nf : S ∉ fp) {u : Shared} {c : Nat} (st : St 0 u.heap)
    (gS : u.heap.get? S = some { cls := .type "list", dict := none, data := .seq #[] c, slots := #[] })
    (out : ∀ v g tk, (0 < n → P (argBest bt (n - 1)) v) → (n = 0 → v = d) → (∀ b o, b ∉ wr → b ≠ S → u.heap.get? b = some o → g.get? b = some o) → R (.ok (.ret v)) { u with heap := g, toks := tk }) :
    codeAny (model prog w) A (.builtin "min.loop" ⟨[.ref I, .none, .ref S], kwD d⟩) R u := by
  have nw : S ∉ wr := fun q => nf (W.sub _ q)
  refine codeAny_builtin PySem.F.entry_min_loop ?_
  rw [Around.under_plainId PySem.F.plain_min_loop _]
  show wpAny _ A.in1 (seqItems? (.ref S) >>= _) _ _ u
  refine wpAny_bind (wpAny_seqItems gS rfl ?_)
  show wpAny _ A.in1 (tryCatch (pyNext (.ref I)) _ >>= _) _ _ u
  by_cases h0 : 0 < n
  · refine wpAny_bind (wpAny_tryCatch (W.item 0 u _ _ h0 st fun v g tk pv st2 keep => ?_))
    have gS2 := keep S _ nw gS
    show wpAny _ A.in1 (updateSeq S (fun _ => #[v, v]) >>= _) _ _ _
    refine wpAny_bind (wpAny_updateSeq gS2 rfl ?_)
    rw [nameL]
    refine wpAny_pure ⟨plainId_quiet PySem.F.plain_min_loop _, loopD W bt cm nf _ 0 _ v _ rfl h0 (W.frame _ _ _ st2 fun b bf o e => ?_) pv (Heap.get?_update_self _ gS2 rfl) fun v2 g2 tk2 p2 keep2 => ?_⟩
    · exact (Heap.get?_update_other _ _ (fun q : S = b => nf (by rw [q]; exact bf))).trans e
    · exact out v2 g2 tk2 (fun _ => p2) (fun z => by omega) fun b o hw hS e => keep2 b o hw hS ((Heap.get?_update_other _ _ (Ne.symm hS)).trans (keep b o hw e))
  · have e0 : n = 0 := by omega
    refine wpAny_bind (wpAny_tryCatch (W.done u _ _ (by rw [e0]; exact st) fun g tk keep => ?_))
    show wpAny _ A.in1 (rule _ >>= _) _ _ _
    refine wpAny_bind (wpAny_rule (wpAny_pure ?_))
    exact out d g tk (fun z => absurd z h0) (fun _ => rfl) fun b o hw _ e => keep b o hw e
end
section
variable {prog : Program} {w : World} {A : Around} {E : Value → Shared → Prop} {s : Shared} {d : Value}
theorem args_d (a v : Value) : argsOk "min" ⟨[a], kwD v⟩ := by
  unfold argsOk
  kernel_rfl
theorem callD {l : Addr} {xs : Array (Int × Tok)} {Q : Value → Shared → Prop} (hh : A.handled = none) (hl : s.heap.IsList l (intItems xs))
    (h : ∀ v g tk, (0 < xs.size → (intItems xs)[argBest (fun i j => decide (numAt xs i < numAt xs j)) (xs.size - 1)]? = some v) → (xs.size = 0 → v = d) → (∀ b o, s.heap.get? b = some o → g.get? b = some o) → Q v { s with heap := g, toks := tk }) :
    wpAny (model prog w) A (call (.builtin "min") [.ref l] (kwD d)) Q E s := by
  refine kmk_tree PySem.F.kind_min PySem.F.plain_min PySem.F.entry_min (args_d _ _) ?_
  show wpAny _ A.in1 (Builtin.Builtins.bindParams "min" ["key", "default"] 0 ⟨[], kwD d⟩ >>= _) _ _ s
  refine wpAny_bind (wpAny_of_eq (show Builtin.Builtins.bindParams "min" ["key", "default"] 0 ⟨[], kwD d⟩ = pure [none, some d] from rfl) ?_)
  refine wpAny_bind (wpAny_pure ?_)
  refine wpAny_bind (iter_intList hl fun u eu st hfp hlI => ?_)
  subst eu
  refine wpAny_bind (wpAny_newObj_type ?_)
  rw [nameL]
  refine wpAny_pure ⟨plainId_quiet PySem.F.plain_min_loop _, firstD (Walks.list (A := A.in1) hh _ l hlI (intItems xs)) _ (CmpOf.ints_lt (numAt xs) (fun _ _ => intItems_at)) (fun hm => Nat.lt_irrefl _ (hfp _ hm)) ?_ (Heap.get?_push_size _ rfl) fun v g tk p1 p2 keep => ?_⟩
  · exact (Walks.list (prog := prog) (w := w) (A := A.in1) hh _ l hlI (intItems xs)).frame _ _ _ st fun b _ o e => Heap.get?_push_of_some _ e
  · have hsz : (intItems xs).size = xs.size := by simp [intItems]
    refine h v g tk (fun z => by have := p1 (by rw [hsz]; exact z); rw [hsz] at this; exact this) (fun z => p2 (by rw [hsz]; exact z)) (old_kept (l := l) fun b o hb e => ?_)
    exact keep b o hb (Nat.ne_of_lt (Heap.lt_size e)) (Heap.get?_push_of_some _ e)
end
theorem rawD {prog : Program} {w : World} {A : Around} {E : Value → Shared → Prop} {s : Shared} {l : Addr} {its : List Value} {ns : List Int} {z : Int} {t : Tok} {Q : Value → Shared → Prop} (hh : A.handled = none) (hl : s.heap.IsList l its.toArray) (hi : IntsAre its ns)
    (h : ∀ (g : Heap) (tk : Nat) (m : Int) (t' : Tok), (∀ b o, s.heap.get? b = some o → g.get? b = some o) → (ns = [] → m = z) → (ns ≠ [] → m ∈ ns ∧ ∀ y ∈ ns, m ≤ y) → Q (.int m t') { s with heap := g, toks := tk }) :
    wpAny (model prog w) A (call (.builtin "min") [.ref l] (kwD (.int z t))) Q E s := by
  obtain ⟨xs, e⟩ := hi.allInts.items
  have hn : numsOf (intItems xs).toList = ns := by rw [← e]; exact hi.numsOf
  rw [PySem.nums_intItems] at hn
  subst hn
  rw [e] at hl
  refine callD hh hl fun v g tk p1 p2 keep => ?_
  by_cases c : 0 < xs.size
  · obtain ⟨u, rfl⟩ := intItems_at (p1 c)
    obtain ⟨a1, a2⟩ := argBest_lt (numAt xs) (xs.size - 1)
    refine h g tk _ u keep (fun z => ?_) fun _ => ⟨?_, fun y hy => ?_⟩
    · have q : xs.size = 0 := by simpa using congrArg List.length z
      omega
    · rw [PySem.numAt_eq]
      refine PySem.getD_mem ?_
      rw [List.length_map, Array.length_toList]
      exact Nat.lt_of_le_of_lt a1 (by omega)
    · obtain ⟨j, hj, rfl⟩ := PySem.mem_getD hy
      rw [List.length_map, Array.length_toList] at hj
      rw [← PySem.numAt_eq]
      exact a2 j (by omega)
  · rw [p2 (by omega)]
    refine h g tk z t keep (fun _ => rfl) fun q => absurd ?_ q
    have : xs = #[] := Array.eq_empty_of_size_eq_zero (by omega)
    rw [this]
    rfl
end MinD
namespace Bx
open PySem PySem.Spec PyProof.Rows L2
def rMinD (K : PySem.W.Frag) : List V → List V → Hp → VK → Prop := fun xs zs H Q => ∃ (a : Addr) (ns : List Int) (z : Int), xs = [.ref a] ∧ zs = [.int z] ∧ SqL K H a (ns.map V.int) ∧
  ∀ m, (ns = [] → m = z) → (ns ≠ [] → m ∈ ns ∧ ∀ y ∈ ns, m ≤ y) → Q (.int m) H
theorem call_minD {X : Cx} {K : PySem.W.Frag} (h : X.K = K) (hc : X.calm = true) : CallRK X (.builtin "min") ["default"] (rMinD K) := by
  subst h
  intro pins s σ H xs zs us ws Q I r r2 hw
  obtain ⟨a, ns, z, rfl, rfl, hs, q⟩ := hw
  obtain ⟨its, rv, hl, _⟩ := I.list hs
  rw [Vals.ref1 r]
  obtain ⟨u, rfl, ru⟩ := vals1 r2
  obtain ⟨t, rfl⟩ := ru
  exact MinD.rawD (I.ok.hd hc) hl.isList rv.ints fun g tk m t' hk h1 h2 => ⟨.int m, H, I.kept hk, ⟨_, rfl⟩, q m h1 h2⟩
end Bx
namespace Bx
open PySem PySem.Spec PyProof.Rows L2
/-! ### rules over the written part by its name -/
section
variable {X : Cx} {K : PySem.W.Frag}
theorem ix_tupK (h : X.K = K) : IxR X (rIxT K) := h ▸ ix_tup
theorem ix_listK (h : X.K = K) : IxR X (rIxL K) := h ▸ ix_list
theorem ix_seqK (h : X.K = K) : IxR X (rIx K) := h ▸ ix_seq
def rLen (K : PySem.W.Frag) : List V → Hp → VK → Prop := fun xs H Q => ∃ (p : Addr) (ys : List V), xs = [.ref p] ∧ (SqL K H p ys ∨ SqT K H p ys) ∧ Q (.int ys.length) H
theorem call_lenK (h : X.K = K) : CallR X (.builtin "len") (rLen K) := by
  subst h
  exact call_len_seq
def rTupOf (K : PySem.W.Frag) : List V → Hp → VK → Prop := fun xs H Q => ∃ (p : Addr) (ys : List V), xs = [.ref p] ∧ ((SqL K H p ys ∧ ∀ l, H l = none → Q (.ref l) (upd H l (.tup ys))) ∨ (SqT K H p ys ∧ Q (.ref p) H))
theorem call_tuple_ofK (h : X.K = K) : CallR X (.type "tuple") (rTupOf K) := by
  subst h
  exact call_tuple_of
def rLstOf (K : PySem.W.Frag) : List V → Hp → VK → Prop := fun xs H Q => ∃ (p : Addr) (ys : List V), xs = [.ref p] ∧ (SqL K H p ys ∨ SqT K H p ys) ∧ ∀ l, H l = none → Q (.ref l) (upd H l (.lst ys))
theorem call_list_ofK (h : X.K = K) : CallR X (.type "list") (rLstOf K) := by
  subst h
  exact call_list_of
end
end Bx
/-! ### heaps: what one list at d may lose, all else as it was -/
namespace Bx
open PySem PySem.Spec PyProof.Rows L2
def Kp (d : Addr) (H H' : Hp) : Prop := ∀ b o, b ≠ d → H b = some o → H' b = some o
theorem Kp.refl (d : Addr) (H : Hp) : Kp d H H := fun _ _ _ h => h
theorem Kp.trans {d : Addr} {H H1 H2 : Hp} (a : Kp d H H1) (b : Kp d H1 H2) : Kp d H H2 := fun c o n h => b c o n (a c o n h)
theorem Same.kp {d : Addr} {H H' : Hp} (s : Same H H') : Kp d H H' := fun b o _ h => s b o h
theorem Kp.own {d : Addr} {H : Hp} {o : HO} : Kp d H (upd H d o) := fun b _ n h => by rw [upd_ne n]; exact h
theorem same_new {H : Hp} {p : Addr} {o : HO} (h : H p = none) : Same H (upd H p o) := fun b x e => by
  rw [upd_ne (ne_of_none e h)]
  exact e
theorem Kp.new {d p : Addr} {H : Hp} {o : HO} (h : H p = none) : Kp d H (upd H p o) := Same.kp (same_new h)
theorem upd_self {H : Hp} {d : Addr} {o : HO} (h : H d = some o) : upd H d o = H := by
  funext b
  by_cases e : b = d
  · rw [e, upd_same, h]
  · rw [upd_ne e]
/-- a list of ints at d -/
def Ints (H : Hp) (d : Addr) (xs : List Int) : Prop := H d = some (.lst (xs.map V.int))
/-- the draws: some list of ints -/
def Drw (H : Hp) (d : Addr) : Prop := ∃ ds : List Int, H d = some (.lst (ds.map V.int))
theorem Drw.new {H : Hp} {d p : Addr} {o : HO} (h : Drw H d) (n : H p = none) : Drw (upd H p o) d := by
  obtain ⟨ds, e⟩ := h
  exact ⟨ds, same_new n _ _ e⟩
theorem Drw.own {H : Hp} {d : Addr} {ds : List Int} : Drw (upd H d (.lst (ds.map V.int))) d := ⟨ds, upd_same⟩
theorem Drw.same {H H' : Hp} {d : Addr} (h : Drw H d) (s : Same H H') : Drw H' d := by
  obtain ⟨ds, e⟩ := h
  exact ⟨ds, s _ _ e⟩
/-- a tuple of ints -/
def TupI (H : Hp) (a : Addr) (xs : List Int) : Prop := H a = some (.tup (xs.map V.int))
theorem Drw.ne_tup {H : Hp} {d a : Addr} {xs : List V} (h : Drw H d) (e : H a = some (.tup xs)) : a ≠ d := by
  obtain ⟨ds, e2⟩ := h
  exact ne_of e e2 (by intro z; cases z)
/-- a lasso: a pair of tuples of ints -/
def Las (H : Hp) (p : Addr) (h l : List Int) : Prop := ∃ a b, H p = some (.tup [.ref a, .ref b]) ∧ H a = some (.tup (h.map V.int)) ∧ H b = some (.tup (l.map V.int))
theorem Las.keep {H H' : Hp} {d p : Addr} {h l : List Int} (k : Kp d H H') (w : Drw H d) (x : Las H p h l) : Las H' p h l := by
  obtain ⟨a, b, e1, e2, e3⟩ := x
  exact ⟨a, b, k _ _ (w.ne_tup e1) e1, k _ _ (w.ne_tup e2) e2, k _ _ (w.ne_tup e3) e3⟩
theorem Las.same {H H' : Hp} {p : Addr} {h l : List Int} (k : Same H H') (x : Las H p h l) : Las H' p h l := by
  obtain ⟨a, b, e1, e2, e3⟩ := x
  exact ⟨a, b, k _ _ e1, k _ _ e2, k _ _ e3⟩
theorem lenI {xs : List Int} (h : xs.length ≤ 1000000) : (xs.map V.int).length < sizeLine := by
  rw [List.length_map]
  exact Nat.lt_of_le_of_lt h (by decide)
theorem ixN_at {n j : Nat} (h : j < n) : ixN n (j : Int) = some j := by
  unfold ixN
  rw [if_pos (by omega), if_pos (by omega)]
  rfl
theorem set_mapI {xs : List Int} {j : Nat} {v : Int} : (xs.map V.int).set j (.int v) = (xs.set j v).map V.int := by rw [List.map_set]
/-- a list or a tuple of ints -/
def SeqI (H : Hp) (a : Addr) (xs : List Int) : Prop := H a = some (.lst (xs.map V.int)) ∨ H a = some (.tup (xs.map V.int))
theorem SeqI.sq {K : PySem.W.Frag} {H : Hp} {a : Addr} {xs : List Int} (h : SeqI H a xs) : SqL K H a (xs.map V.int) ∨ SqT K H a (xs.map V.int) := by
  rcases h with h | h
  · exact .inl (.of h)
  · exact .inr (.of h)
theorem SeqI.same {H H' : Hp} {a : Addr} {xs : List Int} (k : Same H H') (h : SeqI H a xs) : SeqI H' a xs := by
  rcases h with h | h
  · exact .inl (k _ _ h)
  · exact .inr (k _ _ h)
/-- a pair of lists or tuples of ints -/
def Pr (H : Hp) (p : Addr) (h l : List Int) : Prop := ∃ a b, H p = some (.tup [.ref a, .ref b]) ∧ SeqI H a h ∧ SeqI H b l
theorem Las.pr {H : Hp} {p : Addr} {h l : List Int} (x : Las H p h l) : Pr H p h l := by
  obtain ⟨a, b, e1, e2, e3⟩ := x
  exact ⟨a, b, e1, .inr e2, .inr e3⟩
theorem Pr.same {H H' : Hp} {p : Addr} {h l : List Int} (k : Same H H') (x : Pr H p h l) : Pr H' p h l := by
  obtain ⟨a, b, e1, e2, e3⟩ := x
  exact ⟨a, b, k _ _ e1, e2.same k, e3.same k⟩
/-- an item -/
theorem ixq {K : PySem.W.Frag} {H : Hp} {a : Addr} {xs : List Int} {i : Int} {j : Nat} {v : V} {Q : VK} (h : SeqI H a xs) (ei : i = (j : Int)) (e : (xs.map V.int)[j]? = some v) (q : Q v H) : rIx K (.ref a) (.int i) H Q := by
  subst ei
  rcases h with h | h
  · exact .inl ⟨_, _, _, _, rfl, rfl, .of h, atI_nat e, q⟩
  · exact .inr (.inl ⟨_, _, _, _, rfl, rfl, .of h, atI_nat e, q⟩)
theorem ixq_last {K : PySem.W.Frag} {H : Hp} {a : Addr} {xs : List Int} {z : Int} {Q : VK} (h : SeqI H a xs) (e : xs.getLast? = some z) (q : Q (.int z) H) : rIx K (.ref a) (.int (-1)) H Q := by
  obtain ⟨ys, rfl⟩ := List.getLast?_eq_some_iff.mp e
  have g : atI ((ys ++ [z]).map V.int) (-1) = some (.int z) := by
    rw [List.map_append]
    exact atI_last _ _
  rcases h with h | h
  · exact .inl ⟨_, _, _, _, rfl, rfl, .of h, g, q⟩
  · exact .inr (.inl ⟨_, _, _, _, rfl, rfl, .of h, g, q⟩)
theorem at_map {xs : List Int} {j : Nat} (h : j < xs.length) : (xs.map V.int)[j]? = some (.int (xs.getD j 0)) := by
  rw [List.getElem?_map, List.getElem?_eq_getElem h, List.getD_eq_getElem?_getD, List.getElem?_eq_getElem h]
  rfl
/-! slices -/
section
variable {X : Cx} {K : PySem.W.Frag}
def rSlQ (K : PySem.W.Frag) : V → Option Int → Option Int → Hp → VK → Prop := fun x lo hi H Q => rSlL K x lo hi H Q ∨ rSlA K x lo hi H Q
theorem sl_seqK (h : X.K = K) : SlR X (rSlQ K) := by
  subst h
  exact sl_list.or sl_tupA
theorem sl_tupK (h : X.K = K) : SlR X (rSlA K) := by
  subst h
  exact sl_tupA
theorem sl_listK (h : X.K = K) : SlR X (rSlL K) := by
  subst h
  exact sl_list
theorem op_catK (h : X.K = K) : OpR X (binaryOp .Add) (rCatA K) := by
  subst h
  exact op_catA
theorem op_repTK (h : X.K = K) : OpR X (binaryOp .Mult) (rRepT K) := by
  subst h
  exact op_repT
theorem op_eqDK (h : X.K = K) (hu : X.A.units + 64 < cLine) : OpR X (compareOp .Eq) (rEqD K) := by
  subst h
  exact op_eqD hu
theorem op_neDK (h : X.K = K) (hu : X.A.units + 64 < cLine) : OpR X (compareOp .NotEq) (rNeD K) := by
  subst h
  exact op_neD hu
theorem call_minK (h : X.K = K) (hc : X.calm = true) : CallR X (.builtin "min") (rMin K) := by
  subst h
  exact cr_min hc
theorem call_isiK' (h : X.K = K) : CallR X (.builtin "isinstance") (rIsi K) := by
  subst h
  exact call_isi
end
theorem cut_map {xs : List Int} {lo hi : Option Int} : cutV (xs.map V.int) lo hi = ((xs.drop (HT.sIx xs.length 0 lo)).take (HT.sIx xs.length xs.length hi - HT.sIx xs.length 0 lo)).map V.int := by
  unfold cutV
  rw [List.length_map, List.map_take, List.map_drop]
/-- a slice of a tuple -/
theorem slt {K : PySem.W.Frag} {H : Hp} {a : Addr} {xs ys : List Int} {lo hi : Option Int} {Q : VK} (h : TupI H a xs) (e : (xs.drop (HT.sIx xs.length 0 lo)).take (HT.sIx xs.length xs.length hi - HT.sIx xs.length 0 lo) = ys)
    (q : ∀ (H' : Hp) (p : Addr), Same H H' → TupI H' p ys → Q (.ref p) H') : rSlA K (.ref a) lo hi H Q := by
  subst e
  refine ⟨a, _, rfl, .of h, fun w => ?_, fun _ p hp => q _ p (same_new hp) ?_⟩
  · refine q H a (Same.refl H) ?_
    rw [List.length_map] at w
    rw [w.1, w.2, List.drop_zero, Nat.sub_zero, List.take_length]
    exact h
  · unfold TupI
    rw [upd_same, cut_map]
/-- a slice of a list or tuple -/
theorem slq {K : PySem.W.Frag} {H : Hp} {a : Addr} {xs ys : List Int} {lo hi : Option Int} {Q : VK} (h : SeqI H a xs) (e : (xs.drop (HT.sIx xs.length 0 lo)).take (HT.sIx xs.length xs.length hi - HT.sIx xs.length 0 lo) = ys)
    (q : ∀ (H' : Hp) (p : Addr), Same H H' → SeqI H' p ys → Q (.ref p) H') : rSlQ K (.ref a) lo hi H Q := by
  rcases h with h | h
  · subst e
    refine .inl ⟨a, _, rfl, .of h, fun p hp => q _ p (same_new hp) (.inl ?_)⟩
    rw [upd_same, cut_map]
  · exact .inr (slt h e fun H' p s t => q H' p s (.inr t))
theorem cut_to (xs : List Int) (n : Nat) : (xs.drop (HT.sIx xs.length 0 none)).take (HT.sIx xs.length xs.length (some (n : Int)) - HT.sIx xs.length 0 none) = xs.take n := by
  rw [HT.sIx_none, HT.sIx_nat, List.drop_zero, Nat.sub_zero]
  rcases Nat.le_total n xs.length with c | c
  · rw [Nat.min_eq_left c]
  · rw [Nat.min_eq_right c, List.take_length, List.take_of_length_le c]
theorem cut_from (xs : List Int) {n : Nat} (hn : n ≤ xs.length) : (xs.drop (HT.sIx xs.length 0 (some (n : Int)))).take (HT.sIx xs.length xs.length none - HT.sIx xs.length 0 (some (n : Int))) = xs.drop n := by
  rw [HT.sIx_none, HT.sIx_nat, Nat.min_eq_left hn]
  exact List.take_of_length_le (by rw [List.length_drop]; exact Nat.le_refl _)
theorem slt_to {K : PySem.W.Frag} {H : Hp} {a : Addr} {xs : List Int} {k : Int} {n : Nat} {Q : VK} (h : TupI H a xs) (ek : k = (n : Int))
    (q : ∀ (H' : Hp) (p : Addr), Same H H' → TupI H' p (xs.take n) → Q (.ref p) H') : rSlA K (.ref a) none (some k) H Q := by
  subst ek
  exact slt h (cut_to xs n) q
theorem slt_from {K : PySem.W.Frag} {H : Hp} {a : Addr} {xs : List Int} {k : Int} {n : Nat} {Q : VK} (h : TupI H a xs) (ek : k = (n : Int)) (hn : n ≤ xs.length)
    (q : ∀ (H' : Hp) (p : Addr), Same H H' → TupI H' p (xs.drop n) → Q (.ref p) H') : rSlA K (.ref a) (some k) none H Q := by
  subst ek
  exact slt h (cut_from xs hn) q
theorem slq_to {K : PySem.W.Frag} {H : Hp} {a : Addr} {xs : List Int} {k : Int} {n : Nat} {Q : VK} (h : SeqI H a xs) (ek : k = (n : Int))
    (q : ∀ (H' : Hp) (p : Addr), Same H H' → SeqI H' p (xs.take n) → Q (.ref p) H') : rSlQ K (.ref a) none (some k) H Q := by
  subst ek
  exact slq h (cut_to xs n) q
theorem slq_mid {K : PySem.W.Frag} {H : Hp} {a : Addr} {xs : List Int} {k k2 : Int} {n m : Nat} {Q : VK} (h : SeqI H a xs) (ek : k = (n : Int)) (ek2 : k2 = (m : Int)) (hn : n ≤ xs.length) (hm : m ≤ xs.length)
    (q : ∀ (H' : Hp) (p : Addr), Same H H' → SeqI H' p ((xs.drop n).take (m - n)) → Q (.ref p) H') : rSlQ K (.ref a) (some k) (some k2) H Q := by
  subst ek
  subst ek2
  refine slq h ?_ q
  rw [HT.sIx_nat, HT.sIx_nat, Nat.min_eq_left hn, Nat.min_eq_left hm]
/-- tuple(x) -/
theorem tupq {K : PySem.W.Frag} {H : Hp} {a : Addr} {xs : List Int} {Q : VK} (h : SeqI H a xs) (q : ∀ (H' : Hp) (p : Addr), Same H H' → TupI H' p xs → Q (.ref p) H') : rTupOf K [.ref a] H Q := by
  rcases h with h | h
  · exact ⟨a, _, rfl, .inl ⟨.of h, fun p hp => q _ p (same_new hp) upd_same⟩⟩
  · exact ⟨a, _, rfl, .inr ⟨.of h, q H a (Same.refl H) h⟩⟩
/-- x + y of tuples -/
theorem catq {K : PySem.W.Frag} {H : Hp} {a b : Addr} {xs ys : List Int} {Q : VK} (h : TupI H a xs) (g : TupI H b ys) (hl : xs.length + ys.length ≤ 1000000) (q : ∀ (H' : Hp) (p : Addr), Same H H' → TupI H' p (xs ++ ys) → Q (.ref p) H') : rCatA K (.ref a) (.ref b) H Q := by
  refine ⟨a, b, _, _, rfl, rfl, .of h, .of g, ?_, fun z => ?_, fun _ z => ?_, fun _ _ p hp => ?_⟩
  · rw [List.length_map, List.length_map]
    exact Nat.le_trans hl (by decide)
  · have e : xs = [] := List.map_eq_nil_iff.mp z
    refine q H b (Same.refl H) ?_
    rw [e]
    exact g
  · have e : ys = [] := List.map_eq_nil_iff.mp z
    refine q H a (Same.refl H) ?_
    rw [e, List.append_nil]
    exact h
  · refine q _ p (same_new hp) ?_
    unfold TupI
    rw [upd_same, List.map_append]
/-- a slice of a list -/
theorem sll_from {K : PySem.W.Frag} {H : Hp} {a : Addr} {xs : List Int} {k : Int} {n : Nat} {Q : VK} (h : H a = some (.lst (xs.map V.int))) (ek : k = (n : Int)) (hn : n ≤ xs.length)
    (q : ∀ p, H p = none → Q (.ref p) (upd H p (.lst ((xs.drop n).map V.int)))) : rSlL K (.ref a) (some k) none H Q := by
  subst ek
  refine ⟨a, _, rfl, .of h, fun p hp => ?_⟩
  rw [cut_map, cut_from xs hn]
  exact q p hp
theorem sll_to {K : PySem.W.Frag} {H : Hp} {a : Addr} {xs : List Int} {k : Int} {n : Nat} {Q : VK} (h : H a = some (.lst (xs.map V.int))) (ek : k = (n : Int))
    (q : ∀ p, H p = none → Q (.ref p) (upd H p (.lst ((xs.take n).map V.int)))) : rSlL K (.ref a) none (some k) H Q := by
  subst ek
  refine ⟨a, _, rfl, .of h, fun p hp => ?_⟩
  rw [cut_map, cut_to xs n]
  exact q p hp
/-! == of data -/
theorem eqvAll_int : ∀ xs ys : List Int, PyData.eqvAll (xs.map PyData.int) (ys.map PyData.int) = decide (xs = ys)
  | [], [] => by simp [PyData.eqvAll]
  | [], y :: ys => by simp [PyData.eqvAll]
  | x :: xs, [] => by simp [PyData.eqvAll]
  | x :: xs, y :: ys => by
    rw [List.map_cons, List.map_cons, PyData.eqvAll, eqvAll_int xs ys, PyData.eqv]
    by_cases c : x = y
    · by_cases d : xs = ys
      · simp [c, d]
      · simp [c, d]
    · simp [c]
theorem eqv_tup (xs ys : List Int) : PyData.eqv (.tuple (xs.map PyData.int)) (.tuple (ys.map PyData.int)) = decide (xs = ys) := by
  rw [PyData.eqv]
  exact eqvAll_int xs ys
theorem eqv_lst (xs ys : List Int) : PyData.eqv (.list (xs.map PyData.int)) (.list (ys.map PyData.int)) = decide (xs = ys) := by
  rw [PyData.eqv]
  exact eqvAll_int xs ys
theorem layAll : ∀ xs : List Int, PyData.canLayAll0 (xs.map PyData.int) = true
  | [] => rfl
  | x :: xs => by
    rw [List.map_cons, PyData.canLayAll0, layAll xs]
    rfl
theorem depAll : ∀ xs : List Int, PyData.depthAll (xs.map PyData.int) = 0
  | [] => by simp [PyData.depthAll]
  | x :: xs => by
    rw [List.map_cons, PyData.depthAll, depAll xs]
    simp [PyData.depth]
theorem shaped_tup (xs : List Int) : SeqAt.shaped (.tuple (xs.map PyData.int)) = true := by
  unfold SeqAt.shaped
  rw [PyData.canLay0, layAll, PyData.depth, depAll]
  rfl
theorem shaped_lst (xs : List Int) : SeqAt.shaped (.list (xs.map PyData.int)) = true := by
  unfold SeqAt.shaped
  rw [PyData.canLay0, layAll, PyData.depth, depAll]
  rfl
theorem dpAll_int {K : PySem.W.Frag} {H : Hp} : ∀ xs : List Int, DpAll K H (xs.map V.int) (xs.map PyData.int)
  | [] => .nil
  | x :: xs => .cons (.int x) (dpAll_int xs)
theorem dp_lst {K : PySem.W.Frag} {H : Hp} {a : Addr} {xs : List Int} (h : H a = some (.lst (xs.map V.int))) : Dp K H (.ref a) (.list (xs.map PyData.int)) := .lst (.of h) (dpAll_int xs)
theorem dp_tup {K : PySem.W.Frag} {H : Hp} {a : Addr} {xs : List Int} (h : TupI H a xs) : Dp K H (.ref a) (.tuple (xs.map PyData.int)) := .tup (.of h) (dpAll_int xs)
theorem ite_ne {x y : Int} {A B : Prop} (h1 : x ≠ y → A) (h2 : x = y → B) : if (!decide (V.int x = V.int y)) = true then A else B := by
  by_cases c : x = y
  · rw [c, decide_eq_true rfl]
    exact iteF (h2 c)
  · rw [decide_eq_false (fun z => c (V.int.inj z))]
    exact iteT (h1 c)
theorem ite_eq {x y : Int} {A B : Prop} (h1 : x = y → A) (h2 : x ≠ y → B) : if decide (V.int x = V.int y) = true then A else B := by
  by_cases c : x = y
  · rw [c, decide_eq_true rfl]
    exact iteT (h1 c)
  · rw [decide_eq_false (fun z => c (V.int.inj z))]
    exact iteF (h2 c)
theorem ite_lt {x y : Int} {A B : Prop} (h1 : x < y → A) (h2 : y ≤ x → B) : if decide (x < y) = true then A else B := by
  by_cases c : x < y
  · rw [decide_eq_true c]
    exact iteT (h1 c)
  · rw [decide_eq_false c]
    exact iteF (h2 (by omega))
/-! ### the letters of a word -/
def wat (h l : List Int) (t : Nat) : Int := if t < h.length then h.getD t 0 else l.getD ((t - h.length) % l.length) 0
theorem wat_head {h l : List Int} {t : Nat} (c : t < h.length) : (h.map V.int)[t]? = some (.int (wat h l t)) := by
  unfold wat
  rw [if_pos c, List.getElem?_map, List.getElem?_eq_getElem c, List.getD_eq_getElem?_getD, List.getElem?_eq_getElem c]
  rfl
theorem wat_loop {h l : List Int} {t : Nat} (c : ¬ t < h.length) (n : l ≠ []) : (l.map V.int)[(t - h.length) % l.length]? = some (.int (wat h l t)) := by
  have hl : 0 < l.length := List.length_pos_iff.mpr n
  have c2 : (t - h.length) % l.length < l.length := Nat.mod_lt _ hl
  unfold wat
  rw [if_neg c, List.getElem?_map, List.getElem?_eq_getElem c2, List.getD_eq_getElem?_getD, List.getElem?_eq_getElem c2]
  rfl
theorem ix_mod {t n m : Nat} (h : n ≤ t) : ((t : Int) - (n : Int)) % (m : Int) = (((t - n) % m : Nat) : Int) := by
  have e : ((t : Int) - (n : Int)) = ((t - n : Nat) : Int) := by omega
  rw [e]
  rfl
/-! ### promises of the helpers -/
def spTake : Sp := fun vs H Q _ => ∃ (d : Addr) (n : Int), vs = [.ref d, .int n] ∧ Drw H d ∧ 0 < n ∧
  ∀ (r : Int) (ds : List Int), 0 ≤ r → r < n → Q (.int r) (upd H d (.lst (ds.map V.int)))
def spDraws (K : PySem.W.Frag) : Sp := fun vs H Q _ => ∃ (a : Addr) (ns : List Int) (c : Nat), vs = [.ref a, .int c] ∧ SqL K H a (ns.map V.int) ∧ c ≤ 1000 ∧
  ∀ (H' : Hp) (d : Addr), Same H H' → H d = none → Drw H' d → Q (.ref d) H'
def spAt : Sp := fun vs H Q _ => ∃ (p : Addr) (h l : List Int) (t : Nat), vs = [.ref p, .int t] ∧ Pr H p h l ∧ l ≠ [] ∧ Q (.int (wat h l t)) H
def spLasso : Sp := fun vs H Q _ => ∃ (d : Addr) (n : Int) (m : Nat), vs = [.ref d, .int n, .int m] ∧ Drw H d ∧ 0 < n ∧ 0 < m ∧ m ≤ 1000 ∧
  ∀ (H' : Hp) (p : Addr) (h l : List Int), Kp d H H' → Drw H' d → Las H' p h l → h.length ≤ m → l ≠ [] → l.length ≤ m → (∀ x ∈ h, 0 ≤ x ∧ x < n) → (∀ x ∈ l, 0 ≤ x ∧ x < n) → Q (.ref p) H'
/-- v says where f and g first differ below n -/
def IsDiff (f g : Nat → Int) (n : Nat) (v : V) : Prop := (v = .non ∧ ∀ t < n, f t = g t) ∨ ∃ t, t < n ∧ v = .int (t : Nat) ∧ f t ≠ g t ∧ ∀ s < t, f s = g s
theorem IsDiff.uniq {f g : Nat → Int} {n : Nat} {v u : V} (a : IsDiff f g n v) (b : IsDiff f g n u) : v = u := by
  rcases a with ⟨rfl, a⟩ | ⟨t, ht, rfl, a1, a2⟩
  · rcases b with ⟨rfl, b⟩ | ⟨s, hs, rfl, b1, b2⟩
    · rfl
    · exact absurd (a s hs) b1
  · rcases b with ⟨rfl, b⟩ | ⟨s, hs, rfl, b1, b2⟩
    · exact absurd (b t ht) a1
    · rcases Nat.lt_trichotomy t s with c | c | c
      · exact absurd (b2 t c) a1
      · rw [c]
      · exact absurd (a2 s c) b1
theorem IsDiff.swap {f g : Nat → Int} {n : Nat} {v : V} (a : IsDiff f g n v) : IsDiff g f n v := by
  rcases a with ⟨rfl, a⟩ | ⟨t, ht, rfl, a1, a2⟩
  · exact .inl ⟨rfl, fun t h => (a t h).symm⟩
  · exact .inr ⟨t, ht, rfl, a1.symm, fun s h => (a2 s h).symm⟩
def dfn (h1 l1 h2 l2 : List Int) : Nat := max h1.length h2.length + l1.length + l2.length
def spFd : Sp := fun vs H Q _ => ∃ (p q : Addr) (h1 l1 h2 l2 : List Int), vs = [.ref p, .ref q] ∧ Las H p h1 l1 ∧ Las H q h2 l2 ∧ l1 ≠ [] ∧ l2 ≠ [] ∧ dfn h1 l1 h2 l2 ≤ 1000000 ∧
  ∀ v, IsDiff (wat h1 l1) (wat h2 l2) (dfn h1 l1 h2 l2) v → Q v H
theorem max_if (a b : Nat) : (if ((b : Nat) : Int) > (a : Int) then (b : Int) else (a : Int)) = ((max a b : Nat) : Int) := by
  by_cases h : ((b : Nat) : Int) > (a : Int)
  · rw [if_pos h]
    omega
  · rw [if_neg h]
    omega
/-- the letters of a list, by places -/
def lw (l : List Int) : Nat → Int := fun i => l.getD i 0
def spPeriod : Sp := fun vs H Q _ => ∃ (a : Addr) (l : List Int), vs = [.ref a] ∧ SeqI H a l ∧ l ≠ [] ∧ l.length ≤ 1000000 ∧
  ∀ (H' : Hp) (r : Nat), Same H H' → Wd.Least (lw l) l.length r → Q (.int r) H'
/-- the normal form (h', l') of (h, l) -/
structure Short (h l h' l' : List Int) : Prop where
  ne : l' ≠ []
  same : ∀ t, wat h' l' t = wat h l t
  hl : h'.length ≤ h.length
  ll : l'.length ≤ l.length
  last : h' ≠ [] → h'.getLast? ≠ l'.getLast?
  prim : ∀ p, 0 < p → p < l'.length → p ∣ l'.length → ∃ i, i + p < l'.length ∧ lw l' i ≠ lw l' (i + p)
  memH : ∀ x ∈ h', x ∈ h
  memL : ∀ x ∈ l', x ∈ l
/-- the letter of the repeated word at any whole number of turns from where it begins -/
def bk (l : List Int) (r : Nat) (z : Int) : Int := lw l ((z % (r : Int)).toNat)
def rot (l : List Int) (r c : Nat) : List Int := (l.drop c).take (r - c) ++ l.take c
theorem rot_len {l : List Int} {r c : Nat} (hc : c < r) (hr : r ≤ l.length) : (rot l r c).length = r := by
  unfold rot
  rw [List.length_append, List.length_take, List.length_drop, List.length_take]
  omega
theorem lw_get {l : List Int} {i : Nat} (h : i < l.length) : l[i]? = some (lw l i) := by
  unfold lw
  rw [List.getD_eq_getElem?_getD, List.getElem?_eq_getElem h]
  rfl
theorem lw_of {l : List Int} {i : Nat} {x : Int} (h : l[i]? = some x) : lw l i = x := by
  unfold lw
  rw [List.getD_eq_getElem?_getD, h]
  rfl
theorem rot_at {l : List Int} {r c j : Nat} (hc : c < r) (hr : r ≤ l.length) (hj : j < r) : lw (rot l r c) j = lw l ((j + c) % r) := by
  apply lw_of
  unfold rot
  have e1 : ((l.drop c).take (r - c)).length = r - c := by
    rw [List.length_take, List.length_drop]
    omega
  rcases Nat.lt_or_ge j (r - c) with h | h
  · rw [List.getElem?_append_left (by rw [e1]; exact h), List.getElem?_take, if_pos h, List.getElem?_drop, Nat.mod_eq_of_lt (by omega), Nat.add_comm c j]
    exact lw_get (by omega)
  · rw [List.getElem?_append_right (by rw [e1]; exact h), e1, List.getElem?_take, if_pos (by omega)]
    have e2 : (j + c) % r = j - (r - c) := by
      rw [Nat.mod_eq_sub_mod (by omega), Nat.mod_eq_of_lt (by omega)]
      omega
    rw [e2]
    exact lw_get (by omega)
theorem bk_shift {l : List Int} {r : Nat} {a b z : Int} (h : a = b + r * z) : bk l r a = bk l r b := by
  unfold bk
  rw [h, Int.add_mul_emod_self_left]
theorem bk_nat {l : List Int} {r t : Nat} : bk l r (t : Int) = lw l (t % r) := rfl
theorem least_le {w : Nat → Int} {n r : Nat} (hn : 0 < n) (L : Wd.Least w n r) : r ≤ n := Nat.le_of_dvd hn L.dvd
/-- the letters of l repeated, by the least repetition -/
theorem cyc_least {l : List Int} {r : Nat} (hn : 0 < l.length) (L : Wd.Least (lw l) l.length r) (i : Nat) : lw l (i % l.length) = bk l r (i : Int) := by
  have h1 : Wd.cyc (lw l) l.length i = Wd.cyc (lw l) l.length (i % r) := L.rp.mod
  have h2 : Wd.cyc (lw l) l.length (i % r) = lw l (i % r) := Wd.cyc_lt (Nat.lt_of_lt_of_le (Nat.mod_lt _ L.pos) (least_le hn L))
  rw [bk_nat, ← h2, ← h1]
  rfl
theorem cut_lt {r : Nat} (hr : 0 < r) (z : Int) : (z % (r : Int)).toNat < r := by
  have h1 := Int.emod_nonneg z (show (r : Int) ≠ 0 by omega)
  have h2 := Int.emod_lt_of_pos z (show (0 : Int) < (r : Int) by omega)
  omega
theorem cut_int {r : Nat} (hr : 0 < r) (z : Int) : (((z % (r : Int)).toNat : Nat) : Int) = z - r * (z / r) := by
  have h1 := Int.emod_nonneg z (show (r : Int) ≠ 0 by omega)
  rw [Int.toNat_of_nonneg h1, Int.emod_def]
theorem rot_bk {l : List Int} {r : Nat} (hr0 : 0 < r) (hr : r ≤ l.length) (z : Int) (j : Nat) : lw (rot l r (z % (r : Int)).toNat) (j % r) = bk l r ((j : Int) + z) := by
  rw [rot_at (cut_lt hr0 z) hr (Nat.mod_lt _ hr0), Nat.mod_add_mod]
  have h : bk l r (((j + (z % (r : Int)).toNat : Nat)) : Int) = bk l r ((j : Int) + z) := bk_shift (z := -(z / r)) (by
    rw [Int.natCast_add, cut_int hr0, Int.mul_neg]
    omega)
  rw [← h]
  rfl
theorem short_of {h l : List Int} {r k : Nat} (hne : l ≠ []) (L : Wd.Least (lw l) l.length r) (hk : k ≤ h.length)
    (hB : ∀ t, k ≤ t → t < h.length → lw h t = bk l r ((t : Int) - (h.length : Int))) (hX : k = 0 ∨ lw h (k - 1) ≠ bk l r ((k : Int) - 1 - (h.length : Int))) :
    Short h l (h.take k) (rot l r (((k : Int) - (h.length : Int)) % (r : Int)).toNat) := by
  have hn : 0 < l.length := List.length_pos_iff.mpr hne
  have hr0 := L.pos
  have hr := least_le hn L
  have hlen := rot_len (cut_lt hr0 ((k : Int) - (h.length : Int))) hr
  have htk : (h.take k).length = k := by
    rw [List.length_take]
    omega
  refine ⟨fun z => ?_, fun t => ?_, by rw [htk]; exact hk, by rw [hlen]; exact hr, fun hh => ?_, fun p hp hpl hpd => ?_, fun x hx => List.mem_of_mem_take hx, fun x hx => ?_⟩
  · rw [z] at hlen
    have : (0 : Nat) = r := hlen
    omega
  · unfold wat
    rw [htk, hlen]
    by_cases c : t < k
    · rw [if_pos c, if_pos (by omega), List.getD_eq_getElem?_getD, List.getD_eq_getElem?_getD, List.getElem?_take, if_pos c]
    · rw [if_neg c]
      have e1 := rot_bk (l := l) hr0 hr ((k : Int) - (h.length : Int)) (t - k)
      have e2 : ((t - k : Nat) : Int) + ((k : Int) - (h.length : Int)) = (t : Int) - (h.length : Int) := by omega
      rw [e2] at e1
      show lw _ _ = _
      rw [e1]
      by_cases d : t < h.length
      · rw [if_pos d]
        exact (hB t (by omega) d).symm
      · rw [if_neg d]
        have e3 : (t : Int) - (h.length : Int) = ((t - h.length : Nat) : Int) := by omega
        rw [e3]
        exact (cyc_least hn L _).symm
  · have hk0 : k ≠ 0 := fun z => hh (by rw [z]; rfl)
    rcases hX with z | z
    · exact absurd z hk0
    · rw [List.getLast?_eq_getElem?, List.getLast?_eq_getElem?, htk, hlen]
      rw [List.getElem?_take, if_pos (by omega), lw_get (show k - 1 < h.length by omega), lw_get (show r - 1 < (rot l r _).length by rw [hlen]; omega)]
      intro q
      refine z ?_
      rw [Option.some.inj q]
      have e1 := rot_bk (l := l) hr0 hr ((k : Int) - (h.length : Int)) (r - 1)
      rw [Nat.mod_eq_of_lt (show r - 1 < r by omega)] at e1
      rw [e1]
      exact bk_shift (z := 1) (by omega)
  · rw [hlen] at hpl hpd ⊢
    apply Classical.byContradiction
    intro hno
    have hall : ∀ i, i + p < r → lw (rot l r (((k : Int) - (h.length : Int)) % (r : Int)).toNat) i = lw (rot l r (((k : Int) - (h.length : Int)) % (r : Int)).toNat) (i + p) := fun i hi =>
      Classical.byContradiction fun q => hno ⟨i, hi, q⟩
    have hrp := Wd.rp_of hp hpd hr0 hall
    have key : ∀ i, Wd.cyc (lw l) l.length i = Wd.cyc (lw (rot l r (((k : Int) - (h.length : Int)) % (r : Int)).toNat)) r (i + (r - (((k : Int) - (h.length : Int)) % (r : Int)).toNat)) := by
      intro i
      have hc := cut_lt hr0 ((k : Int) - (h.length : Int))
      have a1 : Wd.cyc (lw l) l.length i = bk l r (i : Int) := cyc_least hn L i
      have a2 := rot_at hc hr (Nat.mod_lt (i + (r - (((k : Int) - (h.length : Int)) % (r : Int)).toNat)) hr0)
      rw [a1]
      show _ = lw _ (_ % r)
      rw [a2, Nat.mod_add_mod, show i + (r - (((k : Int) - (h.length : Int)) % (r : Int)).toNat) + (((k : Int) - (h.length : Int)) % (r : Int)).toNat = i + r by omega, Nat.add_mod_right]
      rfl
    have hR : Wd.Rp (lw l) l.length p := fun i => by
      rw [key, key, Nat.add_right_comm]
      exact hrp _
    have := L.min p hp (Nat.dvd_trans hpd L.dvd) hR
    omega
  · unfold rot at hx
    rcases List.mem_append.mp hx with z | z
    · exact List.mem_of_mem_drop (List.mem_of_mem_take z)
    · exact List.mem_of_mem_take z
theorem rp_mod {w : Nat → Int} {n p q : Nat} (hp : Wd.Rp w n p) (hq : Wd.Rp w n q) : Wd.Rp w n (q % p) := fun i => by
  have a := hp.mul (q / p) (i + q % p)
  rw [Nat.mul_comm, Nat.add_assoc, Nat.mod_add_div] at a
  rw [← a]
  exact hq i
theorem rp_gcd {w : Nat → Int} {n : Nat} (p q : Nat) : Wd.Rp w n p → Wd.Rp w n q → Wd.Rp w n (Nat.gcd p q) := by
  induction p, q using Nat.gcd.induction with
  | H0 q => intro _ hq; rw [Nat.gcd_zero_left]; exact hq
  | H1 p q hp ih => intro h1 h2; rw [Nat.gcd_rec]; exact ih (rp_mod h1 h2) h1
/-- the normal form -/
structure Nrm (h l : List Int) : Prop where
  ne : l ≠ []
  last : h ≠ [] → h.getLast? ≠ l.getLast?
  prim : ∀ p, 0 < p → p < l.length → p ∣ l.length → ∃ i, i + p < l.length ∧ lw l i ≠ lw l (i + p)
theorem Short.nrm {h l h' l' : List Int} (s : Short h l h' l') : Nrm h' l' := ⟨s.ne, s.last, s.prim⟩
theorem Nrm.pos {h l : List Int} (N : Nrm h l) : 0 < l.length := List.length_pos_iff.mpr N.ne
theorem wat_cyc {h l : List Int} {t : Nat} (c : h.length ≤ t) : wat h l t = Wd.cyc (lw l) l.length (t - h.length) := by
  unfold wat
  rw [if_neg (by omega)]
  rfl
/-- every period that the word has from some turn on is a multiple of the loop's length -/
theorem Nrm.dvd {h l : List Int} (N : Nrm h l) {p M : Nat} (hP : ∀ t, M ≤ t → wat h l (t + p) = wat h l t) : l.length ∣ p := by
  have hr := N.pos
  have hRp : Wd.Rp (lw l) l.length p := fun i => by
    have self := Wd.rp_self (lw l) l.length
    have e1 := self.mul M i
    have e2 := self.mul M (i + p)
    have hM : M ≤ M * l.length := Nat.le_mul_of_pos_right M hr
    have q := hP (h.length + (i + M * l.length)) (by omega)
    rw [wat_cyc (by omega), wat_cyc (by omega)] at q
    rw [show h.length + (i + M * l.length) + p - h.length = i + p + M * l.length by omega, show h.length + (i + M * l.length) - h.length = i + M * l.length by omega, e1, e2] at q
    exact q
  have hg := rp_gcd p l.length hRp (Wd.rp_self (lw l) l.length)
  have gd : Nat.gcd p l.length ∣ l.length := Nat.gcd_dvd_right p l.length
  have gp : 0 < Nat.gcd p l.length := Nat.gcd_pos_of_pos_right p hr
  have gl := Nat.le_of_dvd hr gd
  rcases Nat.lt_or_ge (Nat.gcd p l.length) l.length with c | c
  · obtain ⟨i, hi, hne⟩ := N.prim _ gp c gd
    refine absurd ?_ hne
    have := hg i
    rw [Wd.cyc_lt hi, Wd.cyc_lt (by omega)] at this
    exact this.symm
  · have e : Nat.gcd p l.length = l.length := by omega
    rw [← e]
    exact Nat.gcd_dvd_left p l.length
theorem wat_per {h l : List Int} {t : Nat} (c : h.length ≤ t) : wat h l (t + l.length) = wat h l t := by
  rw [wat_cyc c, wat_cyc (by omega), show t + l.length - h.length = (t - h.length) + l.length by omega]
  exact Wd.rp_self (lw l) l.length _
theorem last_at {l : List Int} (n : l ≠ []) : l.getLast? = some (lw l (l.length - 1)) := by
  have := List.length_pos_iff.mpr n
  rw [List.getLast?_eq_getElem?]
  exact lw_get (by omega)
theorem Nrm.head_le {h l g m : List Int} (N : Nrm h l) (hs : ∀ t, wat h l t = wat g m t) (e : l.length = m.length) : h.length ≤ g.length := by
  rcases Nat.lt_or_ge g.length h.length with c | c
  · exfalso
    have hne : h ≠ [] := List.length_pos_iff.mp (by omega)
    refine N.last hne ?_
    rw [last_at hne, last_at N.ne]
    congr 1
    have hp := N.pos
    have a1 : wat h l (h.length - 1) = lw h (h.length - 1) := by
      unfold wat
      rw [if_pos (by omega)]
      rfl
    have a2 : wat h l (h.length - 1 + l.length) = lw l (l.length - 1) := by
      rw [wat_cyc (by omega), show h.length - 1 + l.length - h.length = l.length - 1 by omega, Wd.cyc_lt (by omega)]
    rw [← a1, ← a2, hs, hs, e]
    exact (wat_per (by omega)).symm
  · exact c
theorem Nrm.uniq {h l g m : List Int} (N : Nrm h l) (M : Nrm g m) (hs : ∀ t, wat h l t = wat g m t) : h = g ∧ l = m := by
  have d1 : l.length ∣ m.length := N.dvd (M := g.length) fun t ht => by
    rw [hs, hs]
    exact wat_per ht
  have d2 : m.length ∣ l.length := M.dvd (M := h.length) fun t ht => by
    rw [← hs, ← hs]
    exact wat_per ht
  have e : l.length = m.length := Nat.dvd_antisymm d1 d2
  have e2 : h.length = g.length := Nat.le_antisymm (N.head_le hs e) (M.head_le (fun t => (hs t).symm) e.symm)
  refine ⟨List.ext_getElem e2 fun i h1 h2 => ?_, List.ext_getElem e fun i h1 h2 => ?_⟩
  · have := hs i
    unfold wat at this
    rw [if_pos h1, if_pos h2, List.getD_eq_getElem?_getD, List.getD_eq_getElem?_getD, List.getElem?_eq_getElem h1, List.getElem?_eq_getElem h2] at this
    exact this
  · have := hs (h.length + i)
    rw [wat_cyc (by omega), wat_cyc (by omega), show h.length + i - h.length = i by omega, show h.length + i - g.length = i by omega, Wd.cyc_lt h1, Wd.cyc_lt h2] at this
    have a1 := lw_get h1
    have a2 := lw_get h2
    rw [List.getElem?_eq_getElem h1] at a1
    rw [List.getElem?_eq_getElem h2] at a2
    rw [Option.some.inj a1, Option.some.inj a2, this]
theorem at_last {l : List Int} (n : l ≠ []) : atI (l.map V.int) (-1) = some (.int (lw l (l.length - 1))) := by
  have hp := List.length_pos_iff.mpr n
  have e : l.map V.int = (l.dropLast.map V.int) ++ [.int (l.getLast n)] := by
    rw [← List.map_singleton, ← List.map_append, List.dropLast_concat_getLast]
  rw [e, atI_last]
  have q := last_at n
  rw [List.getLast?_eq_getLast n] at q
  rw [Option.some.inj q]
/-! repetition of a text -/
theorem flat_at {w : List Int} : ∀ (k i : Nat), i < k * w.length → (List.replicate k w).flatten[i]? = w[i % w.length]?
  | 0, i, h => by
    rw [Nat.zero_mul] at h
    exact absurd h (Nat.not_lt_zero i)
  | k + 1, i, h => by
    rw [List.replicate_succ, List.flatten_cons]
    rcases Nat.lt_or_ge i w.length with c | c
    · rw [List.getElem?_append_left c, Nat.mod_eq_of_lt c]
    · rw [List.getElem?_append_right c, flat_at k (i - w.length) (by rw [Nat.succ_mul] at h; omega), ← Nat.mod_eq_sub_mod c]
theorem flat_per {l : List Int} {p k : Nat} (hp : 0 < p) (hpl : p ≤ l.length) (e : l = (List.replicate k (l.take p)).flatten) (hk : k * p = l.length) : ∀ i, i + p < l.length → lw l i = lw l (i + p) := by
  intro i hi
  have el : (l.take p).length = p := by
    rw [List.length_take]
    omega
  have at_ : ∀ j, j < l.length → l[j]? = (l.take p)[j % p]? := fun j hj => by
    have h0 := flat_at (w := l.take p) k j (by rw [el, hk]; exact hj)
    rw [← e, el] at h0
    exact h0
  have h1 := at_ i (by omega)
  have h2 := at_ (i + p) hi
  rw [Nat.add_mod_right, ← h1, lw_get hi, lw_get (show i < l.length by omega)] at h2
  exact (Option.some.inj h2).symm
def spShort : Sp := fun vs H Q _ => ∃ (a b : Addr) (h l : List Int), vs = [.ref a, .ref b] ∧ SeqI H a h ∧ SeqI H b l ∧ l ≠ [] ∧ h.length ≤ 100000 ∧ l.length ≤ 100000 ∧
  ∀ (H' : Hp) (p : Addr) (h' l' : List Int), Same H H' → Las H' p h' l' → Short h l h' l' → Q (.ref p) H'
/-- what suffix hands back -/
def Suf (h l : List Int) (t : Nat) (h' l' : List Int) : Prop := Nrm h' l' ∧ (∀ i, wat h' l' i = wat h l (t + i)) ∧ h'.length ≤ h.length ∧ l'.length ≤ l.length ∧ (∀ x ∈ h', x ∈ h ∨ x ∈ l) ∧ ∀ x ∈ l', x ∈ l
def spSuffix : Sp := fun vs H Q _ => ∃ (p : Addr) (h l : List Int) (t : Nat), vs = [.ref p, .int t] ∧ Las H p h l ∧ l ≠ [] ∧ h.length ≤ 50000 ∧ l.length ≤ 50000 ∧
  ∀ (H' : Hp) (p' : Addr) (h' l' : List Int), Same H H' → Las H' p' h' l' → Suf h l t h' l' → Q (.ref p') H'
def spMake : Sp := fun vs H Q _ => ∃ (a b : Addr) (h l : List Int), vs = [.ref a, .ref b] ∧ H a = some (.lst (h.map V.int)) ∧ H b = some (.lst (l.map V.int)) ∧ l ≠ [] ∧ h.length ≤ 100000 ∧ l.length ≤ 100000 ∧ (∀ x ∈ h, 0 ≤ x) ∧ (∀ x ∈ l, 0 ≤ x) ∧
  ∀ (H' : Hp) (p : Addr) (h' l' : List Int), Same H H' → Las H' p h' l' → Short h l h' l' → Q (.ref p) H'
theorem suf_drop {h l : List Int} {t : Nat} (c : t < h.length) (i : Nat) : wat (h.drop t) l i = wat h l (t + i) := by
  unfold wat
  rw [List.length_drop]
  by_cases d : t + i < h.length
  · rw [if_pos d, if_pos (by omega), List.getD_eq_getElem?_getD, List.getD_eq_getElem?_getD, List.getElem?_drop]
  · rw [if_neg d, if_neg (by omega), show t + i - h.length = i - (h.length - t) by omega]
theorem suf_turn {h l : List Int} {t : Nat} (hn : l ≠ []) (c : h.length ≤ t) (i : Nat) : wat [] (l.drop ((t - h.length) % l.length) ++ l.take ((t - h.length) % l.length)) i = wat h l (t + i) := by
  have hp : 0 < l.length := List.length_pos_iff.mpr hn
  have hc := Nat.mod_lt (t - h.length) hp
  have e : l.drop ((t - h.length) % l.length) ++ l.take ((t - h.length) % l.length) = rot l l.length ((t - h.length) % l.length) := by
    have e3 : (l.drop ((t - h.length) % l.length)).take (l.length - (t - h.length) % l.length) = l.drop ((t - h.length) % l.length) := List.take_of_length_le (by rw [List.length_drop]; exact Nat.le_refl _)
    unfold rot
    rw [e3]
  rw [e, wat_cyc (Nat.zero_le _), wat_cyc (show h.length ≤ t + i by omega), rot_len hc (Nat.le_refl _)]
  show lw _ (_ % _) = lw _ (_ % _)
  rw [rot_at hc (Nat.le_refl _) (Nat.mod_lt _ hp), Nat.mod_add_mod, Nat.add_mod_mod]
  congr 2
  show i - 0 + _ = _
  omega
def spInts : Sp := fun vs H Q _ => ∃ (a : Addr) (xs : List Int) (lo hi : Int), vs = [.ref a, .int lo, .int hi] ∧ TupI H a xs ∧ (∀ x ∈ xs, lo ≤ x ∧ x < hi) ∧ Q (.bl true) H
def spNormal : Sp := fun vs H Q _ => ∃ (p : Addr) (h l : List Int), vs = [.ref p] ∧ Las H p h l ∧ Nrm h l ∧ l.length ≤ 1000 ∧ ∀ H', Same H H' → Q (.bl true) H'
def spIsLasso : Sp := fun vs H Q _ => ∃ (p : Addr) (h l : List Int) (n : Int), vs = [.ref p, .int n] ∧ Las H p h l ∧ Nrm h l ∧ l.length ≤ 1000 ∧ (∀ x ∈ h, 0 ≤ x ∧ x < n) ∧ (∀ x ∈ l, 0 ≤ x ∧ x < n) ∧ ∀ H', Same H H' → Q (.bl true) H'
/-! the same word in other forms -/
theorem wat_mem {h l : List Int} (n : l ≠ []) (t : Nat) : wat h l t ∈ h ∨ wat h l t ∈ l := by
  have hl : 0 < l.length := List.length_pos_iff.mpr n
  unfold wat
  by_cases c : t < h.length
  · rw [if_pos c, List.getD_eq_getElem?_getD, List.getElem?_eq_getElem c]
    exact .inl (List.getElem_mem c)
  · have c2 := Nat.mod_lt (t - h.length) hl
    rw [if_neg c, List.getD_eq_getElem?_getD, List.getElem?_eq_getElem c2]
    exact .inr (List.getElem_mem c2)
theorem range_getD {f : Nat → Int} {n t : Nat} (c : t < n) : ((List.range n).map f).getD t 0 = f t := by
  rw [List.getD_eq_getElem?_getD, List.getElem?_map, List.getElem?_range c]
  rfl
theorem wat_form {h l : List Int} {m k : Nat} (n : l ≠ []) (hk : 0 < k) (t : Nat) :
    wat ((List.range (h.length + m)).map (wat h l)) ((List.range (k * l.length)).map fun t => wat h l (h.length + m + t)) t = wat h l t := by
  have hl : 0 < l.length := List.length_pos_iff.mpr n
  have hkl : 0 < k * l.length := Nat.mul_pos hk hl
  rw [show wat ((List.range (h.length + m)).map (wat h l)) ((List.range (k * l.length)).map fun t => wat h l (h.length + m + t)) t
      = if t < ((List.range (h.length + m)).map (wat h l)).length then ((List.range (h.length + m)).map (wat h l)).getD t 0 else ((List.range (k * l.length)).map fun t => wat h l (h.length + m + t)).getD ((t - ((List.range (h.length + m)).map (wat h l)).length) % ((List.range (k * l.length)).map fun t => wat h l (h.length + m + t)).length) 0 from rfl]
  rw [List.length_map, List.length_range, List.length_map, List.length_range]
  by_cases c : t < h.length + m
  · rw [if_pos c, range_getD c]
  · rw [if_neg c, range_getD (Nat.mod_lt _ hkl), wat_cyc (by omega), wat_cyc (by omega)]
    show lw l (_ % _) = lw l (_ % _)
    congr 1
    have e1 : h.length + m + (t - (h.length + m)) % (k * l.length) - h.length = m + (t - (h.length + m)) % (k * l.length) := by omega
    have e2 : t - h.length = m + (t - (h.length + m)) := by omega
    rw [e1, e2, ← Nat.add_mod_mod, Nat.mod_mod_of_dvd _ ⟨k, Nat.mul_comm k l.length⟩, Nat.add_mod_mod]
theorem wat_front (f h l : List Int) (i : Nat) : wat (f ++ h) l (f.length + i) = wat h l i := by
  unfold wat
  rw [List.length_append]
  by_cases c : i < h.length
  · rw [if_pos c, if_pos (by omega), List.getD_eq_getElem?_getD, List.getD_eq_getElem?_getD, List.getElem?_append_right (by omega), Nat.add_sub_cancel_left]
  · rw [if_neg c, if_neg (by omega), show f.length + i - (f.length + h.length) = i - h.length by omega]
def dLas (h l : List Int) : PyData := .tuple [.tuple (h.map PyData.int), .tuple (l.map PyData.int)]
theorem dp_las {K : PySem.W.Frag} {H : Hp} {p : Addr} {h l : List Int} (x : Las H p h l) : Dp K H (.ref p) (dLas h l) := by
  obtain ⟨a, b, e1, e2, e3⟩ := x
  exact .tup (.of e1) (.cons (dp_tup e2) (.cons (dp_tup e3) .nil))
theorem shaped_las (h l : List Int) : SeqAt.shaped (dLas h l) = true := by
  unfold SeqAt.shaped dLas
  rw [PyData.canLay0, PyData.canLayAll0, PyData.canLayAll0, PyData.canLayAll0, PyData.canLay0, layAll, PyData.canLay0, layAll, PyData.depth, PyData.depthAll, PyData.depthAll, PyData.depthAll, PyData.depth, depAll, PyData.depth, depAll]
  rfl
theorem eqv_las (h l : List Int) : PyData.eqv (dLas h l) (dLas h l) = true := by
  unfold dLas
  rw [PyData.eqv, PyData.eqvAll, PyData.eqvAll, PyData.eqvAll, eqv_tup, eqv_tup]
  simp
def spCell (K : PySem.W.Frag) : Sp := fun vs H Q _ => ∃ (a : Addr) (ns : List Int) (k : Nat), vs = [.ref a, .int k] ∧ SqL K H a (ns.map V.int) ∧ ∀ v : Int, Q (.int v) H
def spNegX (C : Addr) : Sp := fun vs H _ E => ∃ (p : Addr) (t : Int), vs = [.ref p, .int t] ∧ t < 0 ∧ E (.ref C) none H
def spRefuses : Sp := fun vs H Q _ => ∃ (p : Addr) (t : Int), vs = [.ref p, .int t] ∧ t < 0 ∧ Q (.bl true) H
def spSame : Sp := fun vs H Q _ => ∃ (p q : Addr) (h l h2 l2 : List Int), vs = [.ref p, .ref q] ∧ Pr H p h l ∧ Pr H q h2 l2 ∧ l ≠ [] ∧ l2 ≠ [] ∧ dfn h l h2 l2 ≤ 1000000 ∧ (∀ t, wat h l t = wat h2 l2 t) ∧ Q (.bl true) H
def spMakeX (cE cL : Addr) : Sp := fun vs H Q E => ∃ (a b : Addr) (h l : List Int), vs = [.ref a, .ref b] ∧ H a = some (.lst (h.map V.int)) ∧ H b = some (.lst (l.map V.int)) ∧ h.length ≤ 100000 ∧ l.length ≤ 100000 ∧
  (l = [] → E (.ref cE) none H) ∧ (l ≠ [] → (∃ x, (x ∈ h ∨ x ∈ l) ∧ x < 0) → E (.ref cL) none H) ∧
  (l ≠ [] → (∀ x, x ∈ h ∨ x ∈ l → 0 ≤ x) → ∀ (H' : Hp) (p : Addr) (h' l' : List Int), Same H H' → Las H' p h' l' → Short h l h' l' → Q (.ref p) H')
def spOut : Sp := fun vs H Q _ => ∃ (a b : Addr) (h l : List Int), vs = [.ref a, .ref b] ∧ H a = some (.lst (h.map V.int)) ∧ H b = some (.lst (l.map V.int)) ∧ h.length ≤ 100000 ∧ l.length ≤ 100000 ∧
  (l = [] → ∀ (H' : Hp) (p : Addr), Same H H' → H' p = some (.tup [.str "empty", .bl true]) → Q (.ref p) H') ∧
  (l ≠ [] → (∃ x, (x ∈ h ∨ x ∈ l) ∧ x < 0) → ∀ (H' : Hp) (p : Addr), Same H H' → H' p = some (.tup [.str "letter", .bl true]) → Q (.ref p) H') ∧
  (l ≠ [] → (∀ x, x ∈ h ∨ x ∈ l → 0 ≤ x) → ∀ (H' : Hp) (p q : Addr) (h' l' : List Int), Same H H' → H' p = some (.tup [.str "lasso", .ref q]) → Las H' q h' l' → Short h l h' l' → Q (.ref p) H')
theorem neg_cases (h l : List Int) : (∃ x, (x ∈ h ∨ x ∈ l) ∧ x < 0) ∨ ∀ x, x ∈ h ∨ x ∈ l → 0 ≤ x := by
  by_cases c : ∃ x, (x ∈ h ∨ x ∈ l) ∧ x < 0
  · exact .inl c
  · exact .inr fun x hx => by
      rcases Int.lt_or_le x 0 with z | z
      · exact absurd ⟨x, hx, z⟩ c
      · exact z
def spIsInt : Sp := fun vs H Q _ => ∃ (i : Int), vs = [.int i] ∧ Q (.bl true) H
end Bx
/-! ### own errors, two levels below ValueError -/
namespace Bx
open PySem PySem.Spec PyProof.Rows L2
abbrev veB : List Value := [.type "ValueError", .type "Exception", .type "BaseException", .type "object"]
structure ErrC (K : PySem.W.Frag) (mg : Str → Option Value) (x : Str) (C : Addr) : Prop where
  g : mg x = some (.ref C)
  ex : PySem.W.excIn K C veB "ValueError.__new__" = true
  kp : PySem.W.keepIn K (.ref C) = true
  ty : PySem.W.typeIn K (.ref C) = some (.type "type")
  sf : PySem.W.subIn K (.ref C) (.ref C) = some true
  ec : ExcC K C
theorem ErrC.exm {K : PySem.W.Frag} {mg : Str → Option Value} {x : Str} {C : Addr} {cls : Value} {b : Bool} (e : ErrC K mg x C) (h : PySem.W.subIn K cls (.ref C) = some b) : PySem.W.exmOne K cls (.ref C) = some b := PySem.W.exm_ref e.ec.hs e.ec.hd e.ty h
theorem ErrC.me {K : PySem.W.Frag} {mg : Str → Option Value} {x : Str} {C : Addr} (e : ErrC K mg x C) : PySem.W.exmOne K (.ref C) (.ref C) = some true := e.exm e.sf
/-- raise X('..') -/
theorem ErrC.made {X : Cx} {C : Addr} {x m : Str} {j : Nat} {p p2 pos : Pos} (e : ErrC X.K X.mg x C) (hg : Gl X x) (hd : (x == ("__debug__" : Str)) = false := by decide) : PMk X (.Call (.Name x p) [.Constant (.str m) j p2] [] pos) (fun _ H Q => Q (.ref C) none H) :=
  pmk_own PySem.F.excBase_ValueError e.ex e.g e.kp (raises_own e.ec.hs e.ty) hg hd
/-- isinstance(e, c), e the exception that the suite holds -/
def rIsEx (K : PySem.W.Frag) (a : Addr) (cls : Value) (d : Option Addr) : List V → Hp → VK → Prop := fun xs H Q => ∃ D : Addr, cls = .ref D ∧ d = none ∧ ExcC K D ∧ rIsE K D a xs H Q
theorem call_isEx {X : Cx} {K : PySem.W.Frag} {a : Addr} {cls : Value} {d : Option Addr} {oe : Obj} {pn : List (Addr × Obj)} (h : X.K = K) (hz : Zc cls d oe) (hf : ∃ vs, oe.data = .fields vs) : CallR (X.suite a ((a, oe) :: pn)) (.builtin "isinstance") (rIsEx K a cls d) := by
  subst h
  intro pins s σ H xs us Q I r hw
  obtain ⟨D, rfl, rfl, C, hw⟩ := hw
  exact call_isE C hz hf pins s σ H xs us Q I r hw
/-- a def that may raise, by its name -/
structure CalX (P : Program) (w : World) (K : PySem.W.Frag) (mg : Str → Option Value) (base : Heap) (k : Nat) (x : Str) (sp : Sp) : Prop where
  ex : ∃ (f : Addr) (fd : FuncData) (ps : List Str), FnOk P w K mg base (L2.CX P w) k f fd ps sp ∧ mg x = some (.ref f) ∧ PySem.W.keepIn K (.ref f) = true ∧ Binds K fd ps []
theorem pe_cx {X : Cx} {k j : Nat} {x : Str} {sp : Sp} {W : WX} {p pos : Pos} {e : Expr} {es : List Expr} {t : TA} (c : CalX X.prog X.w X.K X.mg X.base k x sp) (hr : Room j X.A) (hk : k ≤ j) (tk : Takes X W) (hg : Gl X x) (ha : PA X (e :: es) t)
    (hdb : (x == ("__debug__" : Str)) = false := by decide) (he : starEach (e :: es) X.env = (false, eval e X.env) :: starEach es X.env := by rfl) (hpl : (backTo pos (starEach es X.env)).any (·.1) = false := by rfl) :
    PE X (.Call (.Name x p) (e :: es) [] pos) (tCallS sp (WE W) t) := by
  obtain ⟨f, fd, ps, F, hm, kp, b⟩ := c.ex
  exact pe_callS F (hr.mono hk) hg hm kp b (fun σ => passAt tk σ) ha hdb he hpl
end Bx
/-! ### several clauses, each with its name: own rule -/
namespace Bx
open PySem PySem.Spec PyProof.Rows L2
/-- what the clauses wish, one after the other: (class, the name's slot, the suite's reading) -/
def wAll (K : PySem.W.Frag) (Wo : WX) (D : Ends) : List (Value × Nat × (Addr → Value → Option Addr → TS)) → WX
  | [] => Wo
  | (c, i, ts) :: r => fun cls d σ H => ∃ b, PySem.W.exmOne K cls c = some b ∧
    (b = true → ∀ a, H a = none → ts a cls d { nx := fun σ' H' => D.nx (σ'.set i none) H', rt := D.rt, bk := fun σ' H' => D.bk (σ'.set i none) H', ct := fun σ' H' => D.ct (σ'.set i none) H' } (σ.set i (some (.ref a))) H) ∧
    (b = false → wAll K Wo D r cls d σ H)
inductive Clauses (Y : Cx) : List ExceptHandler → List (Value × Nat × (Addr → Value → Option Addr → TS)) → Prop
  | nil : Clauses Y [] []
  | cons {x n : Str} {c : Value} {i : Nat} {ts : Addr → Value → Option Addr → TS} {b0 : Stmt} {suite : List Stmt} {p p' : Pos} {cs : List ExceptHandler} {l : List (Value × Nat × (Addr → Value → Option Addr → TS))}
      (hc : Names Y x c) (hi : Y.N[i]? = some n) (hl : Y.env.kindOf n = some .local)
      (su : ∀ (a : Addr) (oe : Obj) (cls : Value) (d : Option Addr) (pn : List (Addr × Obj)), Zc cls d oe → (∃ vs, oe.data = .fields vs) → PSs (Y.suite a ((a, oe) :: pn)) (b0 :: suite) (ts a cls d)) (r : Clauses Y cs l) :
      Clauses Y (.ExceptHandler (some (.Name x p)) (some n) (b0 :: suite) p' :: cs) ((c, i, ts) :: l)
theorem ps_try_all {Y : Cx} {body : List Stmt} {c0 : ExceptHandler} {cs : List ExceptHandler} {l : List (Value × Nat × (Addr → Value → Option Addr → TS))} {pos : Pos} {tb : WX → TS} {Wo : WX}
    (ks : Y.stack = Y.env :: Y.outer) (kf : Y.env.frame = some Y.env.locals) (kN : Y.N.Nodup) (tk : Takes Y Wo)
    (kb : ∀ (W : WX) (pn : List (Addr × Obj)) (xe : Value → Shared → Prop), Takes (Y.tr pn xe) W → PassesOwn (model Y.prog Y.w) Y.A Y.env xe → PSs (Y.tr pn xe) body (tb W))
    (kh : Clauses Y (c0 :: cs) l) : PS Y (.Try body (c0 :: cs) [] [] pos) (fun D σ H => tb (wAll Y.K Wo D l) D σ H) := by
  refine ⟨fun pins u σ H D I hw => ?_⟩
  have okY := I.ok
  have fr := okY.frames
  rw [ks] at fr
  refine wpAny_Try_except ?_
  refine wpAny_mono ((kb (wAll Y.K Wo D l) (Y.pn ++ pins) (fun e u1 => wpAny (model Y.prog Y.w) Y.A (noteFrame e Y.env) (fun _ u2 => wpAny (model Y.prog Y.w) Y.A (setFlight e none) (fun _ u3 =>
    wpAny (model Y.prog Y.w) Y.A (handleBy e Y.env (c0 :: cs)) (SP Y pins D) Y.xe u3) Y.xe u2) Y.xe u1) (fun v g xx => ?_) PassesOwn.looking).run [] u σ H D (I.toTry _) hw) (fun f u1 q => ?_) (fun e u1 q => q)
  · obtain ⟨a, B, sI, pins1, σ1, H1, cls, d, rfl, Jt, nb, up, sk, na, os, ag, w⟩ := xx
    have J : Inv Y pins σ1 H1 sI := Jt.ofTry okY
    have sk1 : Sky B (Y.env :: Y.outer) a (Zc cls d) Y.env.locals g.heap := by rw [← ks]; exact sk
    show wpAny (model Y.prog Y.w) Y.A (noteFrame (.ref a) Y.env) _ _ _
    refine Sky.land Zc.steady fr kf sk1 fun g3 f3 u3 => ?_
    have I3 : Inv Y pins σ1 H1 { g with heap := g3 } := J.landed nb f3.1 (up.trans u3) os ag
    obtain ⟨o3, w3, at3, z3, dt3⟩ := f3.there
    have apart : ∀ {t : Heap} {o : Obj} {vs : Array Value}, t.FunFrames B (Y.env :: Y.outer) → t.get? a = some o → o.data = .fields vs → a ∉ frs (Y.env :: Y.outer) := fun {t o vs} ff e dd hm => by
      obtain ⟨_, o2, e2, q2⟩ := ff.mem hm
      rw [e] at e2
      cases e2
      exact q2 _ dd
    have n0 := apart f3.2.2.1 at3 dt3
    have nL : a ≠ Y.env.locals := fun z => n0 (List.mem_filterMap.mpr ⟨Y.env, List.mem_cons_self, by rw [kf, z]⟩)
    have nF : a ∉ Y.fs := fun hm => by
      obtain ⟨e, he, q⟩ := List.mem_filterMap.mp hm
      exact n0 (List.mem_filterMap.mpr ⟨e, List.mem_cons_of_mem _ he, q⟩)
    have T3 := I3.suite at3 dt3 na nL nF
    have all : ∀ {cs2 : List ExceptHandler} {l2 : List (Value × Nat × (Addr → Value → Option Addr → TS))}, Clauses Y cs2 l2 → wAll Y.K Wo D l2 cls d σ1 H1 →
        wpAny (model Y.prog Y.w) Y.A (handleBy (.ref a) Y.env cs2) (SP Y pins D) Y.xe { g with heap := g3 } := by
      intro cs2 l2 hk
      induction hk with
      | nil =>
        intro w
        refine wpAny_handleBy_nil ?_
        obtain ⟨_, _, _, oe, vs, T, oT, t2, he, hz, hd, h1, _⟩ := id f3
        unfold PySem.passOn
        refine wpAny_bind (wpAny_field he hd h1 ?_)
        rw [if_neg (show ¬ ((Value.ref T == Value.none) = true) from by simp)]
        have away : wpAny (model Y.prog Y.w) Y.A (setFlight (.ref a) Y.env.frame) (fun _ u4 => wpAny (model Y.prog Y.w) Y.A (throw (.ref a) : Sem Flow) (SP Y pins D) Y.xe u4) Y.xe { g with heap := g3 } := by
          rw [kf]
          refine HandSPX.setFlight_upZ f3 fun g4 q4 u4 => wpAny_throw (tk _ _ ?_)
          exact ⟨a, B, sI, pins, σ1, H1, cls, d, rfl, J, nb, (up.trans u3).trans u4, .inr (.inr (by rw [ks]; exact q4)), na, os, ag, w⟩
        first
          | exact wpAny_bind (wpAny_pure (wpAny_bind away))
          | exact wpAny_bind away
      | @cons x n c i ts b0 suite p p' cs3 l3 hc hi hl su r ih =>
        intro w
        obtain ⟨b, e1, yes, no⟩ := w
        refine wpAny_handleBy_cons (codeAny_handlers_test ?_) (by intro q; cases q)
        have LT : PySem.W.Looks (model Y.prog Y.w) g3 (typeOf (.ref a)) cls := fun A Q E s k q => wpAny_typeOf_ref (k _ _ at3) (by rw [z3.1]; exact q)
        have LM := PySem.W.exm_one (M := model Y.prog Y.w) (I3.kIn) LT e1
        have test : ∀ {Q : Value → Shared → Prop} {E : Value → Shared → Prop}, Q c { g with heap := g3 } → wpAny (model Y.prog Y.w) (Y.A.mark (some (.ref a))) (eval (.Name x p) Y.env) Q E { g with heap := g3 } := fun {Q E} q => by
          obtain ⟨hg, hdb, hm | ⟨hm, hv, hnn⟩⟩ := hc
          · exact ld_glob (X := Y.suite a ((a, o3) :: (Y.pn ++ pins))) T3 hg hm q hdb
          · exact ld_blt (X := Y.suite a ((a, o3) :: (Y.pn ++ pins))) T3 hg hm hv q hnn hdb
        refine test (LM.here ?_)
        cases b with
        | true =>
          refine codeAny_handlers_suite_as ?_
          refine HandSPX.lands_againZ f3 fun g4 f4 u4 => ?_
          have I4 : Inv Y pins σ1 H1 { g with heap := g4 } := J.landed nb f4.1 ((up.trans u3).trans u4) os ag
          obtain ⟨o4, w4, at4, z4, dt4⟩ := f4.there
          have T4 := I4.suite at4 dt4 na nL nF
          refine store_ok (X := Y.suite a ((a, o4) :: (Y.pn ++ pins))) (v := .ref a) T4 kN hi (.inl hl) rfl (fun u5 T5 => ?_) (.inr hl)
          refine wpAny_mono ((su a o4 cls d (Y.pn ++ pins) z4 ⟨_, dt4⟩).run [] u5 _ H1 _ T5 (yes rfl a na)) (fun f u6 q => ?_) (fun _ _ z => False.elim z)
          have fin : ∀ {σ6 : L2.St} {H6 : Hp} {Q : Shared → Prop}, Inv (Y.suite a ((a, o4) :: (Y.pn ++ pins))) [] σ6 H6 u6 → (∀ u7, Inv Y pins (σ6.set i none) H6 u7 → Q u7) →
              wpAny (model Y.prog Y.w) Y.A (do bindName Y.env n .none; unbindBehindTheSuite Y.env n p') (fun _ u7 => Q u7) Y.xe u6 := fun {σ6 H6 Q} T6 hq => gone_ok (T6.unsuite okY) kN hi hl hq
          cases f with
          | next =>
            obtain ⟨_, _, T6, q6⟩ := q
            exact fin T6 fun _ I7 => ⟨_, _, I7, q6⟩
          | brk =>
            obtain ⟨_, _, T6, q6⟩ := q
            exact fin T6 fun _ I7 => ⟨_, _, I7, q6⟩
          | cont =>
            obtain ⟨_, _, T6, q6⟩ := q
            exact fin T6 fun _ I7 => ⟨_, _, I7, q6⟩
          | ret v =>
            obtain ⟨_, _, _, T6, r6, q6⟩ := q
            exact fin T6 fun _ I7 => ⟨_, _, _, I7, r6, q6⟩
        | false =>
          show wpAny _ Y.A (handleBy (.ref a) Y.env cs3) _ _ _
          exact ih (no rfl)
    exact all kh w
  · cases f with
    | next =>
      obtain ⟨_, _, J1, q1⟩ := q
      exact wpAny_execs_nil ⟨_, _, J1.ofTry okY, q1⟩
    | brk =>
      obtain ⟨_, _, J1, q1⟩ := q
      exact ⟨_, _, J1.ofTry okY, q1⟩
    | cont =>
      obtain ⟨_, _, J1, q1⟩ := q
      exact ⟨_, _, J1.ofTry okY, q1⟩
    | ret v =>
      obtain ⟨_, _, _, J1, r1, q1⟩ := q
      exact ⟨_, _, _, J1.ofTry okY, r1, q1⟩
end Bx
/-! ### max of a tuple of ints, lcm: own rules -/
namespace MaxT
open PySem PySem.W PyProof.Rows
section
variable {prog : Program} {w : World} {A : Around} {E : Value → Shared → Prop} {s : Shared}
theorem walkT {l : Addr} {xs : Array (Int × Tok)} {Q : Value → Shared → Prop} (hh : A.handled = none) (ht : s.heap.IsTuple l (intItems xs)) (hne : 0 < xs.size)
    (h : ∀ v g tk, (intItems xs)[argBest (fun i j => decide (numAt xs i > numAt xs j)) (xs.size - 1)]? = some v → (∀ b o, s.heap.get? b = some o → g.get? b = some o) → Q v { s with heap := g, toks := tk }) :
    wpAny (model prog w) A (call (.builtin "max") [.ref l]) Q E s := by
  have ll : l < s.heap.objs.size := by
    obtain ⟨_, e, _⟩ := ht
    exact Heap.lt_size e
  refine call_max_walk (wpAny_pyIter_tuple ht ?_)
  refine ⟨_, _, _, _, _, _, _, rfl, Walks.tuple (A := A.in1) hh _ l (Nat.ne_of_lt ll) (intItems xs), ⟨⟨_, Heap.get?_push_size _ rfl, rfl, rfl⟩, ht.push _⟩, fun c hc => ?_, by simpa [intItems] using hne, CmpOf.ints_gt (numAt xs) (fun _ _ => intItems_at), fun v g tk hP hk => ?_⟩
  · show c < (s.heap.push _).objs.size
    rw [Heap.size_push]
    rcases List.mem_cons.mp hc with rfl | hc
    · exact Nat.lt_succ_self _
    · rcases List.mem_cons.mp hc with rfl | hc
      · exact Nat.lt_succ_of_lt ll
      · cases hc
  · refine h v g tk (by simpa [intItems] using hP) fun b o e => hk b o (fun hm => ?_) (Heap.get?_push_of_some _ e)
    have e1 : b = s.heap.objs.size := List.mem_singleton.mp hm
    rw [e1] at e
    exact absurd (Heap.lt_size e) (Nat.lt_irrefl _)
theorem rawT {l : Addr} {its : List Value} {ns : List Int} {Q : Value → Shared → Prop} (hh : A.handled = none) (hl : IsTup s.heap l its.toArray) (hi : IntsAre its ns) (hne : ns ≠ [])
    (h : ∀ (g : Heap) (tk : Nat) (m : Int) (t' : Tok), (∀ b o, s.heap.get? b = some o → g.get? b = some o) → m ∈ ns → (∀ y ∈ ns, y ≤ m) → Q (.int m t') { s with heap := g, toks := tk }) :
    wpAny (model prog w) A (call (.builtin "max") [.ref l]) Q E s := by
  obtain ⟨xs, e⟩ := hi.allInts.items
  have hn : numsOf (intItems xs).toList = ns := by rw [← e]; exact hi.numsOf
  rw [PySem.nums_intItems] at hn
  subst hn
  rw [e] at hl
  have c : 0 < xs.size := by
    rcases Nat.eq_zero_or_pos xs.size with z | z
    · refine absurd ?_ hne
      have : xs = #[] := Array.eq_empty_of_size_eq_zero z
      rw [this]
      rfl
    · exact z
  refine walkT hh hl c fun v g tk p1 keep => ?_
  obtain ⟨u, rfl⟩ := intItems_at p1
  obtain ⟨a1, a2⟩ := argBest_gt (numAt xs) (xs.size - 1)
  refine h g tk _ u keep ?_ fun y hy => ?_
  · rw [PySem.numAt_eq]
    refine PySem.getD_mem ?_
    rw [List.length_map, Array.length_toList]
    exact Nat.lt_of_le_of_lt a1 (by omega)
  · obtain ⟨j, hj, rfl⟩ := PySem.mem_getD hy
    rw [List.length_map, Array.length_toList] at hj
    rw [← PySem.numAt_eq]
    exact a2 j (by omega)
end
end MaxT
namespace Bx
open PySem PySem.Spec PyProof.Rows L2
def rMaxT (K : PySem.W.Frag) : List V → Hp → VK → Prop := fun xs H Q => ∃ (a : Addr) (ns : List Int), xs = [.ref a] ∧ SqT K H a (ns.map V.int) ∧ ns ≠ [] ∧ ∀ m, m ∈ ns → (∀ y ∈ ns, y ≤ m) → Q (.int m) H
theorem call_maxT {X : Cx} {K : PySem.W.Frag} (h : X.K = K) (hc : X.calm = true) : CallR X (.builtin "max") (rMaxT K) := by
  subst h
  intro pins s σ H xs us Q I r hw
  obtain ⟨a, ns, rfl, hs, hne, q⟩ := hw
  obtain ⟨its, rv, ht, _⟩ := I.tuple hs
  rw [Vals.ref1 r]
  exact MaxT.rawT (I.ok.hd hc) ht rv.ints hne fun g tk m t' hk h1 h2 => ⟨.int m, H, I.kept hk, ⟨_, rfl⟩, q m h1 h2⟩
theorem call_maxK {X : Cx} {K : PySem.W.Frag} (h : X.K = K) (hc : X.calm = true) : CallR X (.builtin "max") (rMax K) := by
  subst h
  exact cr_max hc
def spCheckX (cL : Addr) : Sp := fun vs H Q E => ∃ (p : Addr) (h l : List Int) (n : Int), vs = [.ref p, .int n] ∧ Las H p h l ∧ l ≠ [] ∧ h.length ≤ 1000 ∧ l.length ≤ 1000 ∧
  ((∃ x, (x ∈ h ∨ x ∈ l) ∧ n ≤ x) → ∀ H', Same H H' → E (.ref cL) none H') ∧ ((∀ x, x ∈ h ∨ x ∈ l → x < n) → ∀ H', Same H H' → Q .non H')
end Bx
/-! ### lists of lists, instances made in a try: own rules -/
namespace Bx
open PySem PySem.Spec PyProof.Rows L2
section
variable {X : Cx}
theorem pi_or {tg iter : Expr} {w1 w2 : TI} (h1 : PI X tg iter w1) (h2 : PI X tg iter w2) : PI X tg iter (fun σ H R => w1 σ H R ∨ w2 σ H R) := ⟨fun pins s σ H R I h => by
  rcases h with h | h
  · exact h1.run pins s σ H R I h
  · exact h2.run pins s σ H R I h⟩
theorem passF {P : Program} {w : World} : Passes (L2.CX P w) X (fun _ _ _ => False) := fun _ _ _ _ _ _ _ h => by
  obtain ⟨_, _, _, _, _, _, _, _, _, _, _, _, z⟩ := h
  exact z.elim
/-- a new instance of an own class whose __init__ may raise -/
structure MakX (P : Program) (w : World) (K : PySem.W.Frag) (mg : Str → Option Value) (base : Heap) (k : Nat) (x : Str) (C : Addr) (sp : Sp) : Prop where
  ex : ∃ (f : Addr) (fd : FuncData) (ps : List Str), Mk K C f ∧ FnOk P w K mg base (L2.CX P w) k f fd ps sp ∧ mg x = some (.ref C) ∧ Binds K fd ps []
def tMakX (C : Addr) (sp : Sp) (E : L2.St → XK) (t : TA) : TE := fun σ H Q => t σ H fun vs H1 => ∀ x dx, H1 x = none → H1 dx = none → dx ≠ x → sp (.ref x :: vs) (upd (upd H1 dx (.own x)) x (.ins C dx [])) (fun v H2 => v = .non ∧ Q (.ref x) H2) (E σ)
theorem made_at {k : Nat} {f C : Addr} {fd : FuncData} {ps : List Str} {sp : Sp} {E : XK} {pins : List (Addr × Obj)} {σ : L2.St} {H : Hp} {u : Shared} {Q : VK} {us : List Value} {vs : List V} (M : Mk X.K C f) (F : FnOk X.prog X.w X.K X.mg X.base (L2.CX X.prog X.w) k f fd ps sp) (hr : Room (k + 1) X.A) (hb : Binds X.K fd ps [])
    (hx : PassesAt (L2.CX X.prog X.w) X σ E) (I : Inv X pins σ H u) (r : Vals vs us)
    (h : ∀ x dx, H x = none → H dx = none → dx ≠ x → sp (.ref x :: vs) (upd (upd H dx (.own x)) x (.ins C dx [])) (fun v H2 => v = .non ∧ Q (.ref x) H2) E) :
    wpAny (model X.prog X.w) X.A (call (.ref C) us) (EP X pins σ Q) X.xe u := by
  have q0 := h (u.heap.objs.size + 1) u.heap.objs.size (I.hok.fresh (Nat.le_succ _)) (I.hok.fresh (Nat.le_refl _)) (Nat.ne_of_lt (Nat.lt_succ_self _))
  have J := Inv.made (C := C) I
  have r2 : Vals (V.ref (u.heap.objs.size + 1) :: vs) (Value.ref (u.heap.objs.size + 1) :: us) := .cons rfl r
  have hl : (Value.ref (u.heap.objs.size + 1) :: us ++ []).length = ps.length := by
    have e := r2.length
    rw [F.len _ _ _ _ q0] at e
    rw [List.append_nil]
    exact e.symm
  refine wpAny_call (make_map (f := f) I.kIn M.makes M.init (beq_iff_eq.mp M.fn) (codeAny_mono (F.run _ X.stack _ _ ⟨Value.ref (u.heap.objs.size + 1) :: us, []⟩ (Value.ref (u.heap.objs.size + 1) :: us) _ _ E (hr.make C us [])
    (J.env0.make C us []) (by have q := hb _ (Value.ref (u.heap.objs.size + 1) :: us) J.kIn hl; rw [List.append_nil] at q; exact q) r2 q0) fun r u' hq => ?_))
  cases r with
  | error e => exact hx pins _ _ e u' J hq
  | ok fl =>
    cases fl with
    | ret v =>
      obtain ⟨y, G, J3, ry, ey, qy⟩ := J.after hq
      subst ey
      exact ⟨ry, ⟨V.ref (u.heap.objs.size + 1), G, J3, rfl, qy⟩⟩
    | next => exact False.elim hq
    | brk => exact False.elim hq
    | cont => exact False.elim hq
theorem pe_makeX {k j : Nat} {C : Addr} {x : Str} {sp : Sp} {W : WX} {p pos : Pos} {e : Expr} {es : List Expr} {t : TA} (c : MakX X.prog X.w X.K X.mg X.base k x C sp) (hr : Room j X.A) (hk : k + 1 ≤ j) (tk : Takes X W) (hg : Gl X x) (ha : PA X (e :: es) t)
    (hdb : (x == ("__debug__" : Str)) = false := by decide) (he : starEach (e :: es) X.env = (false, eval e X.env) :: starEach es X.env := by rfl) (hpl : (backTo pos (starEach es X.env)).any (·.1) = false := by rfl) :
    PE X (.Call (.Name x p) (e :: es) [] pos) (tMakX C sp (WE W) t) := by
  obtain ⟨f, fd, ps, M, F, hm, b⟩ := c.ex
  refine ⟨fun pins u σ H Q I hw => ?_⟩
  refine wpAny_Call_Name_kw (ld_glob I hg hm ?_ hdb)
  refine PySem.W.callWith_K (h₀ := X.base) I.ok.mod.kin M.kp (thn (ha.run pos pins u σ H _ I hw) fun us u1 ⟨vs, H1, I1, rv, qv⟩ => ⟨I1.kIn, ?_⟩) he hpl
  exact made_at M F (hr.mono hk) b (passAt tk σ) I1 rv qv
theorem pe_makeN {k j : Nat} {C : Addr} {x : Str} {sp : Sp} {p pos : Pos} {e : Expr} {es : List Expr} {t : TA} (c : MakX X.prog X.w X.K X.mg X.base k x C sp) (hr : Room j X.A) (hk : k + 1 ≤ j) (hg : Gl X x) (ha : PA X (e :: es) t)
    (hdb : (x == ("__debug__" : Str)) = false := by decide) (he : starEach (e :: es) X.env = (false, eval e X.env) :: starEach es X.env := by rfl) (hpl : (backTo pos (starEach es X.env)).any (·.1) = false := by rfl) :
    PE X (.Call (.Name x p) (e :: es) [] pos) (tMakX C sp (fun _ => fun _ _ _ => False) t) := by
  obtain ⟨f, fd, ps, M, F, hm, b⟩ := c.ex
  refine ⟨fun pins u σ H Q I hw => ?_⟩
  refine wpAny_Call_Name_kw (ld_glob I hg hm ?_ hdb)
  refine PySem.W.callWith_K (h₀ := X.base) I.ok.mod.kin M.kp (thn (ha.run pos pins u σ H _ I hw) fun us u1 ⟨vs, H1, I1, rv, qv⟩ => ⟨I1.kIn, ?_⟩) he hpl
  exact made_at M F (hr.mono hk) b (fun pins G v e v' J q => passF pins σ G v e v' J q) I1 rv qv
end
/-! rows of ints -/
def RowsA (mk : List V → HO) (H : Hp) : List Addr → List (List Int) → Prop
  | [], [] => True
  | a :: as, r :: rs => H a = some (mk (r.map V.int)) ∧ RowsA mk H as rs
  | _, _ => False
def RowsQ (H : Hp) : List Addr → List (List Int) → Prop
  | [], [] => True
  | a :: as, r :: rs => SeqI H a r ∧ RowsQ H as rs
  | _, _ => False
theorem RowsA.keep {mk : List V → HO} {H H' : Hp} : ∀ {as : List Addr} {rs : List (List Int)}, (∀ b o, b ∈ as → H b = some o → H' b = some o) → RowsA mk H as rs → RowsA mk H' as rs
  | [], [], _, _ => True.intro
  | a :: as, r :: rs, k, h => ⟨k a _ List.mem_cons_self h.1, RowsA.keep (fun b o hb => k b o (List.mem_cons_of_mem _ hb)) h.2⟩
  | [], _ :: _, _, h => h.elim
  | _ :: _, [], _, h => h.elim
theorem RowsA.same {mk : List V → HO} {H H' : Hp} {as : List Addr} {rs : List (List Int)} (k : Same H H') (h : RowsA mk H as rs) : RowsA mk H' as rs := h.keep fun b o _ e => k b o e
theorem RowsA.len {mk : List V → HO} {H : Hp} : ∀ {as : List Addr} {rs : List (List Int)}, RowsA mk H as rs → as.length = rs.length
  | [], [], _ => rfl
  | a :: as, r :: rs, h => congrArg (· + 1) h.2.len
  | [], _ :: _, h => h.elim
  | _ :: _, [], h => h.elim
theorem RowsA.snoc {mk : List V → HO} {H : Hp} {a : Addr} {r : List Int} (ha : H a = some (mk (r.map V.int))) : ∀ {as : List Addr} {rs : List (List Int)}, RowsA mk H as rs → RowsA mk H (as ++ [a]) (rs ++ [r])
  | [], [], _ => ⟨ha, True.intro⟩
  | b :: as, q :: rs, h => ⟨h.1, h.2.snoc ha⟩
  | [], _ :: _, h => h.elim
  | _ :: _, [], h => h.elim
theorem RowsA.get {mk : List V → HO} {H : Hp} : ∀ {as : List Addr} {rs : List (List Int)} {i : Nat} {a : Addr}, RowsA mk H as rs → as[i]? = some a → ∃ r, rs[i]? = some r ∧ H a = some (mk (r.map V.int))
  | [], _, _, _, _, e => by simp at e
  | b :: as, [], _, _, h, _ => h.elim
  | b :: as, q :: rs, 0, a, h, e => by
    have : b = a := Option.some.inj e
    subst this
    exact ⟨q, rfl, h.1⟩
  | b :: as, q :: rs, i + 1, a, h, e => RowsA.get (i := i) h.2 e
theorem RowsA.q1 {H : Hp} : ∀ {as : List Addr} {rs : List (List Int)}, RowsA .lst H as rs → RowsQ H as rs
  | [], [], _ => True.intro
  | a :: as, r :: rs, h => ⟨.inl h.1, h.2.q1⟩
  | [], _ :: _, h => h.elim
  | _ :: _, [], h => h.elim
theorem RowsA.q2 {H : Hp} : ∀ {as : List Addr} {rs : List (List Int)}, RowsA .tup H as rs → RowsQ H as rs
  | [], [], _ => True.intro
  | a :: as, r :: rs, h => ⟨.inr h.1, h.2.q2⟩
  | [], _ :: _, h => h.elim
  | _ :: _, [], h => h.elim
theorem RowsQ.same {H H' : Hp} (k : Same H H') : ∀ {as : List Addr} {rs : List (List Int)}, RowsQ H as rs → RowsQ H' as rs
  | [], [], _ => True.intro
  | a :: as, r :: rs, h => ⟨h.1.same k, h.2.same k⟩
  | [], _ :: _, h => h.elim
  | _ :: _, [], h => h.elim
theorem RowsQ.len {H : Hp} : ∀ {as : List Addr} {rs : List (List Int)}, RowsQ H as rs → as.length = rs.length
  | [], [], _ => rfl
  | a :: as, r :: rs, h => congrArg (· + 1) h.2.len
  | [], _ :: _, h => h.elim
  | _ :: _, [], h => h.elim
theorem RowsQ.get {H : Hp} : ∀ {as : List Addr} {rs : List (List Int)} {i : Nat} {a : Addr}, RowsQ H as rs → as[i]? = some a → ∃ r, rs[i]? = some r ∧ SeqI H a r
  | [], _, _, _, _, e => by simp at e
  | b :: as, [], _, _, h, _ => h.elim
  | b :: as, q :: rs, 0, a, h, e => by
    have : b = a := Option.some.inj e
    subst this
    exact ⟨q, rfl, h.1⟩
  | b :: as, q :: rs, i + 1, a, h, e => RowsQ.get (i := i) h.2 e
/-- a list or a tuple of any values -/
def SeqV (H : Hp) (a : Addr) (xs : List V) : Prop := H a = some (.lst xs) ∨ H a = some (.tup xs)
theorem SeqV.same {H H' : Hp} {a : Addr} {xs : List V} (k : Same H H') (h : SeqV H a xs) : SeqV H' a xs := by
  rcases h with h | h
  · exact .inl (k _ _ h)
  · exact .inr (k _ _ h)
theorem SeqV.sq {K : PySem.W.Frag} {H : Hp} {a : Addr} {xs : List V} (h : SeqV H a xs) : SqL K H a xs ∨ SqT K H a xs := by
  rcases h with h | h
  · exact .inl (.of h)
  · exact .inr (.of h)
def iSeq (K : PySem.W.Frag) (te : TE) : TI := fun σ H R => iList K te σ H R ∨ iTup K te σ H R
theorem pi_seq {X : Cx} {K : PySem.W.Frag} {tg e : Expr} {te : TE} (h : X.K = K) (he : PE X e te) : PI X tg e (iSeq K te) := by
  subst h
  exact pi_or (pi_list he) (pi_tup he)
theorem for_seq {K : PySem.W.Frag} {i : Nat} {a : Addr} {xs : List V} {g : TG} {tb : TS} {D : Ends} {σ : L2.St} {H : Hp} (hv : σ[i]? = some (some (.ref a))) (hq : SeqV H a xs) (Pv : Nat → L2.St → Hp → Prop) (h0 : Pv 0 σ H) (hS : ∀ i σ' H', Pv i σ' H' → Same H H')
    (hs : ∀ i x σ H, xs[i]? = some x → Pv i σ H → g x σ H fun σ2 H2 => tb { D with nx := Pv (i + 1), ct := Pv (i + 1), bk := D.nx } σ2 H2) (hd : ∀ σ H, Pv xs.length σ H → D.nx σ H) : tFor (iSeq K (tVar i)) g tb D σ H := by
  rcases hq with h | h
  · exact .inl ⟨_, hv, a, rfl, ⟨_, .of h⟩, for_list Pv h0 (fun i σ' H' _ p => .of (hS i σ' H' p _ _ h)) hs hd⟩
  · exact .inr ⟨_, hv, a, rfl, ⟨_, .of h⟩, for_tup Pv h0 (fun i σ' H' _ p => .of (hS i σ' H' p _ _ h)) hs hd⟩
/-- a list of lists of ints -/
def LL (H : Hp) (r : Addr) (as : List Addr) (rows : List (List Int)) : Prop := H r = some (.lst (as.map V.ref)) ∧ RowsA .lst H as rows
def Vld (L s : Int) (ps : List Int) (rows : List (List Int)) : Prop := 1 ≤ L ∧ rows ≠ [] ∧ ps.length = rows.length ∧ (0 ≤ s ∧ s < (rows.length : Int)) ∧ (∀ r ∈ rows, (r.length : Int) = L ∧ ∀ x ∈ r, 0 ≤ x ∧ x < (rows.length : Int)) ∧ ∀ p ∈ ps, 0 ≤ p
/-- the fields of a parity automaton, as they are stored -/
def pf (L s : Int) (pt rt : Addr) : List (Str × V) := putF "rows" (.ref rt) (putF "priorities" (.ref pt) (putF "start" (.int s) (putF "letters" (.int L) [])))
theorem putF_len (f : Str) (v : V) : ∀ fs : List (Str × V), (putF f v fs).length ≤ fs.length + 1
  | [] => Nat.le_refl _
  | (g, x) :: r => by
    unfold putF
    by_cases c : g = f
    · rw [if_pos c]
      exact Nat.le_succ _
    · rw [if_neg c]
      exact Nat.succ_le_succ (putF_len f v r)
theorem pf_L (L s : Int) (pt rt : Addr) : (pf L s pt rt).lookup ("letters" : Str) = some (.int L) := by
  unfold pf
  rw [lookup_putF, if_neg (by decide +kernel), lookup_putF, if_neg (by decide +kernel), lookup_putF, if_neg (by decide +kernel), lookup_putF, if_pos rfl]
theorem pf_s (L s : Int) (pt rt : Addr) : (pf L s pt rt).lookup ("start" : Str) = some (.int s) := by
  unfold pf
  rw [lookup_putF, if_neg (by decide +kernel), lookup_putF, if_neg (by decide +kernel), lookup_putF, if_pos rfl]
theorem pf_p (L s : Int) (pt rt : Addr) : (pf L s pt rt).lookup ("priorities" : Str) = some (.ref pt) := by
  unfold pf
  rw [lookup_putF, if_neg (by decide +kernel), lookup_putF, if_pos rfl]
theorem pf_r (L s : Int) (pt rt : Addr) : (pf L s pt rt).lookup ("rows" : Str) = some (.ref rt) := by
  unfold pf
  rw [lookup_putF, if_pos rfl]
/-- a parity automaton at x -/
def ParAt (C : Addr) (H : Hp) (x : Addr) (L s : Int) (ps : List Int) (rows : List (List Int)) : Prop := ∃ (dx pt rt : Addr) (as : List Addr), H x = some (.ins C dx (pf L s pt rt)) ∧ TupI H pt ps ∧ H rt = some (.tup (as.map V.ref)) ∧ RowsA .tup H as rows
theorem ParAt.same {C : Addr} {H H' : Hp} {x : Addr} {L s : Int} {ps : List Int} {rows : List (List Int)} (k : Same H H') (h : ParAt C H x L s ps rows) : ParAt C H' x L s ps rows := by
  obtain ⟨dx, pt, rt, as, e1, e2, e3, e4⟩ := h
  exact ⟨dx, pt, rt, as, k _ _ e1, k _ _ e2, k _ _ e3, e4.same k⟩
/-- what the class has -/
structure ParC (K : PySem.W.Frag) (C : Addr) : Prop where
  cl : Cls K C
  nL : NoAttr K C "letters"
  nS : NoAttr K C "start"
  nP : NoAttr K C "priorities"
  nR : NoAttr K C "rows"
def spCheckS (cI : Addr) : Sp := fun vs H Q E => ∃ (z n : Int), vs = [.int z, .int n] ∧ (¬ (0 ≤ z ∧ z < n) → E (.ref cI) none H) ∧ ((0 ≤ z ∧ z < n) → Q .non H)
def spInitP (C cI : Addr) : Sp := fun vs H Q E => ∃ (x p r dx : Addr) (L s : Int) (ps : List Int) (as : List Addr) (rows : List (List Int)), vs = [.ref x, .int L, .int s, .ref p, .ref r] ∧ H x = some (.ins C dx []) ∧ H p = some (.lst (ps.map V.int)) ∧ SeqV H r (as.map V.ref) ∧ RowsQ H as rows ∧
  rows.length ≤ 1000 ∧ ps.length ≤ 1000 ∧ (∀ q ∈ rows, q.length ≤ 1000) ∧ (¬ Vld L s ps rows → E (.ref cI) none H) ∧ (Vld L s ps rows → ∀ H', Kp x H H' → ParAt C H' x L s ps rows → Q .non H')
end Bx

/-! ### own rules: a list extended by a tuple; a tuple's slice with a step -/
namespace Tx
open PySem PySem.Spec PyProof.Rows L2
section
variable {prog : Program} {w : World} {A : Around} {E : Value → Shared → Prop} {s : Shared}
set_option maxRecDepth 8000 in
theorem ext_tup (l b : Addr) (xs ys : Array Value) (n m : Nat) (dd : Option Addr) (sl : Array (Option Value)) (h0 : ¬(!xs.isEmpty && Builtin.List.listTooLong (xs.size + ys.size)) = true) (h1 : xs.size ≤ sizeLine) (h2 : xs.size + ys.size ≤ sizeLine + 1) :
    Meets (Builtin.«list.extend» ⟨[.ref l, .ref b], []⟩) (fun _ R s => s.heap.get? l = some { cls := .type "list", data := .seq xs n } ∧ s.heap.get? b = some { cls := .type "tuple", dict := dd, data := .seq ys m, slots := sl } ∧
      R (.ok (.ret Value.none)) { s with heap := s.heap.update l (Obj.mapSeq fun x => x ++ ys), toks := s.toks }) := .of_wp fun prog w A R s h => by
  obtain ⟨hp, g, d, tk, os⟩ := s
  obtain ⟨hl, hb, h⟩ := h
  have q1 := AutoSeq1.idx_int
  have q2 := AutoSeq1.sub_tuple_tuple
  have q3 := AutoSeq1.sub_list_list
  have q4 := AutoSeq1.sub_tuple_list
  have q5 := AutoSeq1.sub_list_tuple
  have hz : (xs ++ ys).size ≤ sizeLine + 1 := by
    rw [Array.size_append]
    exact h2
  wp_walk using (wpAny_updateSeq hl rfl (hz := h1) (_hz' := hz)), AutoSeq1.wpAny_loadPart' hl, AutoSeq1.wpAny_loadPart' hb
  exact ⟨_, rfl, h⟩
end
section
variable {X : Cx} {K : PySem.W.Frag}
def rExtT (K : PySem.W.Frag) : V → List V → Hp → VK → Prop := fun x vs H Q => ∃ l b xs zs, x = .ref l ∧ vs = [.ref b] ∧ H l = some (.lst xs) ∧ SqT K H b zs ∧ xs.length + zs.length ≤ sizeLine ∧ Q .non (upd H l (.lst (xs ++ zs)))
theorem mt_extT (hK : X.K = K) : MtM X "list.extend" (rExtT K) := by
  subst hK
  intro pins s σ H x vs v us Q I rx rv ⟨l, b, xs, zs, ex, ev, hH, hB, hz, q⟩
  subst ex
  subst ev
  cases rx
  obtain ⟨u, rfl, ru⟩ := rv.one
  cases ru
  obtain ⟨z, its, n, r, hl, e⟩ := I.lstM hH
  obtain ⟨its2, r2, ⟨⟨oc, od, ob, os⟩, e2, ec, m, eb⟩, z2⟩ := I.tuple hB
  have hl2 := r2.length
  dsimp only at ec eb
  subst ec
  subst eb
  have hs : its.toArray.size + its2.toArray.size ≤ sizeLine := by
    rw [List.size_toArray, List.size_toArray]
    omega
  refine call_meets F.slot_list_extend ⟨_, e, rfl⟩ F.entry_list_extend (F.args_list_extend_2 _ _) (ext_tup l b its.toArray its2.toArray n m od os (fun c => ?_) (by omega) (by omega)) ⟨e, e2, ?_⟩
  · rw [notLongL hs, Bool.and_false] at c
    cases c
  · refine ⟨.non, _, I.lset (its' := its ++ its2) hH e (by simp) (r.append r2) ?_, rfl, q⟩
    rw [List.length_append]
    omega
/-- the items that a slice with a step picks -/
def pk3 {α : Type} (xs : List α) (lo hi : Option Int) (c : Int) : List α :=
  (List.range (Builtin.Slice.slicePlaces (Builtin.Slice.sliceAdjust lo hi c xs.length).1 (Builtin.Slice.sliceAdjust lo hi c xs.length).2 c)).filterMap fun (k : Nat) => xs[((Builtin.Slice.sliceAdjust lo hi c xs.length).1 + (k : Int) * c).toNat]?
theorem pk3_vals {xs : List V} {us : List Value} (r : Vals xs us) (lo hi : Option Int) (c : Int) : Vals (pk3 xs lo hi c) (pk3 us lo hi c) := by
  unfold pk3
  rw [r.length]
  generalize List.range (Builtin.Slice.slicePlaces (Builtin.Slice.sliceAdjust lo hi c us.length).1 (Builtin.Slice.sliceAdjust lo hi c us.length).2 c) = ks
  generalize (Builtin.Slice.sliceAdjust lo hi c us.length).1 = b
  induction ks with
  | nil => exact .nil
  | cons k ks ih =>
    rw [List.filterMap_cons, List.filterMap_cons]
    cases e : xs[(b + (k : Int) * c).toNat]? with
    | none =>
      have : us[(b + (k : Int) * c).toNat]? = none := by
        rw [List.getElem?_eq_none_iff] at e ⊢
        rw [← r.length]
        exact e
      rw [this]
      exact ih
    | some x =>
      obtain ⟨u, e2, ru⟩ := Vals.get r e
      rw [e2]
      exact .cons ru ih
theorem pk3_len {α : Type} (xs : List α) (lo hi : Option Int) (c : Int) : (pk3 xs lo hi c).length ≤ Builtin.Slice.slicePlaces (Builtin.Slice.sliceAdjust lo hi c xs.length).1 (Builtin.Slice.sliceAdjust lo hi c xs.length).2 c := by
  unfold pk3
  refine Nat.le_trans (List.length_filterMap_le _ _) ?_
  rw [List.length_range]
  exact Nat.le_refl _
end
section
variable {prog : Program} {w : World} {A : Around} {E : Value → Shared → Prop} {s : Shared}
theorem applied3 {sl : Addr} {vl vu vs : Value} {lo hi : Option Int} {c : Int} {n : Nat} {Q : Int × Int × Nat → Shared → Prop} (hs : s.heap.IsSliceOf sl vl vu vs) (pl : IsPart vl lo) (pu : IsPart vu hi) (ps : IsPart vs (some c)) (hc : c ≠ 0)
    (h : Q ((Builtin.Slice.sliceAdjust lo hi c n).1, c, Builtin.Slice.slicePlaces (Builtin.Slice.sliceAdjust lo hi c n).1 (Builtin.Slice.sliceAdjust lo hi c n).2 c) s) :
    wpAny (model prog w) A (Builtin.Slice.sliceApplied (.ref sl) (pure (n : Int))) Q E s := by
  obtain ⟨ob, g1, _, g3⟩ := id hs
  unfold Builtin.Slice.sliceApplied Builtin.Slice.sliceFields
  refine wpAny_bind (wpAny_bind (wpAny_field g1 g3 (x := vl) rfl (wpAny_bind (wpAny_field g1 g3 (x := vu) rfl (wpAny_bind (wpAny_field g1 g3 (x := vs) rfl (wpAny_pure ?_)))))))
  refine wpAny_bind (HT.slicePart_ ps ?_)
  show wpAny _ _ (if (c == 0) = true then _ else _) _ _ s
  rw [if_neg (by simpa using hc)]
  refine wpAny_bind (HT.slicePart_ pl (wpAny_bind (HT.slicePart_ pu (wpAny_bind (wpAny_pure ?_)))))
  show wpAny _ _ (match Builtin.Slice.sliceAdjust lo hi c (n : Int) with | (lo, hi) => pure (lo, c, Builtin.Slice.slicePlaces lo hi c)) _ _ s
  exact wpAny_pure h
theorem item3 {t sl : Addr} {items : List Value} {vl vu vs : Value} {lo hi : Option Int} {c : Int} {Q : Value → Shared → Prop} (ht : IsTup s.heap t items.toArray) (hs : s.heap.IsSliceOf sl vl vu vs) (pl : IsPart vl lo) (pu : IsPart vu hi) (ps : IsPart vs (some c)) (hc : c ≠ 0)
    (h1 : c ≠ 1) (h : Q (.ref s.heap.objs.size) { s with heap := s.heap.push { cls := .type "tuple", data := .seq (pk3 items lo hi c).toArray } }) (hz : (pk3 items lo hi c).length ≤ sizeLine) :
    wpAny (model prog w) A (getItem (.ref t) (.ref sl)) Q E s := by
  have fits : sizeOk (.seq (pk3 items lo hi c).toArray) := by
    show (pk3 items lo hi c).toArray.size ≤ sizeLine
    rw [List.size_toArray]
    exact hz
  have isl : s.TypeIs (.ref sl) "slice" := by
    obtain ⟨ob, g1, g2, _⟩ := id hs
    exact ⟨ob, g1, g2⟩
  unfold getItem
  try with_reducible refine wpAny_holding ?_
  first | refine wpAny_bind (wpAny_pure ?_) | skip
  refine wpAny_bind (wpAny_sequenceKey ht.typeIs (by decide) (wpAny_bind (wpAny_callSpecial?_slot (name := Str.ofString "__getitem__") ht.typeIs slot_tuple_getitem (wpAny_call_entry slot_tuple_getitem ht.typeIs entry_tuple_getitem ?_ (args_tuple_getitem _ _)))))
  show wpAny _ _ (Builtin.Tuple.tupleItemsOf (.ref t) >>= _) _ _ s
  refine wpAny_bind (tupleItemsOf_ ht (wpAny_bind (wpAny_typeOf isl ?_)))
  rw [if_pos (by decide)]
  refine wpAny_bind (applied3 hs pl pu ps hc ?_)
  have no : ¬ (((Builtin.Slice.sliceAdjust lo hi c items.toArray.size).1 == 0 && c == 1 && (Builtin.Slice.slicePlaces (Builtin.Slice.sliceAdjust lo hi c items.toArray.size).1 (Builtin.Slice.sliceAdjust lo hi c items.toArray.size).2 c) == items.toArray.size) = true) := fun q => by
    rw [Bool.and_eq_true, Bool.and_eq_true] at q
    exact h1 (eq_of_beq q.1.2)
  have e : ((List.range (Builtin.Slice.slicePlaces (Builtin.Slice.sliceAdjust lo hi c items.toArray.size).1 (Builtin.Slice.sliceAdjust lo hi c items.toArray.size).2 c)).filterMap fun (k : Nat) => items.toArray[((Builtin.Slice.sliceAdjust lo hi c items.toArray.size).1 + (k : Int) * c).toNat]?) = pk3 items lo hi c := by
    unfold pk3
    rw [List.size_toArray]
    simp only [List.getElem?_toArray]
  show wpAny _ _ (if ((Builtin.Slice.sliceAdjust lo hi c items.toArray.size).1 == 0 && c == 1 && (Builtin.Slice.slicePlaces (Builtin.Slice.sliceAdjust lo hi c items.toArray.size).1 (Builtin.Slice.sliceAdjust lo hi c items.toArray.size).2 c) == items.toArray.size) = true then _ else _) _ _ s
  rw [if_neg no, e]
  first
    | exact wpAny_bind (m := Builtin.Tuple.tupleExact _) (wpAny_newObj_type (wpAny_pure ⟨_, rfl, wpAny_pure h⟩) fits)
    | exact wpAny_bind (m := Builtin.Tuple.tupleExact _) (wpAny_newObj_type (wpAny_bind (wpAny_pure (wpAny_pure ⟨_, rfl, wpAny_pure h⟩))) fits)
    | exact wpAny_bind (wpAny_bind (m := Builtin.Tuple.tupleExact _) (wpAny_newObj_type (wpAny_pure (wpAny_pure ⟨_, rfl, wpAny_pure h⟩)) fits))
    | exact wpAny_bind (wpAny_bind (m := Builtin.Tuple.tupleExact _) (wpAny_newObj_type (wpAny_pure ⟨_, rfl, wpAny_pure h⟩) fits))
end
section
variable {X : Cx} {K : PySem.W.Frag} {e s3 : Expr} {lo hi : Option Expr} {te : TE} {tl th t3 : TO} {p3 pos : Pos}
def tSl3 (K : PySem.W.Frag) (te : TE) (tl th t3 : TO) : TE := fun σ H Q => te σ H fun x H1 => tl σ H1 fun l H2 => th σ H2 fun u H3 => t3 σ H3 fun c H4 => ∃ a xs k, x = .ref a ∧ c = some k ∧ SqT K H4 a xs ∧ k ≠ 0 ∧ k ≠ 1 ∧ (pk3 xs l u k).length ≤ sizeLine ∧
  ∀ p, H4 p = none → Q (.ref p) (upd H4 p (.tup (pk3 xs l u k)))
theorem pe_sl3 (hK : X.K = K) (he : PE X e te) (hl : PO X lo tl) (hu : PO X hi th) (h3 : PO X (some s3) t3) (ho : ∀ a b : Addr, ∃ ops, subscripted (Expr.Slice lo hi (some s3) p3) false (.ref a) (.ref b) = operate ops (getItem (.ref a) (.ref b)) := by exact fun _ _ => ⟨_, rfl⟩) : PE X (.Subscript e (.Slice lo hi (some s3) p3) pos) (tSl3 K te tl th t3) := by
  subst hK
  refine ⟨fun pins s σ H Q I h => Subscript_ (thn (he.run pins s σ H _ I h) fun v s1 ⟨x, H1, I1, r1, q1⟩ => wpAny_Slice (thn (hl.run pins s1 σ H1 _ I1 q1) fun vl s2 ⟨l, H2, I2, pl, q2⟩ => thn (hu.run pins s2 σ H2 _ I2 q2) fun vu s4 ⟨u, H3, I3, pu, q3⟩ =>
    thn (h3.run pins s4 σ H3 _ I3 q3) fun vc s5 ⟨c, H4, I4, pc, q4⟩ => ?_))⟩
  obtain ⟨a, xs, k, ex, ec, hx, k0, k1, hz, q⟩ := q4
  subst ex
  subst ec
  cases r1
  have I5 : Inv X pins σ H4 { s5 with heap := s5.heap.push { cls := .type "slice", data := .fields #[vl, vu, vc] } } := I4.kept (t' := s5.toks) fun b ob q => Heap.get?_push_of_some _ q
  obtain ⟨its, r, ht, _⟩ := I5.tuple hx
  have rv := pk3_vals r l u k
  show wpAny (model X.prog X.w) X.A (subscriptTail e (.Slice lo hi (some s3) p3) (.ref a) (.ref s5.heap.objs.size)) (EP X pins σ Q) X.xe { s5 with heap := s5.heap.push { cls := .type "slice", data := .fields #[vl, vu, vc] } }
  obtain ⟨ops, hops⟩ := ho a s5.heap.objs.size
  refine tail_any (ops := ops) ht.typeIs (slot_tuple_getitem.lookup) ?_ hops
  refine item3 ht (Heap.IsSliceOf.new _ vl vu vc) pl pu pc k0 k1 ?_ (by rw [← rv.length]; exact hz)
  refine ⟨.ref _, _, I5.laid (t' := s5.toks) (o := .tup (pk3 xs l u k)) (fun b ob q => Heap.get?_push_of_some _ q) (Nat.le_refl _) ?_, rfl, q _ (I5.hok.fresh (Nat.le_refl _))⟩
  exact ⟨hz, _, rv, IsTup.new _ _⟩
end
end Tx
/-! truth over a word without end: one step x ↦ B or (A and x), forwards and backwards -/
namespace Tr
/-- n steps back from s + n to s -/
def bk (A B : Nat → Bool) : Nat → Nat → Bool → Bool
  | _, 0, x => x
  | s, n + 1, x => B s || (A s && bk A B (s + 1) n x)
theorem bk_add (A B : Nat → Bool) (m : Nat) (x : Bool) : ∀ (n s : Nat), bk A B s (n + m) x = bk A B s n (bk A B (s + n) m x)
  | 0, s => by rw [Nat.zero_add]; rfl
  | n + 1, s => by
    have e : n + 1 + m = (n + m) + 1 := by omega
    rw [e]
    show (B s || (A s && bk A B (s + 1) (n + m) x)) = (B s || (A s && bk A B (s + 1) n (bk A B (s + (n + 1)) m x)))
    rw [bk_add A B m x n (s + 1), show s + 1 + n = s + (n + 1) by omega]
theorem bk_form (A B : Nat → Bool) : ∀ (n s : Nat), ∃ P Q : Bool, ∀ x, bk A B s n x = (P || (Q && x))
  | 0, s => ⟨false, true, fun x => by simp [bk]⟩
  | n + 1, s => by
    obtain ⟨P, Q, h⟩ := bk_form A B n (s + 1)
    refine ⟨B s || (A s && P), A s && Q, fun x => ?_⟩
    show (B s || (A s && bk A B (s + 1) n x)) = _
    rw [h]
    cases B s <;> cases A s <;> cases P <;> cases Q <;> cases x <;> rfl
theorem bk_mono {A B : Nat → Bool} {n s : Nat} (h : bk A B s n false = true) (x : Bool) : bk A B s n x = true := by
  obtain ⟨P, Q, e⟩ := bk_form A B n s
  rw [e] at h ⊢
  cases P <;> cases Q <;> cases x <;> simp_all
theorem bk_twice (A B : Nat → Bool) (n s : Nat) (x : Bool) : bk A B s n (bk A B s n x) = bk A B s n x := by
  obtain ⟨P, Q, e⟩ := bk_form A B n s
  rw [e, e]
  cases P <;> cases Q <;> cases x <;> rfl
theorem bk_congr {A B A' B' : Nat → Bool} (x : Bool) : ∀ (n s s' : Nat), (∀ i, i < n → A (s + i) = A' (s' + i) ∧ B (s + i) = B' (s' + i)) → bk A B s n x = bk A' B' s' n x
  | 0, _, _, _ => rfl
  | n + 1, s, s', h => by
    have h0 := h 0 (Nat.succ_pos n)
    have ih := bk_congr x n (s + 1) (s' + 1) fun i hi => by
      have := h (i + 1) (by omega)
      rwa [show s + (i + 1) = s + 1 + i by omega, show s' + (i + 1) = s' + 1 + i by omega] at this
    show (B s || (A s && bk A B (s + 1) n x)) = (B' s' || (A' s' && bk A' B' (s' + 1) n x))
    rw [ih, show A s = A' s' from h0.1, show B s = B' s' from h0.2]
/-- from m on of period L -/
def Pd (f : Nat → Bool) (m L : Nat) : Prop := ∀ t, m ≤ t → f (t + L) = f t
theorem Pd.up {f : Nat → Bool} {m n L : Nat} (h : Pd f m L) (k : m ≤ n) : Pd f n L := fun t ht => h t (Nat.le_trans k ht)
theorem Pd.mul {f : Nat → Bool} {m L : Nat} (h : Pd f m L) : ∀ k t, m ≤ t → f (t + k * L) = f t
  | 0, t, _ => by rw [Nat.zero_mul]; rfl
  | k + 1, t, ht => by
    rw [Nat.succ_mul, ← Nat.add_assoc, h _ (by omega), h.mul k t ht]
open Classical in
/-- the future's limit: from the start value i -/
noncomputable def lim (i : Bool) (A B : Nat → Bool) (t : Nat) : Bool :=
  if i = true then decide (∀ n, bk A B t n true = true) else decide (∃ n, bk A B t n false = true)
theorem lim_t {A B : Nat → Bool} {t : Nat} : lim true A B t = true ↔ ∀ n, bk A B t n true = true := by
  unfold lim
  simp
theorem lim_f {A B : Nat → Bool} {t : Nat} : lim false A B t = true ↔ ∃ n, bk A B t n false = true := by
  unfold lim
  simp
theorem bool_ext {a b : Bool} (h : a = true ↔ b = true) : a = b := by
  cases a <;> cases b <;> simp_all
theorem lim_step (i : Bool) (A B : Nat → Bool) (t : Nat) : lim i A B t = (B t || (A t && lim i A B (t + 1))) := by
  apply bool_ext
  cases i with
  | true =>
    rw [lim_t]
    constructor
    · intro h
      cases hb : B t with
      | true => rfl
      | false =>
        cases ha : A t with
        | false =>
          have := h 1
          rw [show bk A B t 1 true = (B t || (A t && true)) from rfl, hb, ha] at this
          cases this
        | true =>
          rw [Bool.false_or, Bool.true_and, lim_t]
          intro n
          have := h (n + 1)
          rw [show bk A B t (n + 1) true = (B t || (A t && bk A B (t + 1) n true)) from rfl, hb, ha] at this
          simpa using this
    · intro h n
      cases n with
      | zero => rfl
      | succ n =>
        show (B t || (A t && bk A B (t + 1) n true)) = true
        rw [Bool.or_eq_true, Bool.and_eq_true] at h ⊢
        rcases h with h | ⟨h1, h2⟩
        · exact .inl h
        · exact .inr ⟨h1, lim_t.mp h2 n⟩
  | false =>
    rw [lim_f]
    constructor
    · rintro ⟨n, h⟩
      cases n with
      | zero => cases h
      | succ n =>
        rw [show bk A B t (n + 1) false = (B t || (A t && bk A B (t + 1) n false)) from rfl] at h
        rw [Bool.or_eq_true, Bool.and_eq_true] at h ⊢
        rcases h with h | ⟨h1, h2⟩
        · exact .inl h
        · exact .inr ⟨h1, lim_f.mpr ⟨n, h2⟩⟩
    · intro h
      rw [Bool.or_eq_true, Bool.and_eq_true] at h
      rcases h with h | ⟨h1, h2⟩
      · exact ⟨1, by show (B t || _) = true; rw [h]; rfl⟩
      · obtain ⟨n, hn⟩ := lim_f.mp h2
        exact ⟨n + 1, by show (B t || (A t && bk A B (t + 1) n false)) = true; rw [hn, h1, Bool.and_true, Bool.or_true]⟩
theorem lim_bk (i : Bool) (A B : Nat → Bool) : ∀ n t, lim i A B t = bk A B t n (lim i A B (t + n))
  | 0, t => rfl
  | n + 1, t => by
    rw [lim_step, lim_bk i A B n (t + 1), show t + 1 + n = t + (n + 1) by omega]
    rfl
theorem lim_pd {i : Bool} {A B : Nat → Bool} {m L : Nat} (ha : Pd A m L) (hb : Pd B m L) : Pd (lim i A B) m L := fun t ht => by
  have e : ∀ n x, bk A B (t + L) n x = bk A B t n x := fun n x => bk_congr x n _ _ fun j _ => by
    rw [show t + L + j = t + j + L by omega]
    exact ⟨ha _ (by omega), hb _ (by omega)⟩
  apply bool_ext
  cases i with
  | true => rw [lim_t, lim_t]; simp only [e]
  | false => rw [lim_f, lim_f]; simp only [e]
theorem bk_round {A B : Nat → Bool} {m L : Nat} (ha : Pd A m L) (hb : Pd B m L) : ∀ k y, bk A B m ((k + 1) * L) y = bk A B m L y
  | 0, y => by rw [Nat.zero_add, Nat.one_mul]
  | k + 1, y => by
    rw [Nat.succ_mul (k + 1), bk_add]
    have e : bk A B (m + (k + 1) * L) L y = bk A B m L y := bk_congr y L _ _ fun j _ => by
      rw [show m + (k + 1) * L + j = (m + j) + (k + 1) * L by omega]
      exact ⟨ha.mul _ _ (by omega), hb.mul _ _ (by omega)⟩
    rw [e, bk_round ha hb k, bk_twice]
theorem bk_le_t {A B : Nat → Bool} {n s : Nat} {x : Bool} (h : bk A B s n x = true) : bk A B s n true = true := by
  obtain ⟨P, Q, e⟩ := bk_form A B n s
  rw [e] at h ⊢
  cases P <;> cases Q <;> cases x <;> simp_all
/-- once round the loop from the start value is the limit -/
theorem lim_loop {i : Bool} {A B : Nat → Bool} {m L : Nat} (hL : 0 < L) (ha : Pd A m L) (hb : Pd B m L) : lim i A B m = bk A B m L i := by
  apply bool_ext
  cases i with
  | true =>
    rw [lim_t]
    refine ⟨fun h => h L, fun h n => ?_⟩
    have h2 := bk_round ha hb n true
    rw [h] at h2
    have le : n ≤ (n + 1) * L := Nat.le_trans (Nat.le_succ n) (Nat.le_mul_of_pos_right _ hL)
    obtain ⟨j, hj⟩ := Nat.exists_eq_add_of_le le
    rw [hj, bk_add] at h2
    exact bk_le_t h2
  | false =>
    rw [lim_f]
    refine ⟨fun ⟨n, h⟩ => ?_, fun h => ⟨L, h⟩⟩
    have h2 := bk_round ha hb n false
    have le : n ≤ (n + 1) * L := Nat.le_trans (Nat.le_succ n) (Nat.le_mul_of_pos_right _ hL)
    obtain ⟨j, hj⟩ := Nat.exists_eq_add_of_le le
    rw [hj, bk_add, bk_mono h] at h2
    exact h2.symm
/-! forwards -/
def fw (i : Bool) (A B : Nat → Bool) : Nat → Bool
  | 0 => B 0 || (A 0 && i)
  | t + 1 => B (t + 1) || (A (t + 1) && fw i A B t)
/-- n steps on from a value -/
def st (A B : Nat → Bool) : Nat → Nat → Bool → Bool
  | _, 0, x => x
  | s, n + 1, x => B (s + n) || (A (s + n) && st A B s n x)
theorem st_form (A B : Nat → Bool) : ∀ (n s : Nat), ∃ P Q : Bool, ∀ x, st A B s n x = (P || (Q && x))
  | 0, s => ⟨false, true, fun x => by simp [st]⟩
  | n + 1, s => by
    obtain ⟨P, Q, h⟩ := st_form A B n s
    refine ⟨B (s + n) || (A (s + n) && P), A (s + n) && Q, fun x => ?_⟩
    show (B (s + n) || (A (s + n) && st A B s n x)) = _
    rw [h]
    cases B (s + n) <;> cases A (s + n) <;> cases P <;> cases Q <;> cases x <;> rfl
theorem st_congr {A B A' B' : Nat → Bool} (x : Bool) : ∀ (n s s' : Nat), (∀ i, i < n → A (s + i) = A' (s' + i) ∧ B (s + i) = B' (s' + i)) → st A B s n x = st A' B' s' n x
  | 0, _, _, _ => rfl
  | n + 1, s, s', h => by
    have h0 := h n (Nat.lt_succ_self n)
    have ih := st_congr x n s s' fun i hi => h i (by omega)
    show (B (s + n) || (A (s + n) && st A B s n x)) = (B' (s' + n) || (A' (s' + n) && st A' B' s' n x))
    rw [ih, h0.1, h0.2]
theorem fw_st (i : Bool) (A B : Nat → Bool) (t : Nat) : ∀ n, fw i A B (t + n) = st A B (t + 1) n (fw i A B t)
  | 0 => rfl
  | n + 1 => by
    show (B (t + n + 1) || (A (t + n + 1) && fw i A B (t + n))) = (B (t + 1 + n) || (A (t + 1 + n) && st A B (t + 1) n (fw i A B t)))
    rw [fw_st i A B t n, show t + n + 1 = t + 1 + n by omega]
/-- one round more -/
theorem fw_pd {i : Bool} {A B : Nat → Bool} {m L : Nat} (hL : 0 < L) (ha : Pd A m L) (hb : Pd B m L) : Pd (fw i A B) (m + L) L := fun t ht => by
  obtain ⟨r, rfl⟩ := Nat.exists_eq_add_of_le (show L ≤ t by omega)
  rw [Nat.add_comm L r] at ht ⊢
  have e : ∀ x, st A B (r + L + 1) L x = st A B (r + 1) L x := fun x => st_congr x L _ _ fun j _ => by
    rw [show r + L + 1 + j = r + 1 + j + L by omega]
    exact ⟨ha _ (by omega), hb _ (by omega)⟩
  rw [fw_st i A B (r + L) L, e, fw_st i A B r L]
  obtain ⟨P, Q, h⟩ := st_form A B L (r + 1)
  rw [h, h]
  cases P <;> cases Q <;> cases fw i A B r <;> rfl
end Tr

namespace Tr
open PySem
/-! formulas, what each sign does, their truth along a word -/
inductive Fm where
  | c0 (k : Str)
  | sg (s : Str)
  | un (k : Str) (f : Fm)
  | bin (k : Str) (f g : Fm)
abbrev sSig : Str := "signal"
def steps : List Str := ["next", "previous", "weak_previous"]
def past : List Str := ["previous", "weak_previous", "once", "historically", "since", "trigger"]
def future : List Str := ["next", "eventually", "always", "until", "weak_until", "release"]
def beyond : List Str := ["weak_previous", "historically", "trigger", "always", "release", "weak_until"]
def plB (k : Str) (a b : Bool) : Bool :=
  if k = "not" then !a else if k = "and" then a && b else if k = "or" then a || b else if k = "implies" then !a || b else if k = "iff" then a == b else decide (k = "true")
def tofB (k : Str) (a b c : Bool) : Bool :=
  if k ∈ steps then c else if k ∈ (["eventually", "once"] : List Str) then a || c else if k ∈ (["always", "historically"] : List Str) then a && c
  else if k ∈ (["release", "trigger"] : List Str) then b && (a || c) else if k ∈ (["until", "weak_until", "since"] : List Str) then b || (a && c) else plB k a b
theorem tofB_form (k : Str) (a b c : Bool) : tofB k a b c = (tofB k a b false || (tofB k a b true && c)) := by
  unfold tofB
  split
  · cases c <;> rfl
  · split
    · cases a <;> cases c <;> rfl
    · split
      · cases a <;> cases c <;> rfl
      · split
        · cases a <;> cases b <;> cases c <;> rfl
        · split
          · cases a <;> cases b <;> cases c <;> rfl
          · cases plB k a b <;> cases c <;> rfl
theorem tofB_step {k : Str} (h : k ∈ steps) (a b c : Bool) : tofB k a b c = c := by
  unfold tofB
  rw [if_pos h]
def ini (k : Str) : Bool := decide (k ∈ beyond)
section
variable (k : Str) (a b : Nat → Bool)
def stA : Nat → Bool := fun t => tofB k (a t) (b t) true
def stB : Nat → Bool := fun t => tofB k (a t) (b t) false
/-- what the turn ahead hands back -/
noncomputable def carF (t : Nat) : Bool := if k ∈ steps then a t else lim (ini k) (stA k a b) (stB k a b) t
/-- what the turn behind hands on -/
def carP : Nat → Bool
  | 0 => ini k
  | t + 1 => if k ∈ steps then a t else fw (ini k) (stA k a b) (stB k a b) t
noncomputable def sq (t : Nat) : Bool := tofB k (a t) (b t) (if k ∈ past then carP k a b t else if k ∈ future then carF k a b (t + 1) else false)
end
theorem tof_st (k : Str) (a b : Nat → Bool) (t : Nat) (c : Bool) : tofB k (a t) (b t) c = (stB k a b t || (stA k a b t && c)) := tofB_form k (a t) (b t) c
theorem sq_past {k : Str} (h : k ∈ past) (a b : Nat → Bool) (t : Nat) : sq k a b t = tofB k (a t) (b t) (carP k a b t) := by
  unfold sq
  rw [if_pos h]
theorem sq_fut {k : Str} (h0 : ¬ k ∈ past) (h : k ∈ future) (a b : Nat → Bool) (t : Nat) : sq k a b t = tofB k (a t) (b t) (carF k a b (t + 1)) := by
  unfold sq
  rw [if_neg h0, if_pos h]
theorem sq_pl {k : Str} (h0 : ¬ k ∈ past) (h : ¬ k ∈ future) (a b : Nat → Bool) (t : Nat) : sq k a b t = tofB k (a t) (b t) false := by
  unfold sq
  rw [if_neg h0, if_neg h]
theorem carP_next {k : Str} (h : k ∈ past) (a b : Nat → Bool) (t : Nat) : carP k a b (t + 1) = if k ∈ steps then a t else sq k a b t := by
  show (if k ∈ steps then a t else fw (ini k) (stA k a b) (stB k a b) t) = _
  split
  · rfl
  · rename_i hs
    rw [sq_past h, tof_st]
    cases t with
    | zero => rfl
    | succ t =>
      show _ = (stB k a b (t + 1) || (stA k a b (t + 1) && (if k ∈ steps then a t else fw (ini k) (stA k a b) (stB k a b) t)))
      rw [if_neg hs]
      rfl
theorem carF_sq {k : Str} (h0 : ¬ k ∈ past) (h : k ∈ future) (a b : Nat → Bool) (t : Nat) : carF k a b t = if k ∈ steps then a t else sq k a b t := by
  unfold carF
  split
  · rfl
  · rename_i hs
    rw [sq_fut h0 h, tof_st, carF, if_neg hs]
    exact lim_step _ _ _ _
def tb (k : Str) : Nat := if k ∈ past then 1 else 0
theorem st_pd {k : Str} {a b : Nat → Bool} {m L : Nat} (ha : Pd a m L) (hb : Pd b m L) : Pd (stA k a b) m L ∧ Pd (stB k a b) m L :=
  ⟨fun t ht => by unfold stA; rw [ha t ht, hb t ht], fun t ht => by unfold stB; rw [ha t ht, hb t ht]⟩
theorem carF_pd {k : Str} {a b : Nat → Bool} {m L : Nat} (ha : Pd a m L) (hb : Pd b m L) : Pd (carF k a b) m L := by
  intro t ht
  unfold carF
  split
  · exact ha t ht
  · exact lim_pd (st_pd ha hb).1 (st_pd ha hb).2 t ht
theorem sq_fw {k : Str} (h : k ∈ past) (hs : ¬ k ∈ steps) (a b : Nat → Bool) (t : Nat) : sq k a b t = fw (ini k) (stA k a b) (stB k a b) t := by
  have q := carP_next h a b t
  rw [if_neg hs] at q
  rw [← q]
  show (if k ∈ steps then a t else fw (ini k) (stA k a b) (stB k a b) t) = _
  rw [if_neg hs]
theorem sq_pd {k : Str} {a b : Nat → Bool} {m L : Nat} (hL : 0 < L) (ha : Pd a m L) (hb : Pd b m L) : Pd (sq k a b) (m + tb k * L) L := by
  intro t ht
  unfold tb at ht
  by_cases hp : k ∈ past
  · rw [if_pos hp, Nat.one_mul] at ht
    by_cases hs : k ∈ steps
    · rw [sq_past hp, sq_past hp, tofB_step hs, tofB_step hs]
      obtain ⟨u, rfl⟩ : ∃ u, t = u + 1 := ⟨t - 1, by omega⟩
      rw [show u + 1 + L = u + L + 1 by omega, carP_next hp, carP_next hp, if_pos hs, if_pos hs]
      exact ha u (by omega)
    · rw [sq_fw hp hs, sq_fw hp hs]
      exact fw_pd hL (st_pd ha hb).1 (st_pd ha hb).2 t ht
  · rw [if_neg hp, Nat.zero_mul] at ht
    by_cases hf : k ∈ future
    · rw [sq_fut hp hf, sq_fut hp hf, ha t ht, hb t ht, show t + L + 1 = t + 1 + L by omega, carF_pd ha hb (t + 1) (by omega)]
    · rw [sq_pl hp hf, sq_pl hp hf, ha t ht, hb t ht]
/-- the future's value handed back at the word's end is the one at the loop's start after one round -/
def rndF (k : Str) (a b : Nat → Bool) (N : Nat) : Nat → Bool
  | 0 => ini k
  | j + 1 => if k ∈ steps then a (N - (j + 1)) else tofB k (a (N - (j + 1))) (b (N - (j + 1))) (rndF k a b N j)
theorem rndF_bk {k : Str} {a b : Nat → Bool} {N : Nat} (hs : ¬ k ∈ steps) : ∀ j, j ≤ N → rndF k a b N j = bk (stA k a b) (stB k a b) (N - j) j (ini k)
  | 0, _ => rfl
  | j + 1, h => by
    show (if k ∈ steps then a (N - (j + 1)) else tofB k (a (N - (j + 1))) (b (N - (j + 1))) (rndF k a b N j)) = _
    rw [if_neg hs, rndF_bk hs j (by omega), tof_st]
    show _ = (stB k a b (N - (j + 1)) || (stA k a b (N - (j + 1)) && bk (stA k a b) (stB k a b) (N - (j + 1) + 1) j (ini k)))
    rw [show N - (j + 1) + 1 = N - j by omega]
theorem rndF_end {k : Str} {a b : Nat → Bool} {m L : Nat} (hL : 0 < L) (ha : Pd a m L) (hb : Pd b m L) : rndF k a b (m + L) L = carF k a b (m + L) := by
  rw [carF_pd ha hb m (Nat.le_refl _)]
  unfold carF
  by_cases hs : k ∈ steps
  · obtain ⟨j, rfl⟩ : ∃ j, L = j + 1 := ⟨L - 1, by omega⟩
    show (if k ∈ steps then a (m + (j + 1) - (j + 1)) else _) = _
    rw [if_pos hs, if_pos hs, Nat.add_sub_cancel]
  · rw [if_neg hs, rndF_bk hs L (by omega), Nat.add_sub_cancel, lim_loop hL (st_pd ha hb).1 (st_pd ha hb).2]
/-! a formula's truth -/
def bitI (z : Int) (i : Nat) : Bool := decide (z / 2 ^ i % 2 = 1)
noncomputable def sem (nm : List Str) (x : Nat → Int) : Fm → Nat → Bool
  | .c0 k => sq k (fun _ => false) (fun _ => false)
  | .sg s => fun t => bitI (x t) (nm.idxOf s)
  | .un k f => sq k (sem nm x f) (fun _ => false)
  | .bin k f g => sq k (sem nm x f) (sem nm x g)
def pd : Fm → Nat
  | .c0 k => tb k
  | .sg _ => 0
  | .un k f => pd f + tb k
  | .bin k f g => max (pd f) (pd g) + tb k
theorem pd_c (m L : Nat) (c : Bool) : Pd (fun _ => c) m L := fun _ _ => rfl
theorem sem_pd {nm : List Str} {x : Nat → Int} {h L : Nat} (hL : 0 < L) (hx : ∀ t, h ≤ t → x (t + L) = x t) : ∀ f : Fm, Pd (sem nm x f) (h + pd f * L) L
  | .c0 k => sq_pd hL (pd_c h L false) (pd_c h L false)
  | .sg s => fun t ht => by
    show bitI (x (t + L)) _ = bitI (x t) _
    rw [hx t (by have : h ≤ h + pd (.sg s) * L := Nat.le_add_right _ _; omega)]
  | .un k f => by
    have q := sq_pd (k := k) hL (sem_pd (nm := nm) hL hx f) (pd_c _ L false)
    rw [Nat.add_assoc, ← Nat.add_mul] at q
    exact q
  | .bin k f g => by
    have e1 : h + pd f * L ≤ h + max (pd f) (pd g) * L := Nat.add_le_add_left (Nat.mul_le_mul_right L (Nat.le_max_left _ _)) h
    have e2 : h + pd g * L ≤ h + max (pd f) (pd g) * L := Nat.add_le_add_left (Nat.mul_le_mul_right L (Nat.le_max_right _ _)) h
    have q := sq_pd (k := k) hL ((sem_pd (nm := nm) hL hx f).up e1) ((sem_pd (nm := nm) hL hx g).up e2)
    rw [Nat.add_assoc, ← Nat.add_mul] at q
    exact q
/-! the parts -/
abbrev Pt := Str × Int × Int
def kids : Fm → List Fm
  | .c0 _ => []
  | .sg _ => []
  | .un _ f => [f]
  | .bin _ f g => [f, g]
def kd : Fm → Str
  | .c0 k => k
  | .sg _ => sSig
  | .un k _ => k
  | .bin k _ _ => k
def sz : Fm → Nat
  | .c0 _ => 1
  | .sg _ => 1
  | .un _ f => sz f + 1
  | .bin _ f g => sz f + sz g + 1
def pre : Fm → List Fm
  | .c0 k => [.c0 k]
  | .sg s => [.sg s]
  | .un k f => .un k f :: pre f
  | .bin k f g => .bin k f g :: (pre f ++ pre g)
theorem pre_kids (f : Fm) : pre f = f :: ((kids f).map pre).flatten := by
  cases f <;> simp [pre, kids]
theorem pre_len : ∀ f : Fm, (pre f).length = sz f
  | .c0 _ => rfl
  | .sg _ => rfl
  | .un k f => by
    show (pre f).length + 1 = sz f + 1
    rw [pre_len f]
  | .bin k f g => by
    show (pre f ++ pre g).length + 1 = sz f + sz g + 1
    rw [List.length_append, pre_len f, pre_len g]
theorem sz_pos (f : Fm) : 0 < sz f := by cases f <;> exact Nat.succ_pos _
/-- what stands in the formula is no sign of another kind, and its signals are named -/
def Wf (nm : List Str) : Fm → Prop
  | .c0 k => k ≠ sSig
  | .sg s => s ∈ nm
  | .un k f => k ≠ sSig ∧ Wf nm f
  | .bin k f g => k ≠ sSig ∧ Wf nm f ∧ Wf nm g
/-- the stack S, fed with the rest of the row, ends as the root alone -/
def Vl (root : Fm) : List Fm → List Fm → Prop
  | S, [] => S = [root]
  | S, g :: R => ∃ S', S = kids g ++ S' ∧ Vl root (g :: S') R
theorem vl_pre (root : Fm) : ∀ (f : Fm) (S R : List Fm), Vl root (f :: S) R → Vl root S ((pre f).reverse ++ R)
  | .c0 k, S, R, h => ⟨S, rfl, h⟩
  | .sg s, S, R, h => ⟨S, rfl, h⟩
  | .un k f, S, R, h => by
    show Vl root S ((Fm.un k f :: pre f).reverse ++ R)
    rw [List.reverse_cons, List.append_assoc]
    exact vl_pre root f S _ ⟨S, rfl, h⟩
  | .bin k f g, S, R, h => by
    show Vl root S ((Fm.bin k f g :: (pre f ++ pre g)).reverse ++ R)
    rw [List.reverse_cons, List.reverse_append, List.append_assoc, List.append_assoc]
    exact vl_pre root g S _ (vl_pre root f (g :: S) _ ⟨S, rfl, h⟩)
theorem vl_root (f : Fm) : Vl f [] (pre f).reverse := by
  have q := vl_pre f f [] [] rfl
  rwa [List.append_nil] at q
def Node (nm : List Str) (Fs : List Fm) (k : Nat) : Fm → Pt → Prop
  | .c0 c, p => c ≠ sSig ∧ p = (c, -1, -1)
  | .sg s, p => s ∈ nm ∧ p = (sSig, ((nm.idxOf s : Nat) : Int), -1)
  | .un c f, p => c ≠ sSig ∧ ∃ i : Nat, i < k ∧ Fs[i]? = some f ∧ p = (c, (i : Int), -1)
  | .bin c f g, p => c ≠ sSig ∧ ∃ i j : Nat, i < k ∧ j < k ∧ Fs[i]? = some f ∧ Fs[j]? = some g ∧ p = (c, (i : Int), (j : Int))
structure Good (nm : List Str) (P : List Pt) (Fs : List Fm) : Prop where
  len : P.length = Fs.length
  nd : ∀ k f p, Fs[k]? = some f → P[k]? = some p → Node nm Fs k f p
theorem Node.up {nm : List Str} {Fs : List Fm} {k k' : Nat} {f g : Fm} {p : Pt} (h : Node nm Fs k f p) (hk : k ≤ k') (hl : k ≤ Fs.length) : Node nm (Fs ++ [g]) k' f p := by
  cases f with
  | c0 c => exact h
  | sg s => exact h
  | un c f =>
    obtain ⟨h1, i, h2, h3, h4⟩ := h
    exact ⟨h1, i, by omega, by rw [List.getElem?_append_left (by omega)]; exact h3, h4⟩
  | bin c f f2 =>
    obtain ⟨h1, i, j, h2, h3, h4, h5, h6⟩ := h
    exact ⟨h1, i, j, by omega, by omega, by rw [List.getElem?_append_left (by omega)]; exact h4, by rw [List.getElem?_append_left (by omega)]; exact h5, h6⟩
theorem Good.snoc {nm : List Str} {P : List Pt} {Fs : List Fm} {f : Fm} {p : Pt} (h : Good nm P Fs) (n : Node nm Fs P.length f p) : Good nm (P ++ [p]) (Fs ++ [f]) := by
  refine ⟨by rw [List.length_append, List.length_append, h.len]; rfl, fun k g q hg hq => ?_⟩
  have e := h.len
  rcases Nat.lt_or_ge k P.length with c | c
  · rw [List.getElem?_append_left (by omega)] at hg
    rw [List.getElem?_append_left c] at hq
    exact (h.nd k g q hg hq).up (Nat.le_refl _) (by omega)
  · rw [List.getElem?_append_right (by omega)] at hg
    rw [List.getElem?_append_right c] at hq
    have hk : k = P.length := by
      rcases Nat.eq_or_lt_of_le c with z | z
      · exact z.symm
      · rw [List.getElem?_eq_none (by simp; omega)] at hq
        cases hq
    rw [hk, Nat.sub_self] at hq
    rw [hk, e, Nat.sub_self] at hg
    cases hg
    cases hq
    rw [hk]
    exact n.up (Nat.le_refl _) (by omega)
theorem node_uniq {nm : List Str} {Fs : List Fm} {k k' : Nat} {f g : Fm} {p : Pt} (h : Node nm Fs k f p) (h' : Node nm Fs k' g p) : f = g := by
  cases f with
  | c0 c =>
    obtain ⟨h1, rfl⟩ := h
    cases g with
    | c0 c' => obtain ⟨_, e⟩ := h'; cases e; rfl
    | sg s => obtain ⟨_, e⟩ := h'; injection e with e _; exact absurd e h1
    | un c' f => obtain ⟨_, i, _, _, e⟩ := h'; injection e with _ e; injection e with e _; omega
    | bin c' f f2 => obtain ⟨_, i, j, _, _, _, _, e⟩ := h'; injection e with _ e; injection e with e _; omega
  | sg s =>
    obtain ⟨h1, rfl⟩ := h
    cases g with
    | c0 c' => obtain ⟨h2, e⟩ := h'; injection e with e _; exact absurd e.symm h2
    | sg s' =>
      obtain ⟨h2, e⟩ := h'
      injection e with _ e
      injection e with e _
      have e : nm.idxOf s = nm.idxOf s' := by omega
      have a1 := List.getElem_idxOf (List.idxOf_lt_length_of_mem h1)
      have a2 := List.getElem_idxOf (List.idxOf_lt_length_of_mem h2)
      rw [← a1, ← a2]
      simp only [e]
    | un c' f => obtain ⟨h2, i, _, _, e⟩ := h'; injection e with e _; exact absurd e.symm h2
    | bin c' f f2 => obtain ⟨h2, i, j, _, _, _, _, e⟩ := h'; injection e with e _; first | exact absurd e.symm h2 | exact absurd e h2
  | un c f =>
    obtain ⟨h1, i, _, h3, rfl⟩ := h
    cases g with
    | c0 c' => obtain ⟨_, e⟩ := h'; injection e with _ e; injection e with e _; omega
    | sg s => obtain ⟨_, e⟩ := h'; injection e with e _; exact absurd e h1
    | un c' f' =>
      obtain ⟨_, i', _, h4, e⟩ := h'
      injection e with e1 e
      injection e with e2 _
      have e2 : i = i' := by omega
      rw [e2, h4] at h3
      cases h3
      rw [e1]
    | bin c' f' f2 => obtain ⟨_, i', j, _, _, _, _, e⟩ := h'; injection e with _ e; injection e with _ e; omega
  | bin c f f2 =>
    obtain ⟨h1, i, j, _, _, h3, h4, rfl⟩ := h
    cases g with
    | c0 c' => obtain ⟨_, e⟩ := h'; injection e with _ e; injection e with e _; omega
    | sg s => obtain ⟨_, e⟩ := h'; injection e with e _; exact absurd e h1
    | un c' f' => obtain ⟨_, i', _, _, e⟩ := h'; injection e with _ e; injection e with _ e; omega
    | bin c' f' f2' =>
      obtain ⟨_, i', j', _, _, h5, h6, e⟩ := h'
      injection e with e1 e
      injection e with e2 e3
      have e2 : i = i' := by omega
      have e3 : j = j' := by omega
      rw [e2, h5] at h3
      rw [e3, h6] at h4
      cases h3
      cases h4
      rw [e1]
def pc (P : List Pt) : Nat := (P.filter fun p => decide (p.1 ∈ past)).length
theorem pc_take {P : List Pt} {k : Nat} {p : Pt} (h : P[k]? = some p) : pc (P.take (k + 1)) = pc (P.take k) + tb p.1 := by
  unfold pc tb
  rw [List.take_succ, h, List.filter_append, List.length_append]
  rw [Option.toList_some, List.filter_cons, List.filter_nil]
  by_cases c : p.1 ∈ past
  · rw [if_pos c, if_pos (decide_eq_true c)]
    rfl
  · rw [if_neg c, if_neg (by rw [decide_eq_true_eq]; exact c)]
    rfl
theorem pc_mono {P : List Pt} {i j : Nat} (h : i ≤ j) : pc (P.take i) ≤ pc (P.take j) := by
  unfold pc
  rw [← List.countP_eq_length_filter, ← List.countP_eq_length_filter]
  exact (List.take_sublist_take_left h).countP_le
theorem pd_pc {nm : List Str} {P : List Pt} {Fs : List Fm} (G : Good nm P Fs) : ∀ k f, Fs[k]? = some f → pd f ≤ pc (P.take (k + 1)) := by
  intro k
  induction k using Nat.strongRecOn with
  | _ k ih =>
    intro f hf
    have hk : k < P.length := by
      rw [G.len]
      exact (List.getElem?_eq_some_iff.mp hf).1
    have hp : P[k]? = some P[k] := List.getElem?_eq_getElem hk
    have n := G.nd k f _ hf hp
    rw [pc_take hp]
    generalize P[k] = p at n
    cases f with
    | c0 c => obtain ⟨_, rfl⟩ := n; exact Nat.le_add_left _ _
    | sg s => exact Nat.zero_le _
    | un c f =>
      obtain ⟨_, i, hi, h3, rfl⟩ := n
      have := ih i hi f h3
      have := pc_mono (P := P) (show i + 1 ≤ k by omega)
      show pd f + tb c ≤ _ + tb c
      omega
    | bin c f g =>
      obtain ⟨_, i, j, hi, hj, h3, h4, rfl⟩ := n
      have := ih i hi f h3
      have := ih j hj g h4
      have := pc_mono (P := P) (show i + 1 ≤ k by omega)
      have := pc_mono (P := P) (show j + 1 ≤ k by omega)
      show max (pd f) (pd g) + tb c ≤ _ + tb c
      omega
end Tr
namespace Bx
open PySem PySem.Spec PyProof.Rows L2 Tr Tx
section
variable {X : Cx} {K : PySem.W.Frag}
theorem op_inK (h : X.K = K) : OpR X (compareOp .In) (rIn K false) := by
  subst h
  exact op_in_seq
theorem op_notInK (h : X.K = K) : OpR X (compareOp .NotIn) (rIn K true) := by
  subst h
  exact op_notIn_seq
theorem mt_indexK (h : X.K = K) : MtR X "list.index" (rIndex K) := by
  subst h
  exact mt_index
theorem pe_revLK {e : Expr} {te : TE} {k : Nat} {p1 p2 p3 pos : Pos} (h : X.K = K) (he : PE X e te) : PE X (.Subscript e (.Slice none none (some (.UnaryOp .USub (.Constant (.int 1) k p1) p2)) p3) pos) (tRevL K te) := by
  subst h
  exact pe_revL he
end
theorem in_strs (k : Str) : ∀ ss : List Str, inV (.str k) (ss.map V.str) = decide (k ∈ ss)
  | [] => by simp [inV]
  | s :: ss => by
    have ih := in_strs k ss
    unfold inV at ih ⊢
    rw [List.map_cons, List.any_cons, ih]
    show ((s == k) || _) = _
    by_cases c : s = k
    · subst c
      simp
    · have c2 : k ≠ s := fun z => c z.symm
      simp [c, c2]
theorem flat_strs : ∀ ss : List Str, (ss.map V.str).all flatV = true
  | [] => rfl
  | _ :: ss => by
    rw [List.map_cons, List.all_cons, flat_strs ss]
    rfl
theorem inq {K : PySem.W.Frag} {H : Hp} {p : Addr} {ss : List Str} {k : Str} {Q : VK} (h : SqT K H p (ss.map V.str)) (q : Q (.bl (decide (k ∈ ss))) H) : rIn K false (.str k) (.ref p) H Q :=
  ⟨p, _, rfl, .inr h, rfl, flat_strs ss, by rw [in_strs]; exact q⟩
theorem rev0 : pk3 ([] : List V) none none (-1) = [] := by simp [pk3, Builtin.Slice.slicePlaces, Builtin.Slice.sliceAdjust]
theorem rev1 (x : V) : pk3 [x] none none (-1) = [x] := by
  have e : Builtin.Slice.slicePlaces (Builtin.Slice.sliceAdjust none none (-1) ((1 : Nat) : Int)).1 (Builtin.Slice.sliceAdjust none none (-1) ((1 : Nat) : Int)).2 (-1) = 1 := by decide
  unfold pk3
  rw [show [x].length = 1 from rfl, e]
  rfl
theorem rev2 (x y : V) : pk3 [x, y] none none (-1) = [y, x] := by
  have e : Builtin.Slice.slicePlaces (Builtin.Slice.sliceAdjust none none (-1) ((2 : Nat) : Int)).1 (Builtin.Slice.sliceAdjust none none (-1) ((2 : Nat) : Int)).2 (-1) = 2 := by decide
  unfold pk3
  rw [show [x, y].length = 2 from rfl, e]
  rfl
/-! ### formulas in the heap -/
theorem sqt_same {K : PySem.W.Frag} {H H' : Hp} {a : Addr} {xs : List V} (e : Same H H') (h : SqT K H a xs) : SqT K H' a xs := by
  rcases h with (h | ⟨o, h⟩) | h
  · exact .inl (.inl (e _ _ h))
  · exact .inl (.inr ⟨o, e _ _ h⟩)
  · exact .inr h
theorem sqt_kp {K : PySem.W.Frag} {H H' : Hp} {d a : Addr} {xs : List V} {ys : List V} (hd : H d = some (.lst ys)) (e : Kp d H H') (h : SqT K H a xs) : SqT K H' a xs := by
  rcases h with (h | ⟨o, h⟩) | h
  · exact .inl (.inl (e _ _ (ne_of h hd (by intro z; cases z)) h))
  · exact .inl (.inr ⟨o, e _ _ (ne_of h hd (by intro z; cases z)) h⟩)
  · exact .inr h
def FmAt (K : PySem.W.Frag) (H : Hp) : V → Fm → Prop
  | v, .c0 k => ∃ a, v = .ref a ∧ SqT K H a [.str k]
  | v, .sg s => ∃ a, v = .ref a ∧ SqT K H a [.str sSig, .str s]
  | v, .un k f => ∃ a x, v = .ref a ∧ SqT K H a [.str k, x] ∧ FmAt K H x f
  | v, .bin k f g => ∃ a x y, v = .ref a ∧ SqT K H a [.str k, x, y] ∧ FmAt K H x f ∧ FmAt K H y g
theorem FmAt.same {K : PySem.W.Frag} {H H' : Hp} (e : Same H H') : ∀ {f : Fm} {v : V}, FmAt K H v f → FmAt K H' v f
  | .c0 _, _, ⟨a, h1, h2⟩ => ⟨a, h1, sqt_same e h2⟩
  | .sg _, _, ⟨a, h1, h2⟩ => ⟨a, h1, sqt_same e h2⟩
  | .un _ _, _, ⟨a, x, h1, h2, h3⟩ => ⟨a, x, h1, sqt_same e h2, h3.same e⟩
  | .bin _ _ _, _, ⟨a, x, y, h1, h2, h3, h4⟩ => ⟨a, x, y, h1, sqt_same e h2, h3.same e, h4.same e⟩
theorem FmAt.kp {K : PySem.W.Frag} {H H' : Hp} {d : Addr} {ys : List V} (hd : H d = some (.lst ys)) (e : Kp d H H') : ∀ {f : Fm} {v : V}, FmAt K H v f → FmAt K H' v f
  | .c0 _, _, ⟨a, h1, h2⟩ => ⟨a, h1, sqt_kp hd e h2⟩
  | .sg _, _, ⟨a, h1, h2⟩ => ⟨a, h1, sqt_kp hd e h2⟩
  | .un _ _, _, ⟨a, x, h1, h2, h3⟩ => ⟨a, x, h1, sqt_kp hd e h2, h3.kp hd e⟩
  | .bin _ _ _, _, ⟨a, x, y, h1, h2, h3, h4⟩ => ⟨a, x, y, h1, sqt_kp hd e h2, h3.kp hd e, h4.kp hd e⟩
/-- its sign -/
theorem FmAt.tup {K : PySem.W.Frag} {H : Hp} : ∀ {f : Fm} {v : V}, FmAt K H v f → ∃ a xs, v = .ref a ∧ SqT K H a (.str (kd f) :: xs)
  | .c0 _, _, ⟨a, h1, h2⟩ => ⟨a, _, h1, h2⟩
  | .sg _, _, ⟨a, h1, h2⟩ => ⟨a, _, h1, h2⟩
  | .un _ _, _, ⟨a, x, h1, h2, h3⟩ => ⟨a, _, h1, h2⟩
  | .bin _ _ _, _, ⟨a, x, y, h1, h2, h3, h4⟩ => ⟨a, _, h1, h2⟩
def FmsAt (K : PySem.W.Frag) (H : Hp) : List V → List Fm → Prop
  | [], [] => True
  | v :: vs, f :: fs => FmAt K H v f ∧ FmsAt K H vs fs
  | _, _ => False
theorem FmsAt.same {K : PySem.W.Frag} {H H' : Hp} (e : Same H H') : ∀ {vs : List V} {fs : List Fm}, FmsAt K H vs fs → FmsAt K H' vs fs
  | [], [], _ => trivial
  | _ :: _, _ :: _, h => ⟨h.1.same e, h.2.same e⟩
theorem FmsAt.kp {K : PySem.W.Frag} {H H' : Hp} {d : Addr} {ys : List V} (hd : H d = some (.lst ys)) (e : Kp d H H') : ∀ {vs : List V} {fs : List Fm}, FmsAt K H vs fs → FmsAt K H' vs fs
  | [], [], _ => trivial
  | _ :: _, _ :: _, h => ⟨h.1.kp hd e, h.2.kp hd e⟩
theorem FmsAt.len {K : PySem.W.Frag} {H : Hp} : ∀ {vs : List V} {fs : List Fm}, FmsAt K H vs fs → vs.length = fs.length
  | [], [], _ => rfl
  | _ :: _, _ :: _, h => congrArg (· + 1) h.2.len
theorem FmsAt.app {K : PySem.W.Frag} {H : Hp} : ∀ {vs us : List V} {fs gs : List Fm}, FmsAt K H vs fs → FmsAt K H us gs → FmsAt K H (vs ++ us) (fs ++ gs)
  | [], _, [], _, _, h => h
  | _ :: _, _, _ :: _, _, h, h' => ⟨h.1, h.2.app h'⟩
theorem FmsAt.rev {K : PySem.W.Frag} {H : Hp} : ∀ {vs : List V} {fs : List Fm}, FmsAt K H vs fs → FmsAt K H vs.reverse fs.reverse
  | [], [], _ => trivial
  | v :: vs, f :: fs, h => by
    rw [List.reverse_cons, List.reverse_cons]
    exact h.2.rev.app ⟨h.1, trivial⟩
theorem FmsAt.get {K : PySem.W.Frag} {H : Hp} : ∀ {vs : List V} {fs : List Fm} {i : Nat} {v : V}, FmsAt K H vs fs → vs[i]? = some v → ∃ f, fs[i]? = some f ∧ FmAt K H v f
  | [], [], _, _, _, e => by simp at e
  | v :: vs, f :: fs, 0, _, h, e => ⟨f, rfl, by cases e; exact h.1⟩
  | _ :: vs, _ :: fs, i + 1, _, h, e => by
    rw [List.getElem?_cons_succ] at e ⊢
    exact h.2.get e
/-! ### promises -/
def bi (b : Bool) : Int := if b = true then 1 else 0
/-- a module's tuple of texts -/
structure GloT (K : PySem.W.Frag) (mg : Str → Option Value) (x : Str) (ss : List Str) (a : Addr) : Prop where
  g : mg x = some (.ref a)
  q : ∀ H, SqT K H a (ss.map V.str)
def spOpers (K : PySem.W.Frag) : Sp := fun vs H Q _ => ∃ (v : V) (f : Fm) (nm : List Str), vs = [v] ∧ FmAt K H v f ∧ Wf nm f ∧
  ∀ (H' : Hp) (p : Addr) (xs : List V), Same H H' → H' p = some (.tup xs) → FmsAt K H' xs (kids f) → Q (.ref p) H'
def spSubs (K : PySem.W.Frag) : Sp := fun vs H Q _ => ∃ (v : V) (f : Fm) (nm : List Str), vs = [v] ∧ FmAt K H v f ∧ Wf nm f ∧ sz f ≤ 1000 ∧
  ∀ (H' : Hp) (p : Addr) (xs : List V), Same H H' → H' p = some (.lst xs) → FmsAt K H' xs (pre f) → Q (.ref p) H'
def PtsAt (H : Hp) : List Addr → List Pt → Prop
  | [], [] => True
  | a :: as, p :: ps => H a = some (.tup [.str p.1, .int p.2.1, .int p.2.2]) ∧ PtsAt H as ps
  | _, _ => False
def spParts (K : PySem.W.Frag) : Sp := fun vs H Q _ => ∃ (v : V) (n : Addr) (f : Fm) (nm : List Str), vs = [v, .ref n] ∧ FmAt K H v f ∧ SqL K H n (nm.map V.str) ∧ Wf nm f ∧ sz f ≤ 1000 ∧
  ∀ (H' : Hp) (p : Addr) (as : List Addr) (P : List Pt) (Fs : List Fm), Same H H' → H' p = some (.lst (as.map V.ref)) → PtsAt H' as P → Good nm P Fs → Fs.getLast? = some f → P.length ≤ 1000 → Q (.ref p) H'
def spTof : Sp := fun vs H Q _ => ∃ (k : Str) (a b c : Bool), vs = [.str k, .int (bi a), .int (bi b), .int (bi c), .int 1] ∧ ∀ H', Same H H' → Q (.int (bi (tofB k a b c))) H'
def spPl : Sp := fun vs H Q _ => ∃ (k : Str) (a b : Bool), vs = [.str k, .int (bi a), .int (bi b), .int 1] ∧ ∀ H', Same H H' → Q (.int (bi (plB k a b))) H'
def Arr (H : Hp) (a : Addr) (N : Nat) (s : Nat → Bool) : Prop := H a = some (.lst ((List.range N).map fun t => V.int (bi (s t))))
def spPast : Sp := fun vs H Q _ => ∃ (k : Str) (l r : Addr) (N : Nat) (a b : Nat → Bool), vs = [.str k, .ref l, .ref r] ∧ k ∈ past ∧ Arr H l N a ∧ Arr H r N b ∧ N ≤ 1000000 ∧
  ∀ (H' : Hp) (p : Addr), Same H H' → Arr H' p N (sq k a b) → Q (.ref p) H'
def spFut : Sp := fun vs H Q _ => ∃ (k : Str) (l r : Addr) (m L : Nat) (a b : Nat → Bool), vs = [.str k, .ref l, .ref r, .int m] ∧ ¬ k ∈ past ∧ k ∈ future ∧ 0 < L ∧ Pd a m L ∧ Pd b m L ∧ Arr H l (m + L) a ∧ Arr H r (m + L) b ∧ m + L ≤ 1000000 ∧
  ∀ (H' : Hp) (p : Addr), Same H H' → Arr H' p (m + L) (sq k a b) → Q (.ref p) H'
def ArrsAt (H : Hp) (N : Nat) : List Addr → List (Nat → Bool) → Prop
  | [], [] => True
  | a :: as, s :: ss => Arr H a N s ∧ ArrsAt H N as ss
  | _, _ => False
def spPv (K : PySem.W.Frag) : Sp := fun vs H Q _ => ∃ (p q : Addr) (h m L : Nat) (as : List Addr) (P : List Pt) (Fs : List Fm) (nm : List Str) (x : Nat → Int), vs = [.ref p, .ref q, .int m] ∧ H p = some (.lst (as.map V.ref)) ∧ PtsAt H as P ∧ P.length ≤ 1000 ∧
  TupI H q ((List.range (m + L)).map x) ∧ 0 < L ∧ m + L ≤ 1000000 ∧ h + pc P * L ≤ m ∧ (∀ t, h ≤ t → x (t + L) = x t) ∧ (∀ t, 0 ≤ x t) ∧ Good nm P Fs ∧
  ∀ (H' : Hp) (f : Addr) (fs : List Addr), Same H H' → H' f = some (.lst (fs.map V.ref)) → ArrsAt H' (m + L) fs (Fs.map (sem nm x)) → Q (.ref f) H'
def spTw (K : PySem.W.Frag) : Sp := fun vs H Q _ => ∃ (v : V) (n p : Addr) (f : Fm) (nm : List Str) (h l : List Int), vs = [v, .ref n, .ref p] ∧ FmAt K H v f ∧ SqL K H n (nm.map V.str) ∧ nm.length ≤ 30 ∧ Wf nm f ∧ sz f ≤ 500 ∧ Las H p h l ∧ l ≠ [] ∧ h.length ≤ 300 ∧ l.length ≤ 300 ∧
  (∀ z, z ∈ h ∨ z ∈ l → 0 ≤ z ∧ z < 2 ^ nm.length) ∧
  ∀ (H' : Hp) (q : Addr) (h' l' : List Int), Same H H' → Las H' q h' l' → Nrm h' l' → (∀ t, wat h' l' t = bi (sem nm (wat h l) f t)) → Q (.ref q) H'
end Bx
/-! ### own rules: set(xs), xs a list of texts; sorted of it -/
namespace Sxt
open PySem PySem.Spec PyProof.Rows L2 PySem.Froz
abbrev nul (w : World) : Obj := { cls := .type "set", dict := none, data := .set #[] 0 (.fresh 0 0 (!w.params.followText "set-order")) }
theorem strs_len : ∀ {us : List Value} {xs : List Str}, StrsAre us xs → us.length = xs.length
  | _, _, .nil => rfl
  | _, _, .cons _ _ t => by rw [List.length_cons, List.length_cons, strs_len t]
theorem addTx_keeps {h : Int} {v : Value} {D : SD} (r : Ris D.2.2.place.toList) : Ris (addTx h v D).2.2.place.toList ∧ (addTx h v D).2.2.led = D.2.2.led := by
  obtain ⟨es, ep, t⟩ := D
  have a := layNew_ris t es h v r
  have b := layNew_led t es h v
  unfold addTx tailTx
  dsimp only
  generalize layNew t es h v = Z at a b ⊢
  obtain ⟨es1, t1, wd, gv⟩ := Z
  dsimp only at a b ⊢
  have c : Ris (if t1.plain = true then { t1 with plain := false } else t1).place.toList ∧ (if t1.plain = true then { t1 with plain := false } else t1).led = t.led := by
    split
    · exact ⟨a, b⟩
    · exact ⟨a, b⟩
  generalize (if t1.plain = true then { t1 with plain := false } else t1) = t2 at c ⊢
  split
  · exact ⟨relayAll_ris _ _ _, by rw [relayAll_led]; exact c.2⟩
  · exact c
/-- the set at a holds the texts us -/
def SetTx (P : Program) (w : World) (h : Heap) (a : Addr) (us : List Str) : Prop :=
  ∃ D : SD, h.get? a = some (sObj "set" D) ∧ TxOk P w D us ∧ us.Nodup ∧ Ris D.2.2.place.toList ∧ (w.params.followText "set-order" = true ∨ D.2.2.led = true)
theorem SetTx.at {P : Program} {w : World} {h h' : Heap} {a : Addr} {us : List Str} (R : SetTx P w h a us) (k : ∀ o, h.get? a = some o → h'.get? a = some o) : SetTx P w h' a us := by
  obtain ⟨D, ho, r⟩ := R
  exact ⟨D, k _ ho, r⟩
theorem SetTx.new {P : Program} {w : World} {h : Heap} {a : Addr} (ho : h.get? a = some (nul w)) : SetTx P w h a [] :=
  ⟨(#[], 0, .fresh 0 0 (!w.params.followText "set-order")), ho, TxOk.nil (by rfl), List.nodup_nil, List.Pairwise.nil, by
    show _ ∨ (!w.params.followText "set-order") = true
    cases w.params.followText "set-order"
    · exact .inr rfl
    · exact .inl rfl⟩
section
variable {P : Program} {w : World} {A : Around} {E : Value → Shared → Prop} {s : Shared}
theorem old_x {a : Addr} {T : String} {D : SD} {l : List Str} {k : Str} {u : Tok} {Q : Bool → Shared → Prop} (ho : s.heap.get? a = some (sObj T D)) (F : TxOk P w D l) (hk : k ∈ l) (hb : l.length < scanBound)
    (h : Q false s) : wpAny (model P w) A (setAddHashed a (.str k u) (hashStr w k)) Q E s := by
  obtain ⟨es, ep, t⟩ := D
  have hel : ElemsOf (strKind P w) es.toList := F.el
  have hsz : es.size = l.length := F.sz
  have hkey : (strKind P w).is k (.str k u) = true := is_str k u
  obtain ⟨e, he, q⟩ := (F.mem k).mp hk
  cases hr : List.findIdx? (fun e => (strKind P w).is k e.2) es.toList with
  | none =>
    have c := List.findIdx?_eq_none_iff.mp hr e he
    rw [q] at c
    cases c
  | some j =>
    unfold setAddHashed setAddHashedIn
    refine wpAny_holding (wpAny_bind (wpAny_setState_of ho rfl F.fit ?_))
    dsimp only
    rw [byScan_of rfl (show es.size < scanBound by omega) hel]
    simp only [↓reduceIte]
    unfold setAddByScan
    refine wpAny_bind ?_
    refine wpAny_bind (wpAny_rule ?_)
    refine wpAny_bind (wpAny_setScan_of (knd := strKind P w) (k := k) hkey ho rfl F.fit hel ?_)
    rw [hr]
    dsimp only
    exact wpAny_pure (wpAny_pure h)
/-- one more text -/
theorem more_x {a : Addr} {us : List Str} {k : Str} {u : Tok} {Q : Bool → Shared → Prop} (R : SetTx P w s.heap a us) (hb : us.length + 1 < scanBound)
    (h : ∀ b h' us', (∀ c, c ≠ a → h'.get? c = s.heap.get? c) → SetTx P w h' a us' → (∀ z, z ∈ us' ↔ z = k ∨ z ∈ us) → us'.length ≤ us.length + 1 → Q b { s with heap := h' }) : wpAny (model P w) A (setAddHashed a (.str k u) (hashStr w k)) Q E s := by
  obtain ⟨D, ho, F, nd, r, hl⟩ := R
  by_cases c : k ∈ us
  · refine old_x ho F c (by omega) ?_
    exact h false s.heap us (fun _ _ => rfl) ⟨D, ho, F, nd, r, hl⟩ (fun z => ⟨.inr, fun q => q.elim (fun e => e ▸ c) id⟩) (Nat.le_succ _)
  · refine add_x ho F c hb ?_
    obtain ⟨k1, k2⟩ := addTx_keeps (h := hashStr w k) (v := .str k u) r
    refine h true _ (k :: us) (fun b hb' => Heap.get?_update_other _ _ (Ne.symm hb')) ⟨_, get_upd _ ho rfl, add_ok u F, List.nodup_cons.mpr ⟨c, nd⟩, k1, ?_⟩ (fun z => List.mem_cons) (Nat.le_refl _)
    rw [k2]; exact hl
/-- us holds what ns holds, once each -/
def Hol (ns us : List Str) (i : Nat) : Prop := us.length ≤ i ∧ ∀ z, z ∈ us ↔ z ∈ ns.take i
theorem update_x {I : Addr} {fp wr : List Addr} {G : Array GenState → Array GenState → Prop} {n : Nat} {Pv : Nat → Value → Prop} {St : Nat → Shared → Prop} {R : Result → Shared → Prop}
    (W : WalksS P w A.in1 I fp wr G n Pv St) (S : Addr) (hSf : S ∉ fp) (ns : List Str) (hn : n = ns.length) (hb : ns.length + 1 < scanBound) (hval : ∀ i v, Pv i v → ∃ k t, ns[i]? = some k ∧ v = .str k t) :
    ∀ (k i : Nat) (s : Shared), n - i = k → i ≤ n → St i s → (∃ us, Hol ns us i ∧ SetTx P w s.heap S us) →
      (∀ s' us, Moved (S :: wr) G s s' → Hol ns us n → SetTx P w s'.heap S us → R (.ok (.ret .none)) s') →
      codeAny (model P w) A (.builtin "set.update.loop" ⟨[.ref S, .ref I], []⟩) R s := by
  have hSw : S ∉ wr := fun h => hSf (W.sub _ h)
  have hsub : ∀ b ∈ wr, b ∈ S :: wr := fun b hb => List.mem_cons_of_mem _ hb
  intro k
  induction k with
  | zero =>
    intro i s hk' hi hst ⟨us, hc, hS⟩ hR
    have hin : i = n := by omega
    subst hin
    refine codeAny_builtin F.entry_set_update_loop ?_
    rw [Around.under_plainId F.plain_set_update_loop _]
    show wpAny _ A.in1 (pyNext (.ref I) >>= _) _ _ s
    refine wpAny_bind (W.done s _ _ hst fun s' hm => ?_)
    show wpAny _ A.in1 (ret Value.none) _ _ s'
    exact wpAny_pure (hR s' us (hm.mono hsub) hc (hS.at fun o e => hm.heap S o hSw e))
  | succ k ih =>
    intro i s hk' hi hst ⟨us, hc, hS⟩ hR
    have hlt : i < n := by omega
    refine codeAny_builtin F.entry_set_update_loop ?_
    rw [Around.under_plainId F.plain_set_update_loop _]
    show wpAny _ A.in1 (pyNext (.ref I) >>= _) _ _ s
    refine wpAny_bind (W.item i s _ _ hlt hst fun v s' hP hst' hm => ?_)
    obtain ⟨z, t, hz, rfl⟩ := hval i v hP
    have hS' : SetTx P w s'.heap S us := hS.at fun o e => hm.heap S o hSw e
    show wpAny _ A.in1 (holding [Value.str z t] (setAdd S (.str z t)) >>= _) _ _ s'
    refine wpAny_bind (wpAny_holding ?_)
    unfold setAdd
    refine wpAny_holding ?_
    refine wpAny_bind ((strKind P w).pyHash (k := z) (is_str z t) ?_)
    refine more_x (s := { s' with toks := s'.toks + 1 }) hS' (by have := hc.1; omega) fun b h' us' hoth hS2 hm2 hl2 => ?_
    have hc3 : Hol ns us' (i + 1) := by
      refine ⟨by have := hc.1; omega, fun y => ?_⟩
      rw [hm2, List.take_add_one, hz, List.mem_append, hc.2]
      show _ ↔ _ ∨ y ∈ [z]
      rw [List.mem_singleton]
      exact Or.comm
    refine wpAny_pure ⟨plainId_quiet F.plain_set_update_loop _, ih (i + 1) _ (by omega) hlt (W.frame _ s' _ _ hst' (Nat.le_succ _) fun b hb o e => ?_) ⟨_, hc3, hS2⟩ fun s'' c2 hm'' hc'' hS'' => ?_⟩
    · rw [hoth b (fun h : b = S => hSf (by rw [← h]; exact hb))]; exact e
    · refine hR s'' c2 (Moved.trans W.gtrans ((hm.mono hsub).then_heap (Nat.le_succ _) fun b o hb e => ?_) hm'') hc'' hS''
      rw [hoth b (fun h : b = S => hb (by rw [h]; exact List.mem_cons_self))]; exact e
/-- what the filling leaves behind -/
def Filled (P : Program) (w : World) (s : Shared) (ns : List Str) (s2 : Shared) : Prop := ∃ h' tk us, s2 = { s with heap := h', toks := tk } ∧ SetTx P w h' s.heap.objs.size us ∧ Hol ns us ns.length ∧ ∀ b o, s.heap.get? b = some o → h'.get? b = some o
theorem set_of_tx {l : Addr} {items : Array Value} (ns : List Str) {Q : Value → Shared → Prop} (hh : A.handled = none) (hl : s.heap.IsList l items) (hit : StrsAre items.toList ns) (hb : ns.length + 1 < scanBound)
    (h : ∀ s2, Filled P w s ns s2 → Q (.ref s.heap.objs.size) s2) : wpAny (model P w) A (call (.type "set") [.ref l]) Q E s := by
  have hisz : items.size = ns.length := by
    have q := strs_len hit
    rwa [Array.length_toList] at q
  have hS : (s.heap.push (nul w)).get? s.heap.objs.size = some (nul w) := Heap.get?_push_size _ rfl
  have hlt : l < s.heap.objs.size := by
    obtain ⟨o, ho, _⟩ := hl
    exact Heap.lt_size ho
  obtain ⟨c, tl, hmro⟩ := F.called_set.mro
  have m1 := F.called_set.made
  have m2 := F.called_set.sub
  refine wpAny_call (codeAny_of_tree ?_)
  show wpAny _ _ (callAny (.type "set") _) _ _ _
  refine wpAny_pure ⟨Code.quiet_builtin _ (by decide +kernel), codeAny_builtin F.entry_type_call ?_⟩
  rw [Around.under_plain (weight_type_call_type "set" [.ref l] []) rfl]
  have m3 := F.called_set.notType
  have m4 := F.called_set.canCreate
  have m5 := F.typeCall_set_1 (.ref l)
  repeat (any_goals (first | assumption | wp_step))
  refine codeAny_mono (code_set_led1 (.ref l) (E := E) (Q₁ := fun obj s1 => obj = .ref s.heap.objs.size ∧ s1 = { s with heap := s.heap.push (nul w) }) ⟨rfl, rfl⟩) fun r s1 hr => ?_
  cases r with
  | error e => exact hr
  | ok fl =>
    cases fl with
    | next => exact hr.elim
    | brk => exact hr.elim
    | cont => exact hr.elim
    | ret obj =>
      obtain ⟨rfl, rfl⟩ := hr
      have hT : Shared.TypeIs { s with heap := s.heap.push (nul w) } (.ref s.heap.objs.size) "set" := ⟨_, hS, rfl⟩
      have m6 := F.called_set.init.lookup
      have m7 := F.called_set.init.bind (.ref s.heap.objs.size)
      repeat (any_goals (first | assumption | wp_step))
      refine codeAny_mono (codeAny_call_builtin (R := wants (fun r s2 => r = .none ∧ Filled P w s ns s2) E) F.called_set.init.plain F.entry_set_init (check_set_init_1 hT ?_)) fun r2 s2 hr2 => ?_
      · obtain ⟨ol, hol, hcl, nl, hdl⟩ := hl
        obtain ⟨ocls, odict, odata, oslots⟩ := ol
        simp only at hcl hdl
        subst hcl
        subst hdl
        have hol' := Heap.get?_push_of_some (nul w) hol
        have q1 := F.sub_list_set
        have q2 := F.sub_list_frozenset
        have q3 : (Value.type "list" == Value.type "dict") = false := by decide
        have hl1 : (s.heap.push (nul w)).IsList l items := ⟨_, hol', rfl, nl, rfl⟩
        unfold Builtin.«set.__init__» noKeywords Builtin.Frozenset.updateFrom
        generalize hPI : pyIter = PI
        wp_walk
        subst hPI
        refine wpAny_pyIter_list hl1 ?_
        refine wpAny_bind (wpAny_runValue ?_)
        have hh3 : A.in1.in1.in1.handled = none := by simp [hh]
        have n1 : l ≠ (s.heap.push (nul w)).objs.size := by
          rw [Heap.size_push]
          exact Nat.ne_of_lt (Nat.lt_succ_of_lt hlt)
        have n2 : s.heap.objs.size ∉ [(s.heap.push (nul w)).objs.size, l] := by
          rw [Heap.size_push]
          simp only [List.mem_cons, List.not_mem_nil, or_false, not_or]
          exact ⟨Nat.ne_of_lt (Nat.lt_succ_self _), Nat.ne_of_gt hlt⟩
        have vals : ∀ (i : Nat) (v : Value), items[i]? = some v → ∃ k t, ns[i]? = some k ∧ v = .str k t := fun i v hv => by
          have hi : i < ns.length := by rw [← hisz]; exact (Array.getElem?_eq_some_iff.mp hv).1
          obtain ⟨t, e⟩ := SS.strs_at hit i v (by rw [Array.getElem?_toList]; exact hv)
          exact ⟨ns[i], t, List.getElem?_eq_getElem hi, by rw [e, List.getD_eq_getElem?_getD, List.getElem?_eq_getElem hi]; rfl⟩
        refine update_x ((Walks.list hh3 _ l n1 items).toS) s.heap.objs.size n2 ns hisz hb vals (items.size - 0) 0 _ (by omega) (Nat.zero_le _)
          ⟨⟨_, Heap.get?_push_size _ rfl, rfl, rfl⟩, (hl1.push _)⟩ ⟨[], ⟨Nat.le_refl 0, fun z => by simp⟩, SetTx.new (Heap.get?_push_of_some _ hS)⟩ fun s' c' hm hc' hS' => ?_
        obtain ⟨h', g2, d', tk', os'⟩ := s'
        obtain rfl : g2 = s.gens := hm.gens
        obtain rfl : d' = s.drawn := hm.drawn
        obtain rfl : os' = s.os := hm.os
        show wpAny _ _ _ _ _ _
        refine wpAny_pure ?_
        show wpAny _ _ (ret Value.none) _ _ _
        rw [hisz] at hc'
        refine wpAny_pure ⟨rfl, h', tk', c', rfl, hS', hc', fun b o e => ?_⟩
        have b0 : b < s.heap.objs.size := Heap.lt_size e
        refine hm.heap b o ?_ (Heap.get?_push_of_some _ (Heap.get?_push_of_some _ e))
        rw [Heap.size_push]
        simp only [List.mem_cons, List.not_mem_nil, or_false, not_or]
        exact ⟨Nat.ne_of_lt b0, Nat.ne_of_lt (Nat.lt_succ_of_lt b0)⟩
      · cases r2 with
        | error e => exact hr2
        | ok fl2 =>
          cases fl2 with
          | next => exact hr2.elim
          | brk => exact hr2.elim
          | cont => exact hr2.elim
          | ret r =>
            obtain ⟨rfl, hf⟩ := hr2
            have hf2 := hf
            obtain ⟨h', tk, c, rfl, _⟩ := hf2
            repeat (any_goals (first | assumption | wp_step))
            exact h _ hf
theorem perm_of_sub : ∀ (l ss : List Str), l.Nodup → (∀ z ∈ l, z ∈ ss) → ss.length ≤ l.length → ss.Perm l
  | [], ss, _, _, h => by rw [List.length_eq_zero_iff.mp (Nat.le_zero.mp h)]
  | x :: l, ss, nd, h, hl => by
    obtain ⟨n1, n2⟩ := List.nodup_cons.mp nd
    have hx := h x List.mem_cons_self
    have p := List.perm_cons_erase hx
    refine p.trans (List.Perm.cons x (perm_of_sub l (ss.erase x) n2 (fun z hz => ?_) ?_))
    · exact (List.mem_erase_of_ne (fun e : z = x => n1 (by rw [← e]; exact hz))).mpr (h z (List.mem_cons_of_mem _ hz))
    · rw [List.length_erase_of_mem hx]
      simp only [List.length_cons] at hl
      omega
theorem strs_of_all : ∀ (vs : List Value), (∀ v ∈ vs, ∃ k t, v = Value.str k t) → StrsAre vs (vs.map strOf)
  | [], _ => .nil
  | v :: vs, h => by
    obtain ⟨k, t, rfl⟩ := h v List.mem_cons_self
    exact .cons k t (strs_of_all vs fun u hu => h u (List.mem_cons_of_mem _ hu))
theorem sorted_tx {a : Addr} {us : List Str} {Q : Value → Shared → Prop} (R : SetTx P w s.heap a us) (hh : A.handled = none) (h64 : us.length < 64)
    (hQ : ∀ s' p (out : Array Value) (c : Nat) (ys : List Str), (∀ b o, s.heap.get? b = some o → s'.heap.get? b = some o) → s'.gens = s.gens → s'.os = s.os → s.heap.objs.size ≤ p →
      s'.heap.get? p = some (seqObj "list" out c) → StrsAre out.toList ys → ys.Perm us → sortedS ys = true → Q (.ref p) s') :
    wpAny (model P w) A (call (.builtin "sorted") [.ref a]) Q E s := by
  obtain ⟨⟨es, ep, t⟩, ho, F, nd, r, hl⟩ := R
  have hsz : es.size = us.length := F.sz
  have hbd : es.size < scanBound := by
    have : scanBound = 4096 := rfl
    omega
  refine Calls.call_function_entry kind_sorted plain_sorted entry_sorted (args_sorted1 _) ?_
  unfold Builtin.«sorted»
  refine wpAny_bind (m := checkCount "sorted" 1 1 _) (wpAny_pure ?_)
  refine wpAny_bind (collect_set (A := A.in1) hh ⟨_, ho, rfl, rfl⟩ F.fit hbd r hl fun s1 vs k1 hz g1 o1 pm => ?_)
  have hvl : vs.length = us.length := by rw [pm.length_eq, List.length_map, Array.length_toList]; exact hsz
  have hI : StrsAre vs (vs.map strOf) := strs_of_all vs fun v hv => by
    obtain ⟨e, he, q⟩ := List.mem_map.mp (pm.mem_iff.mp hv)
    obtain ⟨⟨k, hk, _⟩, _⟩ := F.el e he
    obtain ⟨u, hu⟩ := Value.isStrOf_shape (show Value.isStrOf k e.2 = true from hk)
    exact ⟨k, u, by rw [← q]; exact hu⟩
  have pk : (vs.map strOf).Perm us := by
    refine perm_of_sub us _ nd (fun z hz => ?_) (by rw [List.length_map, hvl]; exact Nat.le_refl _)
    obtain ⟨e, he, q⟩ := (F.mem z).mp hz
    obtain ⟨u, hu⟩ := Value.isStrOf_shape (show Value.isStrOf z e.2 = true from q)
    exact List.mem_map.mpr ⟨e.2, pm.mem_iff.mpr (List.mem_map.mpr ⟨e, he, rfl⟩), by rw [hu]; rfl⟩
  refine wpAny_bind (wpAny_newList ?_ (by rw [hvl, sizeLine_eq]; omega))
  have hoL : (s1.heap.push (seqObj "list" vs.toArray 0)).get? s1.heap.objs.size = some (seqObj "list" vs.toArray 0) := Heap.get?_push_size _ rfl
  refine wpAny_bind (wpAny_holding (wpAny_call_entry slot_list_sort ⟨_, hoL, rfl⟩ entry_list_sort (list_sort_treeK strKind_oneLt hoL hI.keysOf (fun v₁ v₂ rest e => keyKind_strs (by rw [← e]; exact hI)) (by rw [hvl]; exact h64) fun st' hp hs => ⟨_, rfl, ?_⟩) (args_list_sort _)))
  obtain ⟨ys, a1, a2, a3⟩ := sorted_out_str hI hp hs
  obtain ⟨c, hc⟩ := sortedHeap_at (vs := vs) (out := (arrOf st').map (·.2)) hoL
  refine wpAny_pure ⟨_, rfl, hQ _ s1.heap.objs.size _ c ys (fun b u e => ?_) g1 o1 hz hc a1 (a2.trans pk) a3⟩
  have q := k1 b u e
  have hlt := Heap.lt_size q
  show (sortedHeap (s1.heap.push (seqObj "list" vs.toArray 0)) s1.heap.objs.size vs _).get? b = some u
  rw [sortedHeap_old (Nat.ne_of_lt hlt) (by rw [size_push']; exact Nat.lt_succ_of_lt hlt)]
  exact Heap.get?_push_of_some _ q
end
section
variable {X : Cx} {K : PySem.W.Frag} {w : World} {P : Program}
/-- the set of texts at a -/
def SetTxO (P : Program) (w : World) (a : Addr) (us : List Str) : HO := .ext fun h => SetTx P w h a us
theorem setTxO_new {H : Hp} {h : Heap} {a : Addr} {us : List Str} (R : SetTx P w h a us) : ObjOk P w H h a (SetTxO P w a us) := by
  have ⟨_, ho, _⟩ := R
  exact ⟨R, ⟨_, ho⟩, fun h1 h2 p k => SetTx.at p k⟩
/-- set(xs), xs a list of texts -/
def rSetTx (K : PySem.W.Frag) (P : Program) (w : World) : List V → Hp → VK → Prop := fun xs H Q => ∃ (l : Addr) (ns : List Str), xs = [V.ref l] ∧ SqL K H l (ns.map V.str) ∧ ns.length + 1 < scanBound ∧
  ∀ p us, H p = none → us.length ≤ ns.length → (∀ z, z ∈ us ↔ z ∈ ns) → us.Nodup → Q (.ref p) (upd H p (SetTxO P w p us))
theorem cr_setTx (hp : X.prog = P) (h : X.K = K) (hw : X.w = w) (hc : X.calm = true) : CallR X (.type "set") (rSetTx K P w) := by
  subst h
  subst hw
  subst hp
  intro pins s σ H xs us Q I r h
  obtain ⟨l, ns, rfl, hl, hb, q⟩ := h
  rw [Vals.ref1 r]
  obtain ⟨its, rv, pl, hz⟩ := I.list hl
  refine set_of_tx (P := X.prog) (w := X.w) ns (I.ok.hd hc) pl.isList (by simpa using strsAre_of rv) hb fun s2 hf => ?_
  obtain ⟨h', tk, us, rfl, R, hcl, hk⟩ := hf
  have nd := R
  obtain ⟨_, _, _, nd, _⟩ := nd
  have hm := hcl.2
  rw [List.take_length] at hm
  exact ⟨.ref _, upd H s.heap.objs.size (SetTxO X.prog X.w s.heap.objs.size us), I.laid (t' := tk) hk (Nat.le_refl _) (setTxO_new R), rfl, q _ us (I.hok.fresh (Nat.le_refl _)) hcl.1 hm nd⟩
/-- sorted(set of texts), fewer than 64 members -/
def rSortTx (P : Program) (w : World) : List V → Hp → VK → Prop := fun vs H Q => ∃ (a : Addr) (us : List Str), vs = [V.ref a] ∧ H a = some (SetTxO P w a us) ∧ us.length < 64 ∧
  ∀ (ys : List Str) (p : Addr), ys.Perm us → sortedS ys = true → H p = none → Q (.ref p) (upd H p (.lst (ys.map V.str)))
theorem cr_sortTx (hp : X.prog = P) (hw : X.w = w) (hc : X.calm = true) : CallR X (.builtin "sorted") (rSortTx P w) := by
  subst hw
  subst hp
  intro pins s σ H vs us Q I r h
  obtain ⟨a, us, rfl, ha, h64, q⟩ := h
  have R : SetTx X.prog X.w s.heap a us := (I.hok a _ ha).1
  rw [Vals.ref1 r]
  refine sorted_tx R (I.ok.hd hc) h64 fun s' p out c ys k g o hp hg hi pm hs => ?_
  have hlen : (ys.map V.str).length ≤ sizeLine := by rw [List.length_map, pm.length_eq, sizeLine_eq]; omega
  have hn : H p = none := I.hok.fresh hp
  have J : Inv X pins σ (upd H p (.lst (ys.map V.str))) { s with heap := s'.heap, gens := s'.gens, drawn := s'.drawn, toks := s'.toks } :=
    I.call (ch := []) (Un.laid k hp hn) (I.hok.laid k hp ⟨hlen, out.toList, c, vals_of_strs hi, hg⟩) (by rw [g]; exact I.bare) (fun _ z => nomatch z)
  have e : s' = { s with heap := s'.heap, gens := s'.gens, drawn := s'.drawn, toks := s'.toks } := by
    cases s'
    cases s
    cases o
    rfl
  rw [e]
  exact ⟨.ref p, _, J, rfl, q ys p pm hs hn⟩
theorem cr_sortedSK (h : X.K = K) : CallR X (.builtin "sorted") (rSortedS K) := by
  subst h
  exact cr_sortedS
end
end Sxt

/-! ### own rules for a specification: a class whose __init__ has a keyword-only parameter and may raise -/
namespace Spx
open PySem PySem.Spec PyProof.Rows L2 Bx
def sf (i o : Addr) (L : Int) (a g : Addr) (n : Bool) : List (Str × V) := [("inputs", .ref i), ("outputs", .ref o), ("lead", .int L), ("assumptions", .ref a), ("guarantees", .ref g), ("negated", .bl n)]
theorem sf_new (i o L a g n) : putF "negated" (.bl n) (putF "guarantees" (.ref g) (putF "assumptions" (.ref a) (putF "lead" (.int L) (putF "outputs" (.ref o) (putF "inputs" (.ref i) []))))) = sf i o L a g n := by rfl
theorem sl_i (i o L a g n) : (sf i o L a g n).lookup ("inputs" : Str) = some (V.ref i) := by rfl
theorem sl_o (i o L a g n) : (sf i o L a g n).lookup ("outputs" : Str) = some (V.ref o) := by rfl
theorem sl_l (i o L a g n) : (sf i o L a g n).lookup ("lead" : Str) = some (V.int L) := by rfl
theorem sl_a (i o L a g n) : (sf i o L a g n).lookup ("assumptions" : Str) = some (V.ref a) := by rfl
theorem sl_g (i o L a g n) : (sf i o L a g n).lookup ("guarantees" : Str) = some (V.ref g) := by rfl
theorem sl_n (i o L a g n) : (sf i o L a g n).lookup ("negated" : Str) = some (V.bl n) := by rfl
structure SpcC (K : PySem.W.Frag) (C : Addr) : Prop where
  cl : Cls K C
  ni : NoAttr K C "inputs"
  no : NoAttr K C "outputs"
  nl : NoAttr K C "lead"
  na : NoAttr K C "assumptions"
  ng : NoAttr K C "guarantees"
  nn : NoAttr K C "negated"
/-- a class that may be made; its __init__ may raise and has a keyword-only parameter with a default, behind n others -/
structure MakH (P : Program) (w : World) (K : PySem.W.Frag) (mg : Str → Option Value) (base : Heap) (k : Nat) (x : Str) (C : Addr) (n : Nat) (y : Str) (dv : V) (sp : Sp) : Prop where
  ex : ∃ (f : Addr) (fd : FuncData) (ps : List Str), Mk K C f ∧ FnOk P w K mg base (L2.CX P w) k f fd ps sp ∧ mg x = some (.ref C) ∧
    (∃ ds, Vals [dv] ds ∧ Binds K fd ps ds) ∧ ∃ mv : List Value, KBn K fd ps (n + 1) [y] (fun us ws => us ++ mv ++ ws) (fun vs zs => vs ++ [] ++ zs)
section
variable {X : Cx}
/-- the making, once the arguments stand -/
theorem made_to {k : Nat} {f C : Addr} {fd : FuncData} {ps : List Str} {sp : Sp} {E : XK} {pins : List (Addr × Obj)} {σ : L2.St} {H : Hp} {u : Shared} {Q : VK} {us ts : List Value} {kws : List (Str × Value)} {vs : List V} (M : Mk X.K C f) (F : FnOk X.prog X.w X.K X.mg X.base (L2.CX X.prog X.w) k f fd ps sp) (hr : Room (k + 1) X.A)
    (hx : PassesAt (L2.CX X.prog X.w) X σ E) (I : Inv X pins σ H u) (r : ∀ z : Addr, Vals (.ref z :: vs) (.ref z :: ts)) (hb : ∀ z (u2 : Shared), X.K.In u2.heap → BindsTo u2 fd ⟨.ref z :: us, kws⟩ (ps.zip (.ref z :: ts)))
    (h : ∀ x dx, H x = none → H dx = none → dx ≠ x → sp (.ref x :: vs) (upd (upd H dx (.own x)) x (.ins C dx [])) (fun v H2 => v = .non ∧ Q (.ref x) H2) E) :
    wpAny (model X.prog X.w) X.A (call (.ref C) us kws) (EP X pins σ Q) X.xe u := by
  have q0 := h (u.heap.objs.size + 1) u.heap.objs.size (I.hok.fresh (Nat.le_succ _)) (I.hok.fresh (Nat.le_refl _)) (Nat.ne_of_lt (Nat.lt_succ_self _))
  have J := Inv.made (C := C) I
  refine wpAny_call (make_map (f := f) I.kIn M.makes M.init (beq_iff_eq.mp M.fn) (codeAny_mono (F.run _ X.stack _ _ ⟨Value.ref (u.heap.objs.size + 1) :: us, kws⟩ (Value.ref (u.heap.objs.size + 1) :: ts) _ _ E (hr.make C us kws)
    (J.env0.make C us kws) (hb _ _ J.kIn) (r _) q0) fun r u' hq => ?_))
  cases r with
  | error e => exact hx pins _ _ e u' J hq
  | ok fl =>
    cases fl with
    | ret v =>
      obtain ⟨y, G, J3, ry, ey, qy⟩ := J.after hq
      subst ey
      exact ⟨ry, ⟨V.ref (u.heap.objs.size + 1), G, J3, rfl, qy⟩⟩
    | next => exact False.elim hq
    | brk => exact False.elim hq
    | cont => exact False.elim hq
/-- C(e, ..), the keyword-only parameter left out -/
def tMkD (C : Addr) (n : Nat) (dv : V) (sp : Sp) (E : L2.St → XK) (t : TA) : TE := fun σ H Q => t σ H fun vs H1 => vs.length = n ∧ ∀ x dx, H1 x = none → H1 dx = none → dx ≠ x → sp (.ref x :: (vs ++ [dv])) (upd (upd H1 dx (.own x)) x (.ins C dx [])) (fun v H2 => v = .non ∧ Q (.ref x) H2) (E σ)
/-- C(e, .., y = v) -/
def tMkK (C : Addr) (n : Nat) (sp : Sp) (E : L2.St → XK) (t tk : TA) : TE := fun σ H Q => t σ H fun vs H1 => tk σ H1 fun zs H2 => vs.length = n ∧ zs.length = 1 ∧ ∀ x dx, H2 x = none → H2 dx = none → dx ≠ x → sp (.ref x :: (vs ++ zs)) (upd (upd H2 dx (.own x)) x (.ins C dx [])) (fun v H3 => v = .non ∧ Q (.ref x) H3) (E σ)
variable {k j n : Nat} {C : Addr} {x y : Str} {dv : V} {sp : Sp} {E : L2.St → XK} {p pos : Pos} {e : Expr} {es : List Expr} {kws : List Keyword} {t tk : TA}
theorem pe_mkD (c : MakH X.prog X.w X.K X.mg X.base k x C n y dv sp) (hr : Room j X.A) (hk : k + 1 ≤ j) (hx : ∀ σ, PassesAt (L2.CX X.prog X.w) X σ (E σ)) (hg : Gl X x) (ha : PA X (e :: es) t)
    (hdb : (x == ("__debug__" : Str)) = false := by decide) (he : starEach (e :: es) X.env = (false, eval e X.env) :: starEach es X.env := by rfl) (hpl : (backTo pos (starEach es X.env)).any (·.1) = false := by rfl) :
    PE X (.Call (.Name x p) (e :: es) [] pos) (tMkD C n dv sp E t) := by
  obtain ⟨f, fd, ps, M, F, hm, ⟨ds, rd, b⟩, _⟩ := c.ex
  refine ⟨fun pins u σ H Q I hw => ?_⟩
  refine wpAny_Call_Name_kw (ld_glob I hg hm ?_ hdb)
  refine PySem.W.callWith_K (h₀ := X.base) I.ok.mod.kin M.kp (thn (ha.run pos pins u σ H _ I hw) fun us u1 ⟨vs, H1, I1, rv, l1, qv⟩ => ⟨I1.kIn, ?_⟩) he hpl
  refine made_to (ts := us ++ ds) M F (hr.mono hk) (hx σ) I1 (fun z => .cons rfl (rv.append rd)) (fun z u2 k2 => b u2 (.ref z :: us) k2 ?_) qv
  have q0 := qv (u1.heap.objs.size + 1) u1.heap.objs.size (I1.hok.fresh (Nat.le_succ _)) (I1.hok.fresh (Nat.le_refl _)) (Nat.ne_of_lt (Nat.lt_succ_self _))
  have l2 := F.len _ _ _ _ q0
  have l3 := rv.length
  have l4 := rd.length
  simp only [List.length_cons, List.length_append] at l2 l4 ⊢
  omega
theorem pe_mkK (c : MakH X.prog X.w X.K X.mg X.base k x C n y dv sp) (hr : Room j X.A) (hk : k + 1 ≤ j) (hx : ∀ σ, PassesAt (L2.CX X.prog X.w) X σ (E σ)) (hg : Gl X x) (ha : PA X (e :: es) t) (hkw : PK X kws tk)
    (hall : (backToKw pos (keywordEach kws X.env)).all (·.1.isSome) = true := by rfl) (hks : (backToKw pos (keywordEach kws X.env)).filterMap (·.1) = [y] := by rfl) (hdb : (x == ("__debug__" : Str)) = false := by decide)
    (he : starEach (e :: es) X.env = (false, eval e X.env) :: starEach es X.env := by rfl) (hpl : ((backTo pos (starEach (e :: es) X.env)).any (·.1) || (backToKw pos (keywordEach kws X.env)).any (·.1.isNone)) = false := by rfl) :
    PE X (.Call (.Name x p) (e :: es) kws pos) (tMkK C n sp E t tk) := by
  obtain ⟨f, fd, ps, M, F, hm, _, mv, hb⟩ := c.ex
  refine ⟨fun pins s σ H Q I h => ?_⟩
  refine wpAny_Call_Name_kw (ld_glob I hg hm ?_ hdb)
  refine PySem.W.callWith_KW (h₀ := X.base) I.ok.mod.kin M.kp hall (thn (ha.run pos pins s σ H _ I h) fun us s1 ⟨vs, H1, I1, r, q⟩ => ?_) hpl he
  refine thn (hkw.run pos pins s1 σ H1 _ I1 q) fun ws s2 ⟨zs, H2, I2, rz, l1, l2, q2⟩ => ⟨I2.kIn, ?_⟩
  rw [hks]
  have lw := rz.length
  have lv := r.length
  refine made_to (us := us) (ts := us ++ mv ++ ws) (vs := vs ++ zs) M F (hr.mono hk) (hx σ) I2 (fun z => ?_) (fun z u2 k2 => ?_) q2
  · have := hb.rel (vs := .ref z :: vs) (us := .ref z :: us) (.cons rfl r) rz
    rw [List.append_nil] at this
    exact this
  · exact hb.to u2 (.ref z :: us) ws k2 (by rw [List.length_cons]; omega) (by show ws.length = 1; omega)
theorem hxX {W : WX} (tk : Takes X W) : ∀ σ, PassesAt (L2.CX X.prog X.w) X σ (WE W σ) := fun σ => passAt tk σ
theorem hxN : ∀ σ : L2.St, PassesAt (L2.CX X.prog X.w) X σ ((fun _ => fun _ _ _ => False : L2.St → XK) σ) := fun σ pins G v e v' J q => passF pins σ G v e v' J q
theorem cr_allK {K : PySem.W.Frag} (h : X.K = K) (hc : X.calm = true) : CallR X (.builtin "all") (rAll K) := by
  subst h
  exact cr_all hc
end
section
variable {X : Cx} {w : World} {P : Program}
/-- len of a set of texts -/
def rLenTx (P : Program) (w : World) : List V → Hp → VK → Prop := fun xs H Q => ∃ (a : Addr) (us : List Str), xs = [V.ref a] ∧ H a = some (Sxt.SetTxO P w a us) ∧ us.length < 4096 ∧ Q (.int (us.length : Nat)) H
theorem call_lenTx (hp : X.prog = P) (hw : X.w = w) : CallR X (.builtin "len") (rLenTx P w) := by
  subst hp hw
  intro pins s σ H xs us Q I r h
  obtain ⟨a, ks, rfl, ha, hl, q⟩ := h
  rw [Vals.ref1 r]
  have R : Sxt.SetTx X.prog X.w s.heap a ks := (I.hok a _ ha).1
  obtain ⟨⟨es, ep, t⟩, ho, F, _⟩ := R
  have hz : es.size = ks.length := F.sz
  refine call_len_set (es := es) ho ⟨rfl, rfl, rfl⟩ rfl F.fit (by omega) ⟨.int (ks.length : Nat), H, I.tok _, ⟨_, by rw [hz]⟩, q⟩
end
end Spx

namespace Dm
open PySem PySem.Builtin TL
def pad (k : Nat) (l : List Nat) : List Nat := List.replicate (k - l.length) 48 ++ l
theorem pad_snoc (k : Nat) (l : List Nat) (c : Nat) : pad (k + 1) (l ++ [c]) = pad k l ++ [c] := by
  unfold pad
  rw [List.length_append, show k + 1 - (l.length + [c].length) = k - l.length by simp only [List.length_singleton]; omega, List.append_assoc]
theorem numL_pad : ∀ (k q r : Nat), 1 ≤ q → r < 10 ^ (k + 1) → numL (q * 10 ^ (k + 1) + r) = numL q ++ pad (k + 1) (numL r)
  | 0, q, r, hq, hr => by
    have hr : r < 10 := by simpa using hr
    rw [numL_step (by omega), show (q * 10 ^ (0 + 1) + r) / 10 = q by omega, show (q * 10 ^ (0 + 1) + r) % 10 = r by omega, numL_lt hr]
    rfl
  | k + 1, q, r, hq, hr => by
    have e1 : q * 10 ^ (k + 1 + 1) + r = (q * 10 ^ (k + 1)) * 10 + r := by rw [Nat.pow_succ 10 (k + 1), Nat.mul_assoc]
    have hp : 1 ≤ 10 ^ (k + 1) := Nat.one_le_iff_ne_zero.mpr (Nat.pos_iff_ne_zero.mp (Nat.pow_pos (by decide)))
    have hq1 : 1 ≤ q * 10 ^ (k + 1) := Nat.mul_le_mul hq hp
    have hr2 : r / 10 < 10 ^ (k + 1) := by
      rw [Nat.pow_succ 10 (k + 1)] at hr
      omega
    rw [e1, numL_step (by omega), show ((q * 10 ^ (k + 1)) * 10 + r) / 10 = q * 10 ^ (k + 1) + r / 10 by omega, show ((q * 10 ^ (k + 1)) * 10 + r) % 10 = r % 10 by omega, numL_pad k q (r / 10) hq hr2]
    by_cases h : r < 10
    · rw [numL_lt h, show r / 10 = 0 by omega, show r % 10 = r by omega, numL_lt (by decide : (0 : Nat) < 10)]
      unfold pad
      simp only [List.length_singleton]
      rw [show k + 1 + 1 - 1 = (k + 1 - 1) + 1 by omega, List.replicate_succ', List.append_assoc, List.append_assoc]
    · rw [numL_step (show 10 ≤ r by omega), pad_snoc, List.append_assoc]
theorem zf {r : Nat} (hr : r < 10 ^ 18) : tl (Txt.zfill (Str.ofString (toString ((r : Nat) : Int))) 18) = pad 18 (numL r) := by
  have hl : (Str.ofString (toString ((r : Nat) : Int))).length = (numL r).length := by rw [len_tl, tl_num]
  have hle := numL_len (by decide : 0 < 18) hr
  unfold Txt.zfill
  rw [hl]
  by_cases h : (18 : Int) ≤ ((numL r).length : Nat)
  · rw [if_pos h, tl_num]
    unfold pad
    rw [show 18 - (numL r).length = 0 by omega]
    rfl
  · rw [if_neg h]
    have hz : ∀ (x : Str) (m : Nat), (∀ c, x.cps[0]? = some c → 48 ≤ c) → tl (zfilled x m) = List.replicate m 48 ++ tl x := by
      intro x m hc
      unfold zfilled
      have hp : tl (Builtin.Str.padded x m 0 48) = List.replicate m 48 ++ tl x := by
        unfold Builtin.Str.padded
        show (Array.replicate m 48 ++ x.cps ++ Array.replicate 0 48).toList = _
        simp [tl]
      split
      · rename_i e; have := hc _ e; omega
      · rename_i e; have := hc _ e; omega
      · exact hp
    rw [hz, tl_num]
    · unfold pad
      rw [show (18 : Int).toNat - (numL r).length = 18 - (numL r).length from rfl]
    · intro c hc
      have : c ∈ numL r := by
        rw [← tl_num]
        have := Array.getElem?_eq_some_iff.mp hc
        obtain ⟨h1, h2⟩ := this
        exact Array.mem_toList_iff.mpr (by rw [← h2]; exact Array.getElem_mem h1)
      exact (numL_digits r c this).1
end Dm
namespace Bx
open PySem PySem.Spec PyProof.Rows L2
/-- for c in text -/
theorem for_str {x : Str} {g : TG} {tb : TS} {D : Ends} {σ : L2.St} {H : Hp} (Pv : Nat → L2.St → Hp → Prop) (h0 : Pv 0 σ H)
    (hs : ∀ i c σ H, x.cps[i]? = some c → Pv i σ H → g (.str ⟨#[c]⟩) σ H fun σ2 H2 => tb { D with nx := Pv (i + 1), ct := Pv (i + 1), bk := D.nx } σ2 H2) (hd : ∀ σ H, Pv x.cps.size σ H → D.nx σ H) :
    ∃ W : Nat → Nat → L2.St → Hp → Prop, (∃ m, W 0 m σ H) ∧ ∀ i m σ H, W i m σ H →
      ((Its x).stop i H ∧ D.nx σ H) ∨ ((Its x).go i H ∧ ∃ N : L2.St → Hp → Prop, (∀ σ' H', N σ' H' → ∃ m', m' < m ∧ W (i + 1) m' σ' H') ∧ ∀ v H', (Its x).yld i H v H' → g v σ H' fun σ2 H2 => tb { D with nx := N, ct := N, bk := D.nx } σ2 H2) := by
  refine ⟨fun i m σ H => m = x.cps.size - i ∧ i ≤ x.cps.size ∧ Pv i σ H, ⟨x.cps.size, by simp, Nat.zero_le _, h0⟩, ?_⟩
  rintro i m σ H ⟨rfl, hi, p⟩
  by_cases hlt : i < x.cps.size
  · refine .inr ⟨hlt, Pv (i + 1), fun σ' H' p' => ⟨x.cps.size - (i + 1), by omega, rfl, hlt, p'⟩, fun v H' y => ?_⟩
    obtain ⟨e, c, hc, rfl⟩ := y
    subst e
    exact hs i c σ _ hc p
  · have e : i = x.cps.size := by omega
    subst e
    exact .inl ⟨Nat.le_refl _, hd _ _ p⟩
end Bx
/-! items() of a dict that the module wrote out -/
namespace Kt7
open PySem PySem.Spec PyProof.Rows L2
/-- the entries are these texts -/
def EntS : List DictEntry → List (Str × Str) → Prop
  | [], kvs => kvs = []
  | e :: r, kvs => ∃ k v kvr, kvs = (k, v) :: kvr ∧ (∃ t, e.key = .str k t) ∧ (∃ u, e.val = .str v u) ∧ EntS r kvr
def KIt (K : PySem.W.Frag) (w : World) (d : Addr) (kvs : List (Str × Str)) : Prop := ∃ es n, K.lookup d = some ⟨.type "dict", none, .dict es n, #[]⟩ ∧ PySem.W.KeysLit w.params es.toList ∧ (d == sysModules) = false ∧ EntS es.toList kvs ∧ (kvs.map (·.1)).Nodup
theorem ent_pairs {prog : Program} {w : World} : ∀ {es : List DictEntry} {kvs : List (Str × Str)}, EntS es kvs → ∃ vs : List (Str × Value), Pairs (strKind prog w) es vs ∧ vs.map (·.1) = kvs.map (·.1) ∧ ∀ (i : Nat) (k v : Str), kvs[i]? = some (k, v) → ∃ u, vs[i]? = some (k, .str v u)
  | [], kvs, h => by
    subst h
    exact ⟨[], .nil, rfl, fun i k v e => by simp at e⟩
  | e :: r, kvs, h => by
    obtain ⟨k, v, kvr, rfl, ⟨t, ht⟩, ⟨u, hu⟩, hr⟩ := h
    obtain ⟨vs, p1, p2, p3⟩ := ent_pairs (prog := prog) (w := w) hr
    refine ⟨(k, .str v u) :: vs, .cons (by rw [ht]; exact strKind_is prog w k t) hu p1, by simp [p2], fun i k' v' e' => ?_⟩
    cases i with
    | zero => cases e'; exact ⟨u, rfl⟩
    | succ i => exact p3 i k' v' e'
section
variable {P : Program} {w : World} {K : PySem.W.Frag} {d : Addr} {kvs : List (Str × Str)}
/-- what it is in a state -/
theorem kit_at {h : Heap} (kin : K.In h) (D : KIt K w d kvs) : ∃ (es : Array DictEntry) (n : Nat) (vs : List (Str × Value)), (d == sysModules) = false ∧ h.DictAt (strKind P w) d vs n ∧ vs.length = kvs.length ∧ (∀ (i : Nat) (k v : Str), kvs[i]? = some (k, v) → ∃ u, vs[i]? = some (k, .str v u)) ∧ K.lookup d = some ⟨.type "dict", none, .dict es n, #[]⟩ := by
  obtain ⟨es, n, hl, lit, low, he, nd⟩ := D
  obtain ⟨vs, p1, p2, p3⟩ := ent_pairs (prog := P) (w := w) he
  obtain ⟨o, es', ep', g1, g2, g3, g4, _⟩ := PySem.W.mapOf_K (prog := P) (w := w) kin hl lit
  have g0 := kin _ _ hl
  rw [g1] at g0
  cases g0
  cases g3
  refine ⟨es, n, vs, low, ⟨_, es, g1, g2, rfl, g4, p1, by rw [p2]; exact nd⟩, ?_, p3, hl⟩
  have := congrArg List.length p2
  simpa using this
def Itm (kvs : List (Str × Str)) : It :=
  ⟨fun i _ => i < kvs.length, fun i H x H' => ∃ T k v, kvs[i]? = some (k, v) ∧ x = .ref T ∧ H T = none ∧ H' = upd H T (.tup [.str k, .str v]), fun i _ => kvs.length ≤ i⟩
theorem turn_kit {elts : List Expr} {kk : Nat} {tpos : Pos} (D : KIt K w d kvs) {es : Array DictEntry} {n : Nat} (hln : K.lookup d = some ⟨.type "dict", none, .dict es n, #[]⟩) (it : Addr) : Turn P w K (.Tuple elts kk tpos) (Itm kvs) [it] it (fun i h => ∃ a b, IsItemIter h it d i kvs.length n a b) where
  mem := List.mem_singleton.mpr rfl
  obj := fun i h st b hb => by
    obtain rfl := List.mem_singleton.mp hb
    obtain ⟨a, c, e⟩ := st
    exact ⟨_, e, fun v z => nomatch z⟩
  keep := fun i h h' st k => by
    obtain ⟨a, c, e⟩ := st
    exact ⟨a, c, k it (List.mem_singleton.mpr rfl) _ e⟩
  item := by
    rintro X rfl rfl rfl hc i pins s σ H E I hf st hi
    obtain ⟨es2, n2, vs, low, dat, hvl, hget, hl2⟩ := kit_at (P := X.prog) I.kIn D
    obtain rfl : n2 = n := by rw [hln] at hl2; cases hl2; rfl
    obtain ⟨⟨k, v⟩, hkv⟩ : ∃ p, kvs[i]? = some p := ⟨_, List.getElem?_eq_getElem hi⟩
    obtain ⟨u, hu⟩ := hget i k v hkv
    obtain ⟨ka, va, he⟩ := st
    rw [← hvl] at he
    have hlt : it < s.heap.objs.size := Heap.lt_size he
    refine wpAny_pyNext_items_item he dat hu fun key h1 hkey h2 h3 h4 h5 => ⟨_, rfl, wpAny_letOwnedTupleGo_items (s := { s with heap := h1 }) h2 fun h6 h7 sb => ?_⟩
    have hT : h6.get? s.heap.objs.size = some { cls := .type "tuple", data := .seq #[key, .str v u] } := (sb.2 _ (Nat.ne_of_gt hlt)).trans h3
    have hks : RelV (.str k) key := by
      have hkey' : Value.isStrOf k key = true := hkey
      cases key with
      | str x t =>
        have : k = x := by
          have z : x = k := by simpa [Value.isStrOf] using hkey'
          exact z.symm
        rw [this]
        exact ⟨t, rfl⟩
      | _ => simp [Value.isStrOf] at hkey'
    have nw : ObjOk X.prog X.w (upd H s.heap.objs.size (.tup [.str k, .str v])) h6 s.heap.objs.size (.tup [.str k, .str v]) := ⟨by show 2 ≤ sizeLine; decide, [key, .str v u], .cons hks (.cons ⟨u, rfl⟩ .nil), ⟨_, hT, rfl, _, rfl⟩⟩
    have I2 : Inv X pins σ (upd H s.heap.objs.size (.tup [.str k, .str v])) { s with heap := h6 } := I.turnedNew (t' := s.toks) (ch := [it]) (fun b ob hb e => (sb.2 b (fun z => hb (List.mem_singleton.mpr z))).trans (h5 b ob (fun z => hb (List.mem_singleton.mpr z)) e)) hf (Nat.le_refl _) nw
    refine ⟨.ref s.heap.objs.size, _, I2, rfl, ⟨_, k, v, hkv, rfl, I.hok.fresh (Nat.le_refl _), rfl⟩, ⟨key, .str v u, by rw [← hvl]; exact h7⟩, fun b hb => ?_⟩
    obtain rfl := List.mem_singleton.mp hb
    rw [upd_ne (Nat.ne_of_lt hlt)]
    exact (hf b (List.mem_singleton.mpr rfl)).1
  done := by
    rintro X rfl rfl rfl hc i pins s σ H E I hf st hi
    obtain ⟨es2, n2, vs, low, dat, hvl, hget, hl2⟩ := kit_at (P := X.prog) I.kIn D
    obtain rfl : n2 = n := by rw [hln] at hl2; cases hl2; rfl
    obtain ⟨f0, f1, f2, f3, f4, f5⟩ := hf it (List.mem_singleton.mpr rfl)
    obtain ⟨ka, va, he⟩ := st
    rw [← hvl] at he
    exact wpAny_pyNext_items_end (I.ok.hd hc) he dat (List.getElem?_eq_none (by rw [hvl]; exact hi)) fun h1 eb => ⟨rfl, I.turned (t' := s.toks) (fun b ob hb e => eb b ob hb e) f0 f1 f3 f4 f5⟩
  self := fun A i s Q E st h => by
    obtain ⟨a, c, e⟩ := st
    exact PySem.W.kcp_self e h
end
section
variable {X : Cx} {e : Expr} {td : TE} {apos cpos : Pos}
/-- NAME.items() -/
def iKit (K : PySem.W.Frag) (w : World) (td : TE) : TI := fun σ H R => td σ H fun x H1 => ∃ d kvs, x = .ref d ∧ KIt K w d kvs ∧ R (Itm kvs) H1
theorem pi_kit {elts : List Expr} {kk : Nat} {tpos : Pos} (he : PE X e td) (hb : attributeBase e "items" X.env (eval e X.env) = eval e X.env := by rfl) (hline : (apos.endLine == cpos.line) = true := by rfl) :
    PI X (.Tuple elts kk tpos) (.Call (.Attribute e "items" apos) [] [] cpos) (iKit X.K X.w td) := by
  refine ⟨fun pins s σ H R I h => wpAny_Call_method (T := "dict") (id := "dict.items") hb rfl hline F.plainAttrs_dict F.slot_dict_items F.type_dict_items (thn (he.run pins s σ H _ I h) fun u s1 ⟨x, H1, I1, rx, d, kvs, ex, D, q⟩ => ?_)⟩
  subst ex
  obtain rfl : u = Value.ref d := rx
  obtain ⟨es, n, vs, low, dat, hvl, hget, hln⟩ := kit_at (P := X.prog) I1.kIn D
  have dof : s1.heap.DictOf (strKind X.prog X.w) d vs := by
    obtain ⟨o, es', g1, g2, g3, g4, g5, g6⟩ := dat
    exact ⟨o, es', n, g1, g2, g3, g4, g5, g6⟩
  have mo := PySem.W.mapOf_K (prog := X.prog) (w := X.w) I1.kIn D.choose_spec.choose_spec.1 D.choose_spec.choose_spec.2.1
  refine ⟨mo.typeIs, mo.noDict, ?_⟩
  have I2 : Inv X pins σ H1 { s1 with heap := s1.heap.push { cls := .type "dict_items", data := .fields #[.ref d] } } := I1.kept (t' := s1.toks) fun b ob q => Heap.get?_push_of_some _ q
  obtain ⟨es2, n2, vs2, _, dat2, hvl2, _, hln2⟩ := kit_at (P := X.prog) I2.kIn D
  obtain rfl : n2 = n := by rw [hln] at hln2; cases hln2; rfl
  have fin : wpAny (model X.prog X.w) X.A (pyIter (.ref s1.heap.objs.size)) (PIE X pins σ (.Tuple elts kk tpos) R) X.xe { s1 with heap := s1.heap.push { cls := .type "dict_items", data := .fields #[.ref d] } } := by
    refine wpAny_pyIter_items (knd := strKind X.prog X.w) (d := d) ⟨_, Heap.get?_push_size _ rfl, rfl, rfl⟩ dat2 (pi_one (tk := s1.toks) I2 _ (turn_kit D hln _) ⟨.none, .none, ?_⟩ q)
    rw [← hvl2]
    exact Heap.get?_push_size _ rfl
  show wpAny _ _ (callWith cpos (.builtin "dict.items") [.ref d] [] []) _ X.xe s1
  exact method_meetsIn F.slot_dict_items F.entry_dict_items rfl (PySem.evalArgs_none ⟨rfl, mo.typeIs, F.args_dict_items_1 _, _, meets_dict_items (strKind X.prog X.w) d low, ⟨vs, dof⟩, fin⟩)
end
end Kt7
/-! xs[-2::-1] of a list; lookups in a dict of texts that the module wrote out -/
namespace Kt7
open PySem PySem.Spec PyProof.Rows L2
theorem fmc {α β : Type} {f g : α → Option β} : ∀ (l : List α), (∀ x ∈ l, f x = g x) → l.filterMap f = l.filterMap g
  | [], _ => rfl
  | x :: l, h => by
    rw [List.filterMap_cons, List.filterMap_cons, h x List.mem_cons_self, fmc l fun y hy => h y (List.mem_cons_of_mem _ hy)]
theorem pick2 (items : List Value) (h : 1 < items.length) : slicePick items.toArray (some (-2)) none (some (-1)) = items.dropLast.reverse.toArray := by
  have hb : sliceBounds (some (-2)) none (some (-1)) items.length = ((items.dropLast.length : Int) - 1, -1, -1) := by
    rw [List.length_dropLast]
    simp only [sliceBounds, Option.getD_some]
    rw [if_neg (show ¬ ((-1 : Int) > 0) by decide), if_neg (show ¬ ((-1 : Int) > 0) by decide), if_pos (show (-2 : Int) < 0 by decide)]
    refine Prod.ext ?_ rfl
    show max (-1) (min (-2 + (items.length : Int)) ((items.length : Int) - 1)) = ((items.length - 1 : Nat) : Int) - 1
    omega
  unfold slicePick
  rw [List.size_toArray, hb]
  show ((sliceRange ((items.dropLast.length : Int) - 1) (-1) (-1)).filterMap (items.toArray[·]?)).toArray = _
  have e1 := PySem.W.krv_pick items.dropLast.toArray
  unfold slicePick at e1
  rw [List.size_toArray, PySem.W.krv_bounds] at e1
  have e2 : (sliceRange ((items.dropLast.length : Int) - 1) (-1) (-1)).filterMap (items.dropLast.toArray[·]?) = items.dropLast.reverse := by
    have := congrArg Array.toList e1
    simpa using this
  rw [← e2]
  congr 1
  refine fmc _ fun i hi => ?_
  have hlt : i < items.dropLast.length := by
    rw [PySem.W.krv_sliceRange] at hi
    obtain ⟨k, hk, rfl⟩ := List.mem_map.mp hi
    have := List.mem_range.mp hk
    omega
  have hl2 : i < items.length - 1 := by rwa [List.length_dropLast] at hlt
  rw [List.getElem?_toArray, List.getElem?_toArray, List.getElem?_eq_getElem hlt, List.getElem?_eq_getElem (show i < items.length by omega), List.getElem_dropLast]
theorem vals_dl : ∀ {xs : List V} {us : List Value}, Vals xs us → Vals xs.dropLast us.dropLast
  | [], _, .nil => .nil
  | [x], _, .cons _ .nil => .nil
  | x :: y :: xs, _, .cons r (.cons r2 rs) => .cons r (vals_dl (.cons r2 rs))
section
variable {X : Cx} {K : PySem.W.Frag}
def tDlR (K : PySem.W.Frag) (te : TE) : TE := fun σ H Q => te σ H fun x H1 => ∃ a xs, x = .ref a ∧ SqL K H1 a xs ∧ 1 < xs.length ∧ ∀ p, H1 p = none → Q (.ref p) (upd H1 p (.lst xs.dropLast.reverse))
theorem pe_dlr {e : Expr} {te : TE} {k k' : Nat} {p1 p2 p1' p2' p3 pos : Pos} (hK : X.K = K) (he : PE X e te) :
    PE X (.Subscript e (.Slice (some (.UnaryOp .USub (.Constant (.int 2) k' p1') p2')) none (some (.UnaryOp .USub (.Constant (.int 1) k p1) p2)) p3) pos) (tDlR K te) := by
  subst hK
  refine ⟨fun pins s σ H Q I h => Subscript_ (thn (he.run pins s σ H _ I h) fun v s1 ⟨x, H1, I1, r1, a, xs, ex, hx, hl, q⟩ => ?_)⟩
  subst ex
  cases r1
  have st1 : PO X (some (.UnaryOp .USub (.Constant (.int 1) k p1) p2)) (tPart (tUn (rU fun i => .int (-i)) (tC (.int 1)))) := po_some (pe_un un_neg pe_int)
  have st2 : PO X (some (.UnaryOp .USub (.Constant (.int 2) k' p1') p2')) (tPart (tUn (rU fun i => .int (-i)) (tC (.int 2)))) := po_some (pe_un un_neg pe_int)
  refine wpAny_Slice (thn (st2.run pins s1 σ H1 (fun o HB => o = some (-2) ∧ HB = H1) I1 ⟨2, rfl, -2, rfl, rfl, rfl⟩) fun vl s2 ⟨l, H2, I2, pl, el, e2⟩ => ?_)
  subst el e2
  refine thn (po_none.run pins s2 σ H2 (fun o HB => o = none ∧ HB = H2) I2 ⟨rfl, rfl⟩) fun vu s3 ⟨u, H3, I3, pu, eu, e3⟩ => ?_
  subst eu e3
  refine thn (st1.run pins s3 σ H3 (fun o HB => o = some (-1) ∧ HB = H3) I3 ⟨1, rfl, -1, rfl, rfl, rfl⟩) fun vs s4 ⟨o, H4, I4, ps, eo, e4⟩ => ?_
  subst eo e4
  have J : Inv X pins σ H4 { s4 with heap := s4.heap.push { cls := .type "slice", data := .fields #[vl, vu, vs] } } := I4.kept (t' := s4.toks) fun b ob q => Heap.get?_push_of_some _ q
  obtain ⟨its, r, ht, hz⟩ := J.list hx
  have hlen := r.length
  show wpAny (model X.prog X.w) X.A (subscriptTail e _ (.ref a) (.ref s4.heap.objs.size)) (EP X pins σ Q) X.xe { s4 with heap := s4.heap.push { cls := .type "slice", data := .fields #[vl, vu, vs] } }
  refine tail_any (ops := [.ref a, .ref s4.heap.objs.size]) ht.isList.typeIs (PySem.slot_list_getitem.lookup) ?_ (by with_unfolding_all rfl)
  refine wpAny_getItem_list_slice ht.isList (Heap.IsSliceOf.new _ vl vu vs) pl pu ps (by decide) ?_ (by rw [List.size_toArray]; omega)
  rw [pick2 its (by omega)]
  refine ⟨.ref _, _, J.laid (t' := s4.toks) (o := .lst xs.dropLast.reverse) (fun b ob q => Heap.get?_push_of_some _ q) (Nat.le_refl _) ?_, rfl, q _ (J.hok.fresh (Nat.le_refl _))⟩
  refine ⟨?_, _, 0, (vals_dl r).reverse, Heap.get?_push_size _ rfl⟩
  rw [List.length_reverse, List.length_dropLast]
  omega
end
theorem ent_find {x : Str} : ∀ {es : List DictEntry} {kvs : List (Str × Str)}, EntS es kvs →
    (es.find? (·.key.isStr x) = none ∧ (∀ p ∈ kvs, p.1 ≠ x) ∧ es.any (·.refKey) = false) ∨ (∃ e v u, es.find? (·.key.isStr x) = some e ∧ e.val = .str v u ∧ kvs.lookup x = some v)
  | [], kvs, h => by
    subst h
    exact .inl ⟨rfl, by simp, rfl⟩
  | e :: r, kvs, h => by
    obtain ⟨k, v, kvr, rfl, ⟨t, ht⟩, ⟨u, hu⟩, hr⟩ := h
    by_cases c : k = x
    · subst c
      refine .inr ⟨e, v, u, ?_, hu, by simp⟩
      rw [List.find?_cons, ht]
      have : (Value.str k t).isStr k = true := by rw [PySem.W.isStr_of]; simp [Value.isStrOf]
      rw [this]
    · have hn : e.key.isStr x = false := by rw [ht, PySem.W.isStr_of]; simp [Value.isStrOf, c]
      rcases ent_find (x := x) hr with ⟨h1, h2, h3⟩ | ⟨e', v', u', h1, h2, h3⟩
      · refine .inl ⟨by rw [List.find?_cons, hn]; exact h1, fun p hp => ?_, ?_⟩
        · rcases List.mem_cons.mp hp with z | z
          · rw [z]; exact c
          · exact h2 p z
        · rw [List.any_cons, h3]
          have : e.refKey = false := by unfold DictEntry.refKey; rw [ht]
          rw [this]
          rfl
      · refine .inr ⟨e', v', u', by rw [List.find?_cons, hn]; exact h1, h2, ?_⟩
        rw [List.lookup_cons, show (x == k) = false by simpa using fun z : x = k => c z.symm]
        exact h3
section
variable {K : PySem.W.Frag} {w : World} {d : Addr} {kvs : List (Str × Str)}
theorem kit_get (D : KIt K w d kvs) {x v : Str} (h : kvs.lookup x = some v) : KDct K w d x (.str v) := by
  obtain ⟨es, n, hl, lit, low, he, nd⟩ := D
  rcases ent_find (x := x) he with ⟨h1, h2, h3⟩ | ⟨e, v', u, h1, h2, h3⟩
  · exfalso
    have hm : ∃ p ∈ kvs, p.1 = x := by
      clear h1 h2 h3 he nd
      induction kvs with
      | nil => simp at h
      | cons p r ih =>
        by_cases c : x = p.1
        · exact ⟨p, List.mem_cons_self, c.symm⟩
        · rw [show p = (p.1, p.2) from rfl, List.lookup_cons, show (x == p.1) = false by simpa using c] at h
          obtain ⟨q, hq, e⟩ := ih h
          exact ⟨q, List.mem_cons_of_mem _ hq, e⟩
    obtain ⟨p, hp, e⟩ := hm
    exact h2 p hp e
  · rw [h] at h3
    cases h3
    refine ⟨es, n, _, hl, lit, ?_, ⟨u, rfl⟩⟩
    unfold PySem.W.nsIn
    rw [hl]
    dsimp only
    rw [h1]
    dsimp only
    rw [h2]
theorem kit_in (D : KIt K w d kvs) (x : Str) : ∃ r : Option Value, PySem.W.nsIn K d x = some r ∧ r.isSome = (kvs.lookup x).isSome := by
  obtain ⟨es, n, hl, lit, low, he, nd⟩ := D
  unfold PySem.W.nsIn
  rw [hl]
  dsimp only
  rcases ent_find (x := x) he with ⟨h1, h2, h3⟩ | ⟨e, v', u, h1, h2, h3⟩
  · refine ⟨none, ?_, ?_⟩
    · rw [h1]
      dsimp only
      rw [if_neg (by rw [h3]; exact Bool.false_ne_true)]
    · clear h1 h3 he nd
      induction kvs with
      | nil => rfl
      | cons p r ih =>
        rw [show p = (p.1, p.2) from rfl, List.lookup_cons, show (x == p.1) = false by simpa using fun z : x = p.1 => h2 p List.mem_cons_self z.symm]
        exact ih fun q hq => h2 q (List.mem_cons_of_mem _ hq)
  · exact ⟨some e.val, by rw [h1], by rw [h3]; rfl⟩
theorem kit_dict (D : KIt K w d kvs) : ∃ es n, KDict K w d es n := by
  obtain ⟨es, n, hl, lit, low, he, nd⟩ := D
  exact ⟨es, n, ⟨hl, lit, low⟩⟩
end
theorem op_inKit {X : Cx} {K : PySem.W.Frag} {w : World} {d : Addr} {kvs : List (Str × Str)} (h : X.K = K) (hw : X.w = w) (D : KIt K w d kvs) :
    OpR X (compareOp .In) (fun x y H Q => ∃ z : Str, x = .str z ∧ y = .ref d ∧ Q (.bl (kvs.lookup z).isSome) H) := by
  subst h
  subst hw
  obtain ⟨es, n, D2⟩ := kit_dict D
  intro pins s σ H x y v u Q I rx ry hq
  obtain ⟨z, ex, ey, q⟩ := hq
  obtain ⟨r, hr, hs⟩ := kit_in D z
  exact op_in_kd D2 pins s σ H x y v u Q I rx ry ⟨z, r, ex, ey, hr, by rw [hs]; exact q⟩
end Kt7
namespace Tr
open PySem
/-! the signs of the grammar -/
def preL : List (Str × Str) := [("not", "!"), ("next", "X"), ("eventually", "F"), ("always", "G"), ("previous", "Y"), ("weak_previous", "Z"), ("once", "O"), ("historically", "H")]
def infL : List (Str × Str) := [("iff", "<->"), ("implies", "->"), ("or", "|"), ("and", "&"), ("until", "U"), ("weak_until", "W"), ("release", "R"), ("since", "S"), ("trigger", "T")]
def levL : List (List Str) := [["<->"], ["->"], ["|"], ["&"], ["U", "W", "R", "S", "T"]]
def sgnL : List Str := ["<->", "->", "!", "&", "|", "(", ")", ",", ":", "X", "F", "G", "U", "W", "R", "Y", "Z", "O", "H", "S", "T"]
end Tr
namespace Bx
open PySem PySem.Spec PyProof.Rows L2
structure RdrC (K : PySem.W.Frag) (C : Addr) : Prop where
  cl : Cls K C
  nt : NoAttr K C "tokens"
  na : NoAttr K C "at"
  np : NoAttr K C "prefixes"
/-- a reader's attributes -/
def rf (ta : Addr) (i : Int) (pa : Addr) : List (Str × V) := [("tokens", .ref ta), ("at", .int i), ("prefixes", .ref pa)]
theorem rf_at (ta i pa j) : putF "at" (.int j) (rf ta i pa) = rf ta j pa := by rfl
theorem rl_t (ta i pa) : (rf ta i pa).lookup ("tokens" : Str) = some (V.ref ta) := by rfl
theorem rl_a (ta i pa) : (rf ta i pa).lookup ("at" : Str) = some (V.int i) := by rfl
theorem rl_p (ta i pa) : (rf ta i pa).lookup ("prefixes" : Str) = some (V.ref pa) := by rfl
end Bx
/-! a blank times a number -/
namespace Ml7
open PySem PySem.Spec PyProof.Rows L2
theorem fold_rep (c : Nat) : ∀ (n : Nat) (acc : Array Nat), (List.replicate n (#[c] : Array Nat)).foldl (· ++ ·) acc = acc ++ (List.replicate n c).toArray
  | 0, acc => by simp
  | n + 1, acc => by
    rw [List.replicate_succ, List.foldl_cons, fold_rep c n]
    apply Array.ext'
    simp [List.replicate_succ]
def spN (n : Nat) : Str := ⟨(List.replicate n 32).toArray⟩
theorem sp_one : (Str.ofString " ").cps = #[32] := by decide +kernel
theorem op_mulS {X : Cx} : OpR X (binaryOp .Mult) (fun x y H Q => ∃ n : Nat, x = .str (Str.ofString " ") ∧ y = .int (n : Int) ∧ n ≤ 1000 ∧ Q (.str (spN n)) H) := by
  intro pins s σ H x y v u Q I rx ry h
  obtain ⟨n, rfl, rfl, hn, q⟩ := h
  obtain ⟨t, rfl⟩ := rx
  obtain ⟨t', rfl⟩ := ry
  have hl : (Str.ofString " ").length = 1 := by decide +kernel
  refine P.mul_str ?_ (fun h1 _ => ?_) (fun h1 _ => ?_) ?_
  · rw [decide_eq_false (by omega), decide_eq_false (by omega)]
    rfl
  · rw [hl]
    have : (1 : Int) ≤ (2 ^ 63 - 1) / (n : Int) := by
      rw [Int.le_ediv_iff_mul_le (by omega)]
      omega
    omega
  · rw [hl]
    unfold Builtin.Str.tooLong
    refine decide_eq_false ?_
    rw [Int.toNat_natCast, Nat.one_mul]
    exact Nat.not_lt.mpr (Nat.le_trans hn (by decide))
  · by_cases c : (n : Int) < 1
    · rw [if_pos c]
      obtain rfl : n = 0 := by omega
      have e : spN 0 = Str.empty := by decide +kernel
      rw [e] at q
      exact ⟨by decide, .str Str.empty, H, I.tok _, ⟨_, rfl⟩, q⟩
    · rw [if_neg c]
      by_cases c1 : n = 1
      · subst c1
        rw [if_pos (by rfl)]
        have e : spN 1 = Str.ofString " " := by decide +kernel
        rw [e] at q
        exact ⟨.str (Str.ofString " "), H, I, ⟨t, rfl⟩, q⟩
      · rw [if_neg (by rw [hl]; simp; omega), Int.toNat_natCast, sp_one, fold_rep]
        have e : (⟨#[] ++ (List.replicate n 32).toArray⟩ : Str) = spN n := by
          unfold spN
          simp
        rw [e]
        refine ⟨?_, .str (spN n), H, I.tok _, ⟨_, rfl⟩, q⟩
        have : (spN n).length = n := by
          show (List.replicate n 32).toArray.size = n
          simp
        rw [this]
        exact Nat.le_trans hn (by decide)
end Ml7
/-! an own error over ValueError (at any depth) whose __init__ begins with super().__init__(e) -/
namespace Sup
open PySem PySem.Spec PyProof.Rows L2
/-- the frame of such an __init__: its one cell is the class -/
def cxZ (CX : CXT) (P : Program) (w : World) (K : PySem.W.Frag) (mg : Str → Option Value) (base : Heap) (N : List Str) (qual : Str) (scope : Scope) (f : Addr) (cd : Value) (cc : Addr) (A : Around) (outer : List Env) (s : Shared) (H : Hp) (E : XK) : Cx :=
  let en : Env := PySem.W.ksEnv qual scope s.heap.objs.size f cd cc
  { prog := P, w := w, K := K, mg := mg, base := base, A := A.deeper en, N := N, s_0 := s, H_0 := H, env := en, outer := outer, stack := en :: outer, ex := [], fn := fun _ => false, calm := true, pn := [],
    xe := fun e s' => wpAny (model P w) (A.deeper en) (leaving en e) (fun _ s2 => CX outer H s E e s2) (fun e2 s2 => CX outer H s E e2 s2) s' }
structure ScZ (N ps : List Str) (sc : Scope) : Prop where
  kd : sc.kind = .function
  co : sc.isCoroutine = false
  ge : sc.isGenerator = false
  nd : N.Nodup
  pr : N.take ps.length = ps
  pl : ∀ x ∈ ps, sc.names.lookup x = some .local
  nc : ∀ y ∈ sc.names, y.2 ≠ .cell
  fr : ∀ y, sc.names.lookup y = some .free → y = "__class__"
  su : sc.names.lookup ("super" : Str) = some .globalImplicit
  cl : sc.names.lookup ("__class__" : Str) = some .free
theorem lookup_nd : ∀ {l : List (Str × Value)} {y : Str} {u : Value}, (l.map Prod.fst).Nodup → (y, u) ∈ l → l.lookup y = some u
  | [], _, _, _, h => by cases h
  | (z, v) :: r, y, u, nd, h => by
    rw [List.map_cons, List.nodup_cons] at nd
    rw [List.lookup_cons]
    rcases List.mem_cons.mp h with e | e
    · cases e
      rw [beq_self_eq_true]
    · have : (y == z) = false := by
        rw [beq_eq_false_iff_ne]
        intro q
        exact nd.1 (by rw [← q]; exact List.mem_map.mpr ⟨_, e, rfl⟩)
      rw [this]
      exact lookup_nd nd.2 e
theorem zip_rev {ps : List Str} {us : List Value} (nd : ps.Nodup) (hl : us.length = ps.length) {i : Nat} {y : Str} {u : Value} (h1 : ps[i]? = some y) (h2 : us[i]? = some u) : (ps.zip us).reverse.lookup y = some u := by
  refine lookup_nd ?_ ?_
  · rw [List.map_reverse, List.map_fst_zip (by omega)]
    exact (List.reverse_perm _).nodup_iff.mpr nd
  · rw [List.mem_reverse]
    refine List.mem_of_getElem? (i := i) ?_
    rw [List.getElem?_zip_eq_some]
    exact ⟨h1, h2⟩
section
variable {CX : CXT} {P : Program} {w : World} {K : PySem.W.Frag} {mg : Str → Option Value} {base : Heap} {N ps : List Str} {qual : Str} {scope : Scope} {f cc C : Addr} {cd cl : Value} {cld : Option Addr} {csl : Array (Option Value)} {A : Around} {outer : List Env} {s : Shared} {H : Hp} {E : XK} {us : List Value} {vs : List V} {h1 : Heap} {tk : Nat}
theorem inv_z (S : ScZ N ps scope) (hd : A.handled = none) (e0 : Env0 P w K mg base A outer s H) (hl : vs.length = ps.length) (r : Vals vs us) (hc : K.lookup cc = some ⟨cl, cld, .cell (some (.ref C)), csl⟩)
    (hns : h1.Ns s.heap.objs.size (fun x => (ps.zip us).reverse.lookup x)) (hk : ∀ b o, s.heap.get? b = some o → h1.get? b = some o) :
    Inv (cxZ CX P w K mg base N qual scope f cd cc A outer s H E) [] (L2.start N vs) H { s with heap := h1, toks := tk } := by
  have hcb := e0.mod.kin _ _ hc
  have hcs := e0.bs _ _ hcb
  have one : ∀ {y : Str} {c : Addr}, List.lookup y [(("__class__" : Str), cc)] = some c → y = "__class__" ∧ c = cc := fun {y c} h => by
    rw [List.lookup_cons] at h
    cases e : y == ("__class__" : Str) with
    | true => rw [e] at h; cases h; exact ⟨eq_of_beq e, rfl⟩
    | false => rw [e] at h; cases h
  have hpl : ps.length ≤ N.length := by have := congrArg List.length S.pr; rw [List.length_take] at this; omega
  have noex : ∀ b : Addr, b ∉ (cxZ CX P w K mg base N qual scope f cd cc A outer s H E).ex := fun b z => absurd (show b ∈ ([] : List Addr) from z) (by simp)
  refine { ok := { mod := e0.mod, kind := S.kd, glob := rfl, blt := rfl, above := Nat.le_refl _, inj := fun x y c a b => (one a).1.trans (one b).1.symm, has := fun y hy => ?_, cab := fun _ _ z => (by cases z), hd := fun _ => hd, frames := Around.frames_deeper e0.frames, stk := .inr ⟨rfl, rfl⟩, exf := fun b z => absurd z (noex b), bs := e0.bs, bsz := e0.bsz, noex := fun b _ _ => noex b, exfs := fun b z => absurd z (noex b), funs := e0.funs, frf := e0.frf }, os := rfl, bare := e0.bare, base := Un.kept hk, loc := ⟨_, hns, fun i y v a b c => ?_⟩, cell := fun y c h => ?_, free := e0.hok.fresh (Nat.le_refl _), freeC := fun y c h => ?_, pin := fun p hp => absurd (show p ∈ ([] : List (Addr × Obj)) from hp) (by simp), hok := e0.hok.kept hk, len := ?_ }
  · rcases hy with hy | hy
    · exact absurd rfl (S.nc _ (PySem.mem_of_lookup (show scope.names.lookup y = some .cell from hy)))
    · rw [S.fr y hy]
      exact ⟨cc, rfl⟩
  · have hi : i < vs.length := by
      unfold L2.start at b
      by_cases hi : i < vs.length
      · exact hi
      · rw [List.getElem?_append_right (by simpa using hi), List.getElem?_replicate] at b
        split at b <;> cases b
    have ha : vs[i]? = some v := by
      unfold L2.start at b
      rw [List.getElem?_append_left (by simpa using hi), List.getElem?_map] at b
      cases e : vs[i]? with
      | none => rw [e] at b; cases b
      | some a => rw [e] at b; cases b; rfl
    obtain ⟨u, hu, rv⟩ := r.get ha
    have hp : ps[i]? = some y := by
      rw [← S.pr, List.getElem?_take_of_lt (by omega)]
      exact a
    have ndp : ps.Nodup := by rw [← S.pr]; exact S.nd.sublist (List.take_sublist _ _)
    exact ⟨u, rv, .inl ⟨S.pl y (List.mem_of_getElem? hp), zip_rev ndp (by rw [← r.length]; exact hl) hp hu⟩⟩
  · rw [(one h).2]
    exact ⟨_, _, hk _ _ hcs.1, rfl⟩
  · rw [(one h).2]
    exact hcs.2
  · unfold L2.start
    show _ = N.length
    rw [List.length_append, List.length_map, List.length_replicate]
    omega
theorem fn_sup {name : Str} {params : Arguments} {scope : Scope} {kV doc pm ct oc ccl : Value} {an od cdd : Option Addr} {osl ccs : Array (Option Value)} {cda : Addr} {fields : Array Value} {file : Str} {tf : Tok} {cdD : ClassData} {ar : Arg} {k : Nat} {sp : Sp} {e : Expr} {rest : List Stmt} {p0 p1 p2 p3 p4 : Pos}
    (lk : K.lookup f = some ⟨oc, od, .func (PySem.W.ksFn name qual params (.Expr (.Call (.Attribute (.Call (.Name "super" p0) [] [] p1) "__init__" p2) [e] [] p3) p4 :: rest) scope .none kV doc pm an (.ref cda) ct cc), osl⟩)
    (hcd : PySem.W.codeIn K (.ref cda) qual = true) (S : ScZ N ps scope) (har : (params.posonlyargs ++ params.args).head? = some ar) (h0 : ps[0]? = some ar.arg)
    (hcode : K.lookup cda = some ⟨ccl, cdd, .fields fields, ccs⟩) (hvs : fields[2]? = some (.str file tf)) (hfile : ((P.main.file : Str) == file) = true) (hcell : K.lookup cc = some ⟨cl, cld, .cell (some (.ref C)), csl⟩)
    (hD : PySem.W.clsIn K C = some cdD) (hsub : PySem.W.mroIn K C (.ref C) = some true) (htop : (P.main.scope.names.lookup ("super" : Str)).isSome = false) (hany : PySem.W.nsIn K cStatics "thirdparty.any" = some none)
    (hm : PySem.W.alongIn K "__init__" ((cdD.mro.dropWhile (· != .ref C)).drop 1) = some (some (.builtin "ValueError.__init__"))) (hB : PySem.W.subIn K (.ref C) (.type "ValueError") = some true) (T : OexC K C) (hg : mg "super" = none)
    {pl : Env → Sem Bool} (hev : ∀ en : Env, eval (.Call (.Attribute (.Call (.Name "super" p0) [] [] p1) "__init__" p2) [e] [] p3) en = (do
      let ov ← attributeBase (.Call (.Name "super" p0) [] [] p1) "__init__" en (eval (.Call (.Name "super" p0) [] [] p1) en)
      standAt p2.atName
      let (m, first) ← holding [ov] (getMethod ov "__init__" (pl en))
      callWith p3 m first (backTo p3 (starEach [e] en)) []))
    (hst : ∀ en : Env, starEach [e] en = (false, eval e en) :: starEach [] en) (hpa : ∀ en : Env, (backTo p3 (starEach [] en)).any (·.1) = false)
    (len : ∀ vs H Q E, sp vs H Q E → vs.length = ps.length)
    (hbody : ∀ (A : Around) (outer : List Env) (s : Shared) (H : Hp) (vs : List V) (Q : VK) (E : XK), Room k (A.deeper (PySem.W.ksEnv qual scope s.heap.objs.size f (.ref cda) cc)) → sp vs H Q E →
      ∃ (te : TE) (t : TS) (a : Addr), PE (cxZ CX P w K mg base N qual scope f (.ref cda) cc A outer s H E) e te ∧ PSs (cxZ CX P w K mg base N qual scope f (.ref cda) cc A outer s H E) rest t ∧ vs[0]? = some (.ref a) ∧ H a = some (exo a C none) ∧
        te (L2.start N vs) H fun _ H2 => H2 a = some (exo a C none) ∧ t { nx := fun _ H3 => Q .non H3, rt := Q } (L2.start N vs) H2) :
    FnOk P w K mg base CX (k + 1) f (PySem.W.ksFn name qual params (.Expr (.Call (.Attribute (.Call (.Name "super" p0) [] [] p1) "__init__" p2) [e] [] p3) p4 :: rest) scope .none kV doc pm an (.ref cda) ct cc) ps sp := by
  refine ⟨len, fun A outer s H args us vs Q E hr e0 hb r hsp => ?_⟩
  have hl := len _ _ _ _ hsp
  have KX : K.In s.heap := e0.mod.kin.keeps fun b o z => (e0.bs b o z).1
  have lim : s.heap.NoLimit := e0.mod.nolimit.keeps fun b o z => (e0.bs b o z).1
  refine PySem.ks_codeAny_call_defAt hr.depth (KX _ _ lk) rfl lim (PySem.W.codeRec_of KX hcd) rfl hb S.nc (fun y hy => S.pl y.1 (List.of_mem_zip hy).1) (fun h1 hns hk => ?_) S.co S.ge S.kd
  have I : Inv (cxZ CX P w K mg base N qual scope f (.ref cda) cc A outer s H E) [] (L2.start N vs) H { s with heap := h1, toks := s.toks + (ps.zip us).length } := inv_z S hr.hd e0 hl r hcell hns hk
  obtain ⟨te, t, a, he, ht, ha, hexo, hq⟩ := hbody A outer s H vs Q E (hr.deeper _) hsp
  have K1 : K.In h1 := KX.keeps hk
  obtain ⟨u0, hu0, rv0⟩ := r.get ha
  obtain rfl : u0 = Value.ref a := rv0
  obtain ⟨t1, hobj⟩ := exo_at I.hok hexo
  have ndp : ps.Nodup := by rw [← S.pr]; exact S.nd.sublist (List.take_sublist _ _)
  have hself : (ps.zip us).reverse.lookup ar.arg = some (Value.ref a) := zip_rev ndp (by rw [← r.length]; exact hl) h0 hu0
  obtain ⟨oD, hD1, hD2⟩ : ∃ oD, h1.get? C = some oD ∧ oD.data = .cls cdD := by
    unfold PySem.W.clsIn at hD
    split at hD
    · rename_i c d cd' sl ho
      cases hD
      exact ⟨_, K1 _ _ ho, rfl⟩
    · cases hD
  obtain ⟨mb, hb1, hb2⟩ := I.mod.blt
  have hint : interactive (PySem.W.ksEnv qual scope s.heap.objs.size f (.ref cda) cc) = false := by
    unfold interactive
    rw [S.kd]
    rfl
  refine PySem.ks_wpAt_execs_cons (PySem.ks_wpAt_Expr_any (PySem.ks_wpAt_MethodCall (pl := pl _) ?_ (hev _)) hint rfl)
  refine PySem.ks_wpAt_super_base S.su S.cl (by decide) rfl (K1 _ _ lk) rfl har rfl (K1 _ _ hcode) rfl hvs hfile htop ?_
  refine PySem.W.ks_loadName_global S.kd S.su (Calls.loadGlobal_builtin (e0.mod.glob.keeps I.bk) hg (hb1.keeps I.bk) ((hb2 "super" (by decide)).trans rfl) ⟨rfl, ?_⟩)
  refine wpAny_loadName_free S.kd S.cl rfl ⟨_, K1 _ _ hcell, rfl⟩ ?_
  refine wpAny_loadName_local S.kd (S.pl _ (List.mem_of_getElem? h0)) hns hself ?_
  refine PySem.ks_wpAny_isType_cls hD1 hD2 ⟨rfl, ?_⟩
  refine PySem.ks_wpAny_call_super hD1 hD2 hobj rfl (fun c z => by cases z) (PySem.W.looks_mroIn K1 hsub) (fun h2 hso hk2 => ?_)
  have K2 : K.In h2 := K1.keeps hk2
  have inst : PySem.W.InstAt h2 a _ C none := ⟨hk2 _ _ hobj, rfl, rfl, trivial⟩
  have hmro : PySem.W.Looks (model P w) h2 (mroOf (.ref C)) cdD.mro := (PySem.W.looks_clsIn K2 hD).andThen .now
  have hins : PySem.W.Looks (model P w) h2 (isInstance (.ref a) (.type "ValueError")) true := inst.type.andThen (PySem.W.looks_subIn K2 hB)
  refine PySem.W.kxs_getMethod PySem.W.kxs_ValueError hso (PySem.W.looks_opaque K2 hany) hmro rfl K2 hm hins (PySem.W.ks_ne K2 inst hD) (by decide) ?_
  have I3 := ClX.pin_new (t' := s.toks + (ps.zip us).length + 1) (a := h2.objs.size) (o := PySem.W.kxs_mw "ValueError.__init__" a) (h' := h2.push (PySem.W.kxs_mw "ValueError.__init__" a)) (I.kept (t' := s.toks + (ps.zip us).length) hk2) (fun b u z => Heap.get?_push_of_some _ z) (Nat.le_refl _) (Heap.get?_push_size _ rfl) (fun v z => by cases z)
  show wpAny _ _ (callWith p3 (.ref h2.objs.size) [] _ []) _ _ _
  rw [hst]
  refine PySem.W.kxs_callWith (i := "ValueError.__init__") (x := a) (show (false || _) = false from hpa (PySem.W.ksEnv qual scope s.heap.objs.size f (.ref cda) cc)) (Calls.evalArgs_plain ?_)
  have R := (pa_cons he pa_nil (hst _)).run p3 _ _ _ _ (fun ws H2 => match ws with | [_] => H2 a = some (exo a C none) ∧ t { nx := fun _ H3 => Q .non H3, rt := Q } (L2.start N vs) H2 | _ => False) I3 hq
  rw [hst] at R
  refine wpAny_mono R (fun ws s4 h4 => ?_) fun _ _ z => z
  obtain ⟨xs, H4, I4, r4, eq4⟩ := h4
  have x1 : xs.length = 1 ∧ H4 a = some (exo a C none) ∧ t { nx := fun _ H3 => Q .non H3, rt := Q } (L2.start N vs) H4 := by
    match xs, eq4 with
    | [_], z => exact ⟨rfl, z⟩
  obtain ⟨xl, e4, q4⟩ := x1
  have hu := (I4.pin _ (List.mem_append_right _ List.mem_cons_self)).1
  refine ⟨hu, ?_⟩
  obtain ⟨nm, q0, Nn, bs, bm, sn, sub, ab, col, dd, k0, k1, k2, k3, k5, hC, hbm⟩ := T.cls
  obtain ⟨t4, ho4⟩ := exo_at I4.hok e4
  have K4 : K.In s4.heap := I4.kIn
  have hone : ws.length ≤ sizeLine := by
    rw [← r4.length, xl]
    decide
  obtain ⟨hp4, g4, d4, tk4, os4⟩ := s4
  refine wpAny_call (codeAny_of_tree ?_)
  show wpAny _ _ (callAny (.ref h2.objs.size) ⟨ws, []⟩) _ _ _
  simp only [callAny]
  refine wpAny_bind (wpAny_load hu ?_)
  simp only [PySem.W.kxs_mw, (by decide : (Value.type "method-wrapper" == Value.type "method" || Value.type "method-wrapper" == Value.type "builtin_function_or_method" || Value.type "method-wrapper" == Value.type "method-wrapper") = true), if_true]
  refine PySem.W.KFB.if_so (by decide) (wpAny_bind (PySem.W.check_bound_init F.excBase_ValueError.toExcCallFacts (K4 _ _ hC) ho4 rfl (wpAny_bind (wpAny_pure (wpAny_pure ⟨plainId_quiet F.excBase_ValueError.init.plain _, codeAny_builtin F.excBase_ValueError.initEntry ?_⟩)))))
  refine PySem.W.exc_init_tree (cls := .ref C) (t0 := t4) (dv := none) (c2 := .none) (c3 := .none) (b4 := .bool false) ho4 hone fun h5 k6 e5 _ => ?_
  have J := I4.write (t' := tk4) (x := a) (e := a) (o := exo a C none) (by rw [e4]; exact True.intro) (.inl rfl) k6 ⟨_, e5⟩ (exo_ok e5)
  have eu : upd H4 a (exo a C none) = H4 := by
    funext b
    by_cases hb : b = a
    · rw [hb, upd_same, e4]
    · rw [upd_ne hb]
  rw [eu] at J
  refine PySem.wpAt_of_wpAny (wpAny_mono (ht.run _ _ _ _ _ J q4) (fun fl s5 hs => ?_) fun _ _ z => z)
  have fin : ∀ {σ' : L2.St} {H' : Hp} {v : V} {u : Value} {pn : List (Addr × Obj)}, Inv (cxZ CX P w K mg base N qual scope f (.ref cda) cc A outer s H E) pn σ' H' s5 → RelV v u → Q v H' → CE outer P w H s Q u s5 :=
    fun {σ' H' v u pn} Z rv y => ⟨v, H', Z.os, Z.bare, Z.base, Z.hok, rv, y⟩
  cases fl with
  | ret u =>
    obtain ⟨v, σ', H', Z, rv, y⟩ := hs
    exact fin Z rv y
  | next =>
    obtain ⟨σ', H', Z, y⟩ := hs
    exact fin (v := V.non) (u := Value.none) Z rfl y
  | brk => exact hs.elim fun _ z => z.elim fun _ z => z.2.elim
  | cont => exact hs.elim fun _ z => z.elim fun _ z => z.2.elim
end
end Sup
namespace Sup
open PySem PySem.Spec PyProof.Rows L2
theorem ScZ.by2 {N ps : List Str} {sc : Scope} (kd : sc.kind = .function) (co : sc.isCoroutine = false) (ge : sc.isGenerator = false) (nd : N.Nodup) (pr : N.take ps.length = ps) (pl : ∀ x ∈ ps, sc.names.lookup x = some .local) (nc : ∀ y ∈ sc.names, y.2 ≠ .cell)
    (fr : ∀ y ∈ sc.names, y.2 = .free → y.1 = "__class__") (su : sc.names.lookup ("super" : Str) = some .globalImplicit) (cl : sc.names.lookup ("__class__" : Str) = some .free) : ScZ N ps sc :=
  ⟨kd, co, ge, nd, pr, pl, nc, fun y h => fr _ (PySem.mem_of_lookup h) rfl, su, cl⟩
/-- all that the written part says of the __init__ of an own error class that begins with super().__init__(e) -/
structure InitK (P : Program) (K : PySem.W.Frag) (mg : Str → Option Value) (x : Str) (C f : Addr) (name qual : Str) (params : Arguments) (body : List Stmt) (scope : Scope) (fd : FuncData) : Prop where
  T : OexC K C
  gC : mg x = some (.ref C)
  iC : PySem.W.findIn K (.ref C) "__init__" = some (some (.ref f))
  tI : PySem.W.typeIn K (.ref f) = some (.type "function")
  ex : ∃ (kV doc pm ct oc ccl cl : Value) (an od cdd cld : Option Addr) (osl ccs csl : Array (Option Value)) (cda cc : Addr) (fields : Array Value) (file : Str) (tf : Tok) (cdD : ClassData),
    fd = PySem.W.ksFn name qual params body scope .none kV doc pm an (.ref cda) ct cc ∧ K.lookup f = some ⟨oc, od, .func fd, osl⟩ ∧ PySem.W.codeIn K (.ref cda) qual = true ∧
    K.lookup cda = some ⟨ccl, cdd, .fields fields, ccs⟩ ∧ fields[2]? = some (.str file tf) ∧ ((P.main.file : Str) == file) = true ∧ K.lookup cc = some ⟨cl, cld, .cell (some (.ref C)), csl⟩ ∧
    PySem.W.clsIn K C = some cdD ∧ PySem.W.alongIn K "__init__" ((cdD.mro.dropWhile (· != .ref C)).drop 1) = some (some (.builtin "ValueError.__init__"))
  hsub : PySem.W.mroIn K C (.ref C) = some true
  htop : (P.main.scope.names.lookup ("super" : Str)).isSome = false
  hany : PySem.W.nsIn K cStatics "thirdparty.any" = some none
  hB : PySem.W.subIn K (.ref C) (.type "ValueError") = some true
  hg : mg "super" = none
section
variable {CX : CXT} {P : Program} {w : World} {K : PySem.W.Frag} {mg : Str → Option Value} {base : Heap} {N ps : List Str} {x qual : Str} {scope : Scope} {f C : Addr}
theorem InitK.ok {name : Str} {params : Arguments} {ar : Arg} {k : Nat} {sp : Sp} {e : Expr} {rest : List Stmt} {p0 p1 p2 p3 p4 : Pos} {fd : FuncData}
    (I : InitK P K mg x C f name qual params (.Expr (.Call (.Attribute (.Call (.Name "super" p0) [] [] p1) "__init__" p2) [e] [] p3) p4 :: rest) scope fd) (S : ScZ N ps scope) (har : (params.posonlyargs ++ params.args).head? = some ar) (h0 : ps[0]? = some ar.arg)
    {pl : Env → Sem Bool} (hev : ∀ en : Env, eval (.Call (.Attribute (.Call (.Name "super" p0) [] [] p1) "__init__" p2) [e] [] p3) en = (do
      let ov ← attributeBase (.Call (.Name "super" p0) [] [] p1) "__init__" en (eval (.Call (.Name "super" p0) [] [] p1) en)
      standAt p2.atName
      let (m, first) ← holding [ov] (getMethod ov "__init__" (pl en))
      callWith p3 m first (backTo p3 (starEach [e] en)) []))
    (hst : ∀ en : Env, starEach [e] en = (false, eval e en) :: starEach [] en) (hpa : ∀ en : Env, (backTo p3 (starEach [] en)).any (·.1) = false)
    (len : ∀ vs H Q E, sp vs H Q E → vs.length = ps.length)
    (hbody : ∀ (cda cc : Addr) (A : Around) (outer : List Env) (s : Shared) (H : Hp) (vs : List V) (Q : VK) (E : XK), Room k (A.deeper (PySem.W.ksEnv qual scope s.heap.objs.size f (.ref cda) cc)) → sp vs H Q E →
      ∃ (te : TE) (t : TS) (a : Addr), PE (cxZ CX P w K mg base N qual scope f (.ref cda) cc A outer s H E).nox e te ∧ PSs (cxZ CX P w K mg base N qual scope f (.ref cda) cc A outer s H E).nox rest t ∧ vs[0]? = some (.ref a) ∧ H a = some (exo a C none) ∧
        te (L2.start N vs) H fun _ H2 => H2 a = some (exo a C none) ∧ t { nx := fun _ H3 => Q .non H3, rt := Q } (L2.start N vs) H2) :
    FnOk P w K mg base CX (k + 1) f fd ps sp := by
  obtain ⟨kV, doc, pm, ct, oc, ccl, cl, an, od, cdd, cld, osl, ccs, csl, cda, cc, fields, file, tf, cdD, rfl, lk, hcd, hcode, hvs, hfile, hcell, hD, hm⟩ := I.ex
  refine fn_sup lk hcd S har h0 hcode hvs hfile hcell hD I.hsub I.htop I.hany hm I.hB I.T I.hg hev hst hpa len fun A outer s H vs Q E hr hs => ?_
  obtain ⟨te, t, a, h1, h2, h3, h4, h5⟩ := hbody cda cc A outer s H vs Q E hr hs
  exact ⟨te, t, a, h1.nox, h2.nox, h3, h4, h5⟩
theorem InitK.binds {name : Str} {params : Arguments} {body : List Stmt} {fd : FuncData} (I : InitK P K mg x C f name qual params body scope fd)
    (h : ∀ (kV doc pm : Value) (an : Option Addr) (cdv ct : Value) (cc : Addr) (us : List Value), us.length = ps.length → bindArgs (PySem.W.ksFn name qual params body scope .none kV doc pm an cdv ct cc) ⟨us, []⟩ = pure (ps.zip us)) : Binds K fd ps [] := by
  obtain ⟨kV, doc, pm, ct, oc, ccl, cl, an, od, cdd, cld, osl, ccs, csl, cda, cc, fields, file, tf, cdD, rfl, lk, hcd, hcode, hvs, hfile, hcell, hD, hm⟩ := I.ex
  exact .all (h kV doc pm an _ ct cc)
end
/-- == of data of any depth up to 199 -/
def rEqB (K : PySem.W.Frag) : R2 := fun x y H Q => ∃ d e, Dp K H x d ∧ Dp K H y e ∧ d.canLay0 = true ∧ e.canLay0 = true ∧ d.depth ≤ 199 ∧ Q (.bl (PyData.eqv d e)) H
theorem op_eqB {X : Cx} {K : PySem.W.Frag} (hK : X.K = K) (hu : X.A.units + 200 < cLine) : OpR X (compareOp .Eq) (rEqB K) := by
  subst hK
  intro pins s σ H x y v u Q I rx ry h
  obtain ⟨d, e, hd, he, sd, se, dd, q⟩ := h
  obtain ⟨as, r1⟩ := Dp.reads I d x v hd rx
  obtain ⟨bs, r2⟩ := Dp.reads I e y u he ry
  exact SeqAt.compareEq_reads r1 r2 sd se (by have := Nat.min_le_left d.depth e.depth; omega) ⟨.bl _, H, I, rfl, q⟩
theorem un200 {k : Nat} {A : Around} (r : Room k A) : A.units + 200 < cLine := Nat.lt_of_le_of_lt (by omega) r.un
end Sup
/-! several clauses, each with «as» and the same name -/
namespace Tam
open PySem PySem.Spec PyProof.Rows L2
abbrev Cls1 : Type := Value × (Addr → Value → Option Addr → TS)
def gone (i : Nat) (D : Ends) : Ends := { nx := fun a b => D.nx (a.set i none) b, rt := D.rt, bk := fun a b => D.bk (a.set i none) b, ct := fun a b => D.ct (a.set i none) b }
def wAl (K : PySem.W.Frag) (i : Nat) (Wo : WX) (D : Ends) : List Cls1 → WX
  | [] => Wo
  | (c, ts) :: r => fun k d σ H => ∃ b, PySem.W.exmOne K k c = some b ∧ (b = true → ∀ a, H a = none → ts a k d (gone i D) (σ.set i (some (.ref a))) H) ∧ (b = false → wAl K i Wo D r k d σ H)
inductive Hd (X : Cx) (n : Str) : List ExceptHandler → List Cls1 → Prop
  | nil : Hd X n [] []
  | more {x : Str} {c : Value} {ts : Addr → Value → Option Addr → TS} {b0 : Stmt} {su : List Stmt} {p p' : Pos} {hs : List ExceptHandler} {l : List Cls1} (hc : Names X x c)
      (h1 : ∀ (a : Addr) (o : Obj) (k : Value) (d : Option Addr) (pn : List (Addr × Obj)), Zc k d o → (∃ vs, o.data = .fields vs) → PSs (X.suite a ((a, o) :: pn)) (b0 :: su) (ts a k d)) (r : Hd X n hs l) :
      Hd X n (.ExceptHandler (some (.Name x p)) (some n) (b0 :: su) p' :: hs) ((c, ts) :: l)
section
variable {X : Cx} {n : Str} {i : Nat} {body : List Stmt} {h0 : ExceptHandler} {hs0 : List ExceptHandler} {l : List Cls1} {pos : Pos} {tb : WX → TS} {Wo : WX}
theorem ps_try_al (st : X.stack = X.env :: X.outer) (fr : X.env.frame = some X.env.locals) (nd : X.N.Nodup) (hi : X.N[i]? = some n) (lo : X.env.kindOf n = some .local) (tk : Takes X Wo)
    (hb : ∀ (W : WX) (pn : List (Addr × Obj)) (xe : Value → Shared → Prop), Takes (X.tr pn xe) W → PassesOwn (model X.prog X.w) X.A X.env xe → PSs (X.tr pn xe) body (tb W))
    (hh : Hd X n (h0 :: hs0) l) : PS X (.Try body (h0 :: hs0) [] [] pos) (fun D σ H => tb (wAl X.K i Wo D l) D σ H) := by
  refine ⟨fun pins s σ H D I h => ?_⟩
  have ok := I.ok
  have frs' : X.A.frames = some (X.env :: X.outer) := ok.frames.trans (congrArg some st)
  have ll : Loc X.env.scope n := .inl lo
  let M := model X.prog X.w
  let xe1 : Value → Shared → Prop := fun e s1 => wpAny M X.A (noteFrame e X.env) (fun _ s2 => wpAny M X.A (setFlight e none) (fun _ s3 => wpAny M X.A (handleBy e X.env (h0 :: hs0)) (SP X pins D) X.xe s3) X.xe s2) X.xe s1
  have take1 : Takes (X.tr (X.pn ++ pins) xe1) (wAl X.K i Wo D l) := by
    intro u s1 xx
    obtain ⟨a, B, sI, pinz, σ1, H1, k, d, rfl, Jz, nb, up, sky, na, os, ag, w1⟩ := xx
    have J : Inv X pins σ1 H1 sI := Jz.ofTry ok
    have sky1 : Sky B (X.env :: X.outer) a (Zc k d) X.env.locals s1.heap := st ▸ sky
    refine Sky.land Zc.steady frs' fr sky1 fun g1 fl1 up1 => ?_
    have J1 : Inv X pins σ1 H1 { s1 with heap := g1 } := J.landed nb fl1.1 (up.trans up1) os ag
    obtain ⟨o1, v1, a1, z1, d1⟩ := fl1.there
    have nfr : a ∉ frs (X.env :: X.outer) := fun q => by
      obtain ⟨_, o2, a2, n2⟩ := fl1.2.2.1.mem q
      rw [a1] at a2
      cases a2
      exact n2 _ d1
    have nL : a ≠ X.env.locals := fun q => nfr (List.mem_filterMap.mpr ⟨X.env, .head _, fr.trans (congrArg some q.symm)⟩)
    have nF : a ∉ X.fs := fun q => by
      obtain ⟨en, m1, m2⟩ := List.mem_filterMap.mp q
      exact nfr (List.mem_filterMap.mpr ⟨en, .tail _ m1, m2⟩)
    have S1 := J1.suite a1 d1 na nL nF
    have go : ∀ {hz : List ExceptHandler} {lz : List Cls1}, Hd X n hz lz → wAl X.K i Wo D lz k d σ1 H1 → wpAny M X.A (handleBy (.ref a) X.env hz) (SP X pins D) X.xe { s1 with heap := g1 } := by
      intro hz lz hk
      induction hk with
      | nil =>
        intro wz
        refine wpAny_handleBy_nil ?_
        obtain ⟨y1, y2, y3, oe, vz, tz, oz, tsz, yhe, yhz, yhd, yh1, yhr⟩ := id fl1
        unfold PySem.passOn
        refine wpAny_bind (wpAny_field yhe yhd yh1 ?_)
        rw [if_neg (by simp : ¬ ((Value.ref tz == Value.none) = true))]
        have last : wpAny M X.A (setFlight (.ref a) X.env.frame) (fun _ s4 => wpAny M X.A (throw (.ref a) : Sem Flow) (SP X pins D) X.xe s4) X.xe { s1 with heap := g1 } := by
          rw [fr]
          exact HandSPX.setFlight_upZ fl1 fun g2 hh2 up2 => wpAny_throw (tk _ _ ⟨a, B, sI, pins, σ1, H1, k, d, rfl, J, nb, (up.trans up1).trans up2, .inr (.inr (st ▸ hh2)), na, os, ag, wz⟩)
        first
          | exact wpAny_bind (wpAny_pure (wpAny_bind last))
          | exact wpAny_bind last
      | @more x c ts b0 su p p' hs2 l2 hc h1 r ih =>
        intro wz
        obtain ⟨b, eb, yes, no⟩ := wz
        refine wpAny_handleBy_cons (codeAny_handlers_test ?_) (by intro q; cases q)
        have lt : PySem.W.Looks M g1 (typeOf (.ref a)) k := fun A' Q' E' s' kk q => wpAny_typeOf_ref (kk _ _ a1) (z1.1.symm ▸ q)
        have lm := PySem.W.exm_one (M := M) J1.kIn lt eb
        have test : ∀ {Q : Value → Shared → Prop} {E : Value → Shared → Prop}, Q c { s1 with heap := g1 } → wpAny M (X.A.mark (some (.ref a))) (eval (.Name x p) X.env) Q E { s1 with heap := g1 } := fun {Q E} q => by
          rcases hc with ⟨w1, w2, w3 | ⟨w3, w4, w5⟩⟩
          · exact ld_glob (X := X.suite a ((a, o1) :: (X.pn ++ pins))) S1 w1 w3 q w2
          · exact ld_blt (X := X.suite a ((a, o1) :: (X.pn ++ pins))) S1 w1 w3 w4 q w5 w2
        refine test (lm.here ?_)
        cases b with
        | false =>
          show wpAny M X.A (handleBy (.ref a) X.env hs2) _ _ _
          exact ih (no rfl)
        | true =>
          refine codeAny_handlers_suite_as (HandSPX.lands_againZ fl1 fun g2 fl2 up2 => ?_)
          have J2 : Inv X pins σ1 H1 { s1 with heap := g2 } := J.landed nb fl2.1 ((up.trans up1).trans up2) os ag
          obtain ⟨o2, v2, a2, z2, d2⟩ := fl2.there
          refine store_ok (X := X.suite a ((a, o2) :: (X.pn ++ pins))) (v := .ref a) (J2.suite a2 d2 na nL nF) nd hi ll rfl (fun s5 S5 => ?_) (.inr lo)
          refine wpAny_mono ((h1 a o2 k d (X.pn ++ pins) z2 ⟨_, d2⟩).run [] s5 _ H1 _ S5 (yes rfl a na)) (fun f s6 hf => ?_) (fun _ _ q => q.elim)
          have fin : ∀ {σ6 : L2.St} {H6 : Hp} {Q : Shared → Prop}, Inv (X.suite a ((a, o2) :: (X.pn ++ pins))) [] σ6 H6 s6 → (∀ s7, Inv X pins (σ6.set i none) H6 s7 → Q s7) →
              wpAny M X.A (do bindName X.env n .none; unbindBehindTheSuite X.env n p') (fun _ s7 => Q s7) X.xe s6 := fun {_ _ _} S6 hq => gone_ok (S6.unsuite ok) nd hi lo hq
          cases f with
          | ret u => obtain ⟨v6, σ6, H6, S6, r6, q6⟩ := hf; exact fin S6 fun s7 J7 => ⟨_, _, _, J7, r6, q6⟩
          | next => obtain ⟨σ6, H6, S6, q6⟩ := hf; exact fin S6 fun s7 J7 => ⟨_, _, J7, q6⟩
          | brk => obtain ⟨σ6, H6, S6, q6⟩ := hf; exact fin S6 fun s7 J7 => ⟨_, _, J7, q6⟩
          | cont => obtain ⟨σ6, H6, S6, q6⟩ := hf; exact fin S6 fun s7 J7 => ⟨_, _, J7, q6⟩
    exact go hh w1
  refine wpAny_Try_except (wpAny_mono ((hb (wAl X.K i Wo D l) (X.pn ++ pins) xe1 take1 PassesOwn.looking).run [] s σ H D (I.toTry _) h) (fun f s1 hf => ?_) (fun _ _ q => q))
  cases f with
  | ret u => obtain ⟨v, σ1, H1, J1, r1, q1⟩ := hf; exact ⟨v, σ1, H1, J1.ofTry ok, r1, q1⟩
  | next => obtain ⟨σ1, H1, J1, q1⟩ := hf; exact wpAny_execs_nil ⟨σ1, H1, J1.ofTry ok, q1⟩
  | brk => obtain ⟨σ1, H1, J1, q1⟩ := hf; exact ⟨σ1, H1, J1.ofTry ok, q1⟩
  | cont => obtain ⟨σ1, H1, J1, q1⟩ := hf; exact ⟨σ1, H1, J1.ofTry ok, q1⟩
end
end Tam
/-! methods that may raise -/
namespace Mx
open PySem PySem.Spec PyProof.Rows L2
section
variable {X : Cx} {k : Nat} {C f : Addr} {fd : FuncData} {ps : List Str} {sp : Sp} {W : WX} {m : Str} {pos apos : Pos} {e o : Expr} {es : List Expr} {ta : TE} {t : TA}
def tMethX (C : Addr) (m : Str) (sp : Sp) (E : L2.St → XK) (ta : TE) (t : TA) : TE := fun σ H Q => ta σ H fun x H1 => ∃ a dx fs, x = .ref a ∧ H1 a = some (.ins C dx fs) ∧ fs.lookup m = none ∧ t σ H1 fun vs H2 => sp (x :: vs) H2 Q (E σ)
theorem pe_methX {pl : Sem Bool} (he : PE X o ta) (c : Cls X.K C) (hm : Meth X.K C m f) (F : FnOk X.prog X.w X.K X.mg X.base (L2.CX X.prog X.w) k f fd ps sp) (hr : Room k X.A) (hb : Binds X.K fd ps []) (tk : Takes X W) (ha : PA X (e :: es) t)
    (hst : starEach (e :: es) X.env = (false, eval e X.env) :: starEach es X.env := by rfl) (hpl : (backTo pos (starEach es X.env)).any (·.1) = false := by rfl)
    (ht : eval (.Call (.Attribute o m apos) (e :: es) [] pos) X.env = (do
      let ov ← eval o X.env
      standAt apos.atName
      let (f, first) ← holding [ov] (getMethod ov m pl)
      callWith pos f first (backTo pos (starEach (e :: es) X.env)) (backToKw pos (keywordEach [] X.env))) := by rfl) :
    PE X (.Call (.Attribute o m apos) (e :: es) [] pos) (tMethX C m sp (WE W) ta t) := by
  refine ⟨fun pins s σ H Q I h => ?_⟩
  refine PySem.W.methodCall_KW (pl := pl) (thn (he.run pins s σ H _ I h) fun u s1 ⟨x, H1, I1, rx, a, dx, fs, ex, ea, l, q⟩ => ?_) ht
  subst ex
  obtain rfl : u = Value.ref a := rx
  refine getmeth_ok I1 ea c hm l ?_
  refine PySem.W.callWith_K (first := [.ref a]) (h₀ := X.base) I.ok.mod.kin hm.kp (thn (ha.run pos pins s1 σ H1 _ I1 q) fun us s2 ⟨vs, H2, I2, r, q2⟩ => ⟨I2.kIn, ?_⟩) hst hpl
  exact run_fnS (us := .ref a :: us) (vs := .ref a :: vs) F hr hb (passAt tk σ) I2 (.cons rfl r) q2
theorem pe_methX0 {pl : Sem Bool} (he : PE X o ta) (c : Cls X.K C) (hm : Meth X.K C m f) (F : FnOk X.prog X.w X.K X.mg X.base (L2.CX X.prog X.w) k f fd ps sp) (hr : Room k X.A) (hb : Binds X.K fd ps []) (tk : Takes X W)
    (ht : eval (.Call (.Attribute o m apos) [] [] pos) X.env = (do
      let ov ← eval o X.env
      standAt apos.atName
      let (f, first) ← holding [ov] (getMethod ov m pl)
      callWith pos f first (backTo pos (starEach [] X.env)) (backToKw pos (keywordEach [] X.env))) := by rfl) :
    PE X (.Call (.Attribute o m apos) [] [] pos) (tMethX C m sp (WE W) ta tNil) := by
  refine ⟨fun pins s σ H Q I h => ?_⟩
  refine PySem.W.methodCall_KW (pl := pl) (thn (he.run pins s σ H _ I h) fun u s1 ⟨x, H1, I1, rx, a, dx, fs, ex, ea, l, q⟩ => ?_) ht
  subst ex
  obtain rfl : u = Value.ref a := rx
  refine getmeth_ok I1 ea c hm l ?_
  exact PySem.W.callWith_K0 (first := [.ref a]) I1.kIn hm.kp (run_fnS (us := [.ref a]) (vs := [.ref a]) F hr hb (passAt tk σ) I1 (.cons rfl .nil) q)
end
end Mx
/-! several clauses, with «as» and the same name or without a name -/
namespace Tm2
open PySem PySem.Spec PyProof.Rows L2
abbrev Cls1 : Type := Value × Bool × (Addr → Value → Option Addr → TS)
def gone (i : Nat) (D : Ends) : Ends := { nx := fun a b => D.nx (a.set i none) b, rt := D.rt, bk := fun a b => D.bk (a.set i none) b, ct := fun a b => D.ct (a.set i none) b }
def wAl (K : PySem.W.Frag) (i : Nat) (Wo : WX) (D : Ends) : List Cls1 → WX
  | [] => Wo
  | (c, g, ts) :: r => fun k d σ H => ∃ b, PySem.W.exmOne K k c = some b ∧ (b = true → ∀ a, H a = none → if g = true then ts a k d (gone i D) (σ.set i (some (.ref a))) H else ts a k d D σ H) ∧ (b = false → wAl K i Wo D r k d σ H)
inductive Hd (X : Cx) (n : Str) : List ExceptHandler → List Cls1 → Prop
  | nil : Hd X n [] []
  | more {x : Str} {c : Value} {ts : Addr → Value → Option Addr → TS} {b0 : Stmt} {su : List Stmt} {p p' : Pos} {hs : List ExceptHandler} {l : List Cls1} (hc : Names X x c)
      (h1 : ∀ (a : Addr) (o : Obj) (k : Value) (d : Option Addr) (pn : List (Addr × Obj)), Zc k d o → (∃ vs, o.data = .fields vs) → PSs (X.suite a ((a, o) :: pn)) (b0 :: su) (ts a k d)) (r : Hd X n hs l) :
      Hd X n (.ExceptHandler (some (.Name x p)) (some n) (b0 :: su) p' :: hs) ((c, true, ts) :: l)
  | bare {x : Str} {c : Value} {ts : Addr → Value → Option Addr → TS} {b0 : Stmt} {su : List Stmt} {p p' : Pos} {hs : List ExceptHandler} {l : List Cls1} (hc : Names X x c)
      (h1 : ∀ (a : Addr) (o : Obj) (k : Value) (d : Option Addr) (pn : List (Addr × Obj)), Zc k d o → (∃ vs, o.data = .fields vs) → PSs (X.suite a ((a, o) :: pn)) (b0 :: su) (ts a k d)) (r : Hd X n hs l) :
      Hd X n (.ExceptHandler (some (.Name x p)) none (b0 :: su) p' :: hs) ((c, false, ts) :: l)
section
variable {X : Cx} {n : Str} {i : Nat} {body : List Stmt} {h0 : ExceptHandler} {hs0 : List ExceptHandler} {l : List Cls1} {pos : Pos} {tb : WX → TS} {Wo : WX}
theorem ps_try_al (st : X.stack = X.env :: X.outer) (fr : X.env.frame = some X.env.locals) (nd : X.N.Nodup) (hi : X.N[i]? = some n) (lo : X.env.kindOf n = some .local) (tk : Takes X Wo)
    (hb : ∀ (W : WX) (pn : List (Addr × Obj)) (xe : Value → Shared → Prop), Takes (X.tr pn xe) W → PassesOwn (model X.prog X.w) X.A X.env xe → PSs (X.tr pn xe) body (tb W))
    (hh : Hd X n (h0 :: hs0) l) : PS X (.Try body (h0 :: hs0) [] [] pos) (fun D σ H => tb (wAl X.K i Wo D l) D σ H) := by
  refine ⟨fun pins s σ H D I h => ?_⟩
  have ok := I.ok
  have frs' : X.A.frames = some (X.env :: X.outer) := ok.frames.trans (congrArg some st)
  have ll : Loc X.env.scope n := .inl lo
  let M := model X.prog X.w
  let xe1 : Value → Shared → Prop := fun e s1 => wpAny M X.A (noteFrame e X.env) (fun _ s2 => wpAny M X.A (setFlight e none) (fun _ s3 => wpAny M X.A (handleBy e X.env (h0 :: hs0)) (SP X pins D) X.xe s3) X.xe s2) X.xe s1
  have take1 : Takes (X.tr (X.pn ++ pins) xe1) (wAl X.K i Wo D l) := by
    intro u s1 xx
    obtain ⟨a, B, sI, pinz, σ1, H1, k, d, rfl, Jz, nb, up, sky, na, os, ag, w1⟩ := xx
    have J : Inv X pins σ1 H1 sI := Jz.ofTry ok
    have sky1 : Sky B (X.env :: X.outer) a (Zc k d) X.env.locals s1.heap := st ▸ sky
    refine Sky.land Zc.steady frs' fr sky1 fun g1 fl1 up1 => ?_
    have J1 : Inv X pins σ1 H1 { s1 with heap := g1 } := J.landed nb fl1.1 (up.trans up1) os ag
    obtain ⟨o1, v1, a1, z1, d1⟩ := fl1.there
    have nfr : a ∉ frs (X.env :: X.outer) := fun q => by
      obtain ⟨_, o2, a2, n2⟩ := fl1.2.2.1.mem q
      rw [a1] at a2
      cases a2
      exact n2 _ d1
    have nL : a ≠ X.env.locals := fun q => nfr (List.mem_filterMap.mpr ⟨X.env, .head _, fr.trans (congrArg some q.symm)⟩)
    have nF : a ∉ X.fs := fun q => by
      obtain ⟨en, m1, m2⟩ := List.mem_filterMap.mp q
      exact nfr (List.mem_filterMap.mpr ⟨en, .tail _ m1, m2⟩)
    have S1 := J1.suite a1 d1 na nL nF
    have go : ∀ {hz : List ExceptHandler} {lz : List Cls1}, Hd X n hz lz → wAl X.K i Wo D lz k d σ1 H1 → wpAny M X.A (handleBy (.ref a) X.env hz) (SP X pins D) X.xe { s1 with heap := g1 } := by
      intro hz lz hk
      induction hk with
      | nil =>
        intro wz
        refine wpAny_handleBy_nil ?_
        obtain ⟨y1, y2, y3, oe, vz, tz, oz, tsz, yhe, yhz, yhd, yh1, yhr⟩ := id fl1
        unfold PySem.passOn
        refine wpAny_bind (wpAny_field yhe yhd yh1 ?_)
        rw [if_neg (by simp : ¬ ((Value.ref tz == Value.none) = true))]
        have last : wpAny M X.A (setFlight (.ref a) X.env.frame) (fun _ s4 => wpAny M X.A (throw (.ref a) : Sem Flow) (SP X pins D) X.xe s4) X.xe { s1 with heap := g1 } := by
          rw [fr]
          exact HandSPX.setFlight_upZ fl1 fun g2 hh2 up2 => wpAny_throw (tk _ _ ⟨a, B, sI, pins, σ1, H1, k, d, rfl, J, nb, (up.trans up1).trans up2, .inr (.inr (st ▸ hh2)), na, os, ag, wz⟩)
        first
          | exact wpAny_bind (wpAny_pure (wpAny_bind last))
          | exact wpAny_bind last
      | @more x c ts b0 su p p' hs2 l2 hc h1 r ih =>
        intro wz
        obtain ⟨b, eb, yes, no⟩ := wz
        refine wpAny_handleBy_cons (codeAny_handlers_test ?_) (by intro q; cases q)
        have lt : PySem.W.Looks M g1 (typeOf (.ref a)) k := fun A' Q' E' s' kk q => wpAny_typeOf_ref (kk _ _ a1) (z1.1.symm ▸ q)
        have lm := PySem.W.exm_one (M := M) J1.kIn lt eb
        have test : ∀ {Q : Value → Shared → Prop} {E : Value → Shared → Prop}, Q c { s1 with heap := g1 } → wpAny M (X.A.mark (some (.ref a))) (eval (.Name x p) X.env) Q E { s1 with heap := g1 } := fun {Q E} q => by
          rcases hc with ⟨w1, w2, w3 | ⟨w3, w4, w5⟩⟩
          · exact ld_glob (X := X.suite a ((a, o1) :: (X.pn ++ pins))) S1 w1 w3 q w2
          · exact ld_blt (X := X.suite a ((a, o1) :: (X.pn ++ pins))) S1 w1 w3 w4 q w5 w2
        refine test (lm.here ?_)
        cases b with
        | false =>
          show wpAny M X.A (handleBy (.ref a) X.env hs2) _ _ _
          exact ih (no rfl)
        | true =>
          refine codeAny_handlers_suite_as (HandSPX.lands_againZ fl1 fun g2 fl2 up2 => ?_)
          have J2 : Inv X pins σ1 H1 { s1 with heap := g2 } := J.landed nb fl2.1 ((up.trans up1).trans up2) os ag
          obtain ⟨o2, v2, a2, z2, d2⟩ := fl2.there
          refine store_ok (X := X.suite a ((a, o2) :: (X.pn ++ pins))) (v := .ref a) (J2.suite a2 d2 na nL nF) nd hi ll rfl (fun s5 S5 => ?_) (.inr lo)
          refine wpAny_mono ((h1 a o2 k d (X.pn ++ pins) z2 ⟨_, d2⟩).run [] s5 _ H1 _ S5 (yes rfl a na)) (fun f s6 hf => ?_) (fun _ _ q => q.elim)
          have fin : ∀ {σ6 : L2.St} {H6 : Hp} {Q : Shared → Prop}, Inv (X.suite a ((a, o2) :: (X.pn ++ pins))) [] σ6 H6 s6 → (∀ s7, Inv X pins (σ6.set i none) H6 s7 → Q s7) →
              wpAny M X.A (do bindName X.env n .none; unbindBehindTheSuite X.env n p') (fun _ s7 => Q s7) X.xe s6 := fun {_ _ _} S6 hq => gone_ok (S6.unsuite ok) nd hi lo hq
          cases f with
          | ret u => obtain ⟨v6, σ6, H6, S6, r6, q6⟩ := hf; exact fin S6 fun s7 J7 => ⟨_, _, _, J7, r6, q6⟩
          | next => obtain ⟨σ6, H6, S6, q6⟩ := hf; exact fin S6 fun s7 J7 => ⟨_, _, J7, q6⟩
          | brk => obtain ⟨σ6, H6, S6, q6⟩ := hf; exact fin S6 fun s7 J7 => ⟨_, _, J7, q6⟩
          | cont => obtain ⟨σ6, H6, S6, q6⟩ := hf; exact fin S6 fun s7 J7 => ⟨_, _, J7, q6⟩
      | @bare x c ts b0 su p p' hs2 l2 hc h1 r ih =>
        intro wz
        obtain ⟨b, eb, yes, no⟩ := wz
        refine wpAny_handleBy_cons (codeAny_handlers_test ?_) (by intro q; cases q)
        have lt : PySem.W.Looks M g1 (typeOf (.ref a)) k := fun A' Q' E' s' kk q => wpAny_typeOf_ref (kk _ _ a1) (z1.1.symm ▸ q)
        have lm := PySem.W.exm_one (M := M) J1.kIn lt eb
        have test : ∀ {Q : Value → Shared → Prop} {E : Value → Shared → Prop}, Q c { s1 with heap := g1 } → wpAny M (X.A.mark (some (.ref a))) (eval (.Name x p) X.env) Q E { s1 with heap := g1 } := fun {Q E} q => by
          rcases hc with ⟨w1, w2, w3 | ⟨w3, w4, w5⟩⟩
          · exact ld_glob (X := X.suite a ((a, o1) :: (X.pn ++ pins))) S1 w1 w3 q w2
          · exact ld_blt (X := X.suite a ((a, o1) :: (X.pn ++ pins))) S1 w1 w3 w4 q w5 w2
        refine test (lm.here ?_)
        cases b with
        | false =>
          show wpAny M X.A (handleBy (.ref a) X.env hs2) _ _ _
          exact ih (no rfl)
        | true =>
          refine codeAny_handlers_suite ?_
          refine HandSPX.lands_againZ fl1 fun g2 fl2 up2 => ?_
          have J2 : Inv X pins σ1 H1 { s1 with heap := g2 } := J.landed nb fl2.1 ((up.trans up1).trans up2) os ag
          obtain ⟨o2, v2, a2, z2, d2⟩ := fl2.there
          have S2 := J2.suite a2 d2 na nL nF
          refine wpAny_mono ((h1 a o2 k d (X.pn ++ pins) z2 ⟨_, d2⟩).run [] _ _ H1 _ S2 (yes rfl a na)) (fun f s6 hsp => ?_) (fun _ _ z => False.elim z)
          cases f with
          | next =>
            obtain ⟨σ6, H6, S6, q6⟩ := hsp
            exact ⟨_, _, S6.unsuite ok, q6⟩
          | brk =>
            obtain ⟨σ6, H6, S6, q6⟩ := hsp
            exact ⟨_, _, S6.unsuite ok, q6⟩
          | cont =>
            obtain ⟨σ6, H6, S6, q6⟩ := hsp
            exact ⟨_, _, S6.unsuite ok, q6⟩
          | ret u =>
            obtain ⟨v6, σ6, H6, S6, r6, q6⟩ := hsp
            exact ⟨_, _, _, S6.unsuite ok, r6, q6⟩
    exact go hh w1
  refine wpAny_Try_except (wpAny_mono ((hb (wAl X.K i Wo D l) (X.pn ++ pins) xe1 take1 PassesOwn.looking).run [] s σ H D (I.toTry _) h) (fun f s1 hf => ?_) (fun _ _ q => q))
  cases f with
  | ret u => obtain ⟨v, σ1, H1, J1, r1, q1⟩ := hf; exact ⟨v, σ1, H1, J1.ofTry ok, r1, q1⟩
  | next => obtain ⟨σ1, H1, J1, q1⟩ := hf; exact wpAny_execs_nil ⟨σ1, H1, J1.ofTry ok, q1⟩
  | brk => obtain ⟨σ1, H1, J1, q1⟩ := hf; exact ⟨σ1, H1, J1.ofTry ok, q1⟩
  | cont => obtain ⟨σ1, H1, J1, q1⟩ := hf; exact ⟨σ1, H1, J1.ofTry ok, q1⟩
end
end Tm2
/-! a def without loops, called while an exception is handled -/
namespace Hw
open PySem PySem.Spec PyProof.Rows L2
structure Rm (k : Nat) (A : Around) : Prop where
  d : A.depth + 3 * k + 5 < recursionLimit
theorem Rm.of {k j : Nat} {A : Around} (r : Room j A) (h : k ≤ j) (v : Option Value) : Rm k (A.mark v) := ⟨by have := r.dp; show A.depth + 3 * k + 5 < _; omega⟩
/-- the body's context -/
def cxW (P : Program) (w : World) (K : PySem.W.Frag) (mg : Str → Option Value) (base : Heap) (N : List Str) (qual : Str) (sc : Scope) (f : Addr) (cd : Value) (A : Around) (out : List Env) (s : Shared) (H : Hp) (E : XK) : Cx :=
  { cxOf CX0 P w K mg base N qual sc f cd A out s H E with calm := false }
structure FnW (P : Program) (w : World) (K : PySem.W.Frag) (mg : Str → Option Value) (base : Heap) (k : Nat) (f : Addr) (fd : FuncData) (ps : List Str) (sp : Sp) : Prop where
  ln : ∀ vs H Q E, sp vs H Q E → vs.length = ps.length
  go : ∀ (A : Around) (out : List Env) (s : Shared) (H : Hp) (as : Args) (us : List Value) (vs : List V) (Q : VK) (E : XK), Rm k A → Env0 P w K mg base A out s H → BindsTo s fd as (ps.zip us) → Vals vs us → sp vs H Q E → codeAny (model P w) A (.call (.ref f) as) (CR CX0 out P w H s Q E) s
section
variable {P : Program} {w : World} {K : PySem.W.Frag} {mg : Str → Option Value} {base : Heap} {k : Nat} {f : Addr} {N ps : List Str} {sp : Sp}
theorem inv_w {qual : Str} {sc : Scope} {cd : Value} {A : Around} {out : List Env} {s s1 : Shared} {H : Hp} {E : XK} {us : List Value} {vs : List V}
    (S : FnScope N ps sc) (e0 : Env0 P w K mg base A out s H) (hl : vs.length = ps.length) (r : Vals vs us)
    (x : InCallC s s.heap.objs.size (bindL (envOfC qual sc s.heap.objs.size f cd).kindOf (ps.zip us) fun _ => none) (cellsFrom (s.heap.objs.size + 1) sc.names []) (bindC (envOfC qual sc s.heap.objs.size f cd).kindOf (ps.zip us) fun _ => none) s1) :
    Inv (cxW P w K mg base N qual sc f cd A out s H E) [] (L2.start N vs) H s1 := by
  obtain ⟨h1, tk, rfl, hk⟩ := x.done
  have no : ∀ b : Addr, b ∉ (cxW P w K mg base N qual sc f cd A out s H E).ex := fun b z => absurd (show b ∈ ([] : List Addr) from z) (by simp)
  refine ⟨⟨e0.mod, S.kind, rfl, rfl, Nat.le_refl _, fun y z c q1 q2 => ?_, fun y hy => ?_, fun y c _ q => ?_, (fun z => Bool.noConfusion (show false = true from z)), Around.frames_deeper e0.frames, .inr ⟨rfl, rfl⟩, fun b z => absurd z (no b), e0.bs, e0.bsz, fun b _ _ => no b, fun b z => absurd z (no b), e0.funs, e0.frf⟩,
    rfl, e0.bare, Un.kept hk, ⟨_, x.toInCall.ns, fun i y v q1 q2 q3 => ?_⟩, fun y c q => ⟨_, x.cell y c q⟩, e0.hok.fresh (Nat.le_refl _), fun y c q => ?_, fun q hq => ?_, e0.hok.kept hk, ?_⟩
  · exact name_of_addr x.apart (PySem.mem_of_lookup q1) (PySem.mem_of_lookup q2)
  · have hy : sc.names.lookup y = some .cell ∨ sc.names.lookup y = some .free := hy
    exact hy.elim (fun hy => cell_has hy) (fun hy => absurd rfl (S.nofree _ (PySem.mem_of_lookup hy)))
  · exact Nat.le_of_lt (x.above y c (PySem.mem_of_lookup q))
  · have hi : i < vs.length := by
      unfold L2.start at q2
      by_cases hi : i < vs.length
      · exact hi
      · rw [List.getElem?_append_right (by simpa using hi), List.getElem?_replicate] at q2
        split at q2 <;> cases q2
    have ha : vs[i]? = some v := by
      unfold L2.start at q2
      rw [List.getElem?_append_left (by simpa using hi), List.getElem?_map] at q2
      cases e : vs[i]? with
      | none => rw [e] at q2; cases q2
      | some a => rw [e] at q2; cases q2; rfl
    obtain ⟨u, hu, rv⟩ := r.get ha
    have hp : ps[i]? = some y := by
      rw [← S.pre, List.getElem?_take_of_lt (by omega)]
      exact q1
    have ndp : ps.Nodup := by rw [← S.pre]; exact S.nd.sublist (List.take_sublist _ _)
    refine ⟨u, rv, ?_⟩
    rcases S.par y (List.mem_of_getElem? hp) with k | k
    · exact .inl ⟨k, bindL_get ndp hp hu k⟩
    · obtain ⟨c, e⟩ := cell_has (n := s.heap.objs.size + 1) k
      refine .inr ⟨.inl k, c, e, ?_⟩
      have z := x.cell y c e
      rwa [bindC_get ndp hp hu (by show sc.names.lookup y ≠ _; rw [k]; decide)] at z
  · exact e0.hok.fresh (Nat.le_of_lt (x.above y c (PySem.mem_of_lookup q)))
  · exact absurd (show q ∈ ([] : List (Addr × Obj)) from hq) (by simp)
  · have hpl : ps.length ≤ N.length := by have := congrArg List.length S.pre; rw [List.length_take] at this; omega
    unfold L2.start
    show _ = N.length
    rw [List.length_append, List.length_map, List.length_replicate]
    omega
theorem okW {x qual : Str} {st : Stmt} {fd : FuncData} (F : L2.Fun K x qual st f fd) (S : FnScope N ps (defScope st)) (ln : ∀ vs H Q E, sp vs H Q E → vs.length = ps.length)
    (hb : ∀ (cdv : Value) (A : Around) (out : List Env) (s : Shared) (H : Hp) (vs : List V) (Q : VK) (E : XK), Rm k (A.deeper (envOfC qual (defScope st) s.heap.objs.size f cdv)) → sp vs H Q E →
      ∃ t, PSs (cxW P w K mg base N qual (defScope st) f cdv A out s H E) (defBody st) t ∧ t { nx := fun _ H' => Q .non H', rt := Q } (L2.start N vs) H) : FnW P w K mg base (k + 1) f fd ps sp := by
  obtain ⟨oc, od, kV, doc, pm, an, cdv, ct, osl, rfl, lk, hcd⟩ := F.ex
  refine ⟨ln, fun A out s H as us vs Q E hr e0 hbd r hsp => ?_⟩
  have hl := ln _ _ _ _ hsp
  have KX : K.In s.heap := e0.mod.kin.keeps fun b o e => (e0.bs b o e).1
  have lim : s.heap.NoLimit := e0.mod.nolimit.keeps fun b o e => (e0.bs b o e).1
  refine codeAny_call_function (by have := hr.d; omega) (KX _ _ lk) rfl S.co S.gen rfl (PySem.W.codeRec_of KX hcd) (hbd _ _ _ _ ?_)
  refine wpAny_newFunctionEnv_cells S.kind (fun ⟨n, v⟩ hy => (S.par n (List.of_mem_zip hy).1).elim .inl fun q => .inr ⟨q, PySem.W.cellsFrom_some _ _ _ (.inl q)⟩) fun env he s1 x => ?_
  subst he
  refine ⟨lim.keeps x.toInCall.keep, codeAny_func ?_⟩
  obtain ⟨t, ht, hq⟩ := hb cdv A out s H vs Q E ⟨by have := hr.d; show A.depth + 1 + 3 * k + 5 < _; omega⟩ hsp
  have I := inv_w (E := E) S e0 hl r x
  refine wpAny_mono (ht.run [] s1 (L2.start N vs) H _ I hq) (fun fl s' hs => ?_) fun e s' hs => hs
  cases fl with
  | ret u => obtain ⟨v, σ', H', J, rv, q⟩ := hs; exact ⟨v, H', J.os, J.bare, J.base, J.hok, rv, q⟩
  | next => obtain ⟨σ', H', J, q⟩ := hs; exact ⟨.non, H', J.os, J.bare, J.base, J.hok, rfl, q⟩
  | brk => obtain ⟨_, _, _, q⟩ := hs; exact q.elim
  | cont => obtain ⟨_, _, _, q⟩ := hs; exact q.elim
end
section
variable {X : Cx} {k : Nat} {f : Addr} {fd : FuncData} {ps : List Str} {sp : Sp} {x : Str} {q pos : Pos} {e : Expr} {es : List Expr} {t : TA}
theorem pe_cW (F : FnW X.prog X.w X.K X.mg X.base k f fd ps sp) (hr : Rm k X.A) (hg : Gl X x) (hm : X.mg x = some (.ref f)) (hk : PySem.W.keepIn X.K (.ref f) = true) (hb : Binds X.K fd ps [])
    (ha : PA X (e :: es) t) (hdb : (x == ("__debug__" : Str)) = false := by decide) (he : starEach (e :: es) X.env = (false, eval e X.env) :: starEach es X.env := by rfl) (hpl : (backTo pos (starEach es X.env)).any (·.1) = false := by rfl) :
    PE X (.Call (.Name x q) (e :: es) [] pos) (tCallS sp (fun _ => C8.E0) t) := by
  refine ⟨fun pins s σ H Q I h => ?_⟩
  refine wpAny_Call_Name_kw (ld_glob I hg hm ?_ hdb)
  refine PySem.W.callWith_K (h₀ := X.base) I.ok.mod.kin hk (thn (ha.run pos pins s σ H _ I h) fun us s1 ⟨vs, H1, I1, r, z⟩ => ⟨I1.kIn, ?_⟩) he hpl
  have hl : us.length = ps.length := by rw [← r.length]; exact F.ln _ _ _ _ z
  have b := hb s1 us I1.kIn (by rw [List.append_nil]; exact hl)
  rw [List.append_nil] at b
  refine wpAny_call (codeAny_mono (F.go X.A X.stack s1 H1 ⟨us, []⟩ us vs Q C8.E0 hr I1.env0 b r z) fun r s' hq => ?_)
  cases r with
  | error e => exact (show False from hq).elim
  | ok fl =>
    cases fl with
    | ret u => exact I1.after hq
    | next => exact hq.elim
    | brk => exact hq.elim
    | cont => exact hq.elim
end
end Hw
/-! isinstance of a caught own error that bears attributes -/
namespace Isx
open PySem PySem.Spec PySem.Calls PyProof.Rows PySem.W
section
variable {prog : Program} {w : World} {A : Around} {E : Value → Shared → Prop} {s : Shared} {K : Frag} {x D : Addr} {ox : Obj} {od : Option Obj}
theorem find_data {C : Addr} {nm : Str} {a g : Value} (u1 : (clsIn K C).isSome = true) (u2 : findIn K (.ref C) nm = some (some a)) (u3 : specialIn K a "__get__" = some (some g)) (u4 : takesIn K a = some true) : findObj K C od nm = some (.bind g a) := by
  obtain ⟨cd, u1⟩ := Option.isSome_iff_exists.mp u1
  unfold findObj
  rw [u1, Option.bind_some, u2, Option.bind_some]
  simp [u3, u4]
theorem cls_of {Q : Option Value → Shared → Prop} (v1 : findIn K (.ref D) "__getattribute__" = some (some (.builtin "BaseException.__getattribute__"))) (v2 : findIn K (.ref D) "__getattr__" = some none) (v3 : subIn K (.ref D) (.type "BaseException") = some true)
    (v4 : hasDictIn K D = true) (v5 : findIn K (.ref D) "__class__" = some (some (.builtin "object.__class__")))
    (v6 : specialIn K (.builtin "object.__class__") "__get__" = some (some (.builtin "getset_descriptor.__get__"))) (v7 : takesIn K (.builtin "object.__class__") = some true) (v8 : mroIn K D (.type "object") = some true)
    (KX : K.In s.heap) (J : InstAt s.heap x ox D od) (q : Q (some (.ref D)) { s with toks := s.toks + 1 }) : wpAny (model prog w) A (getAttr? (.ref x) "__class__") Q E s := by
  have fo : findObj K D od "__class__" = some (.bind (.builtin "getset_descriptor.__get__") (.builtin "object.__class__")) := find_data (by obtain ⟨cd, hc, _⟩ := any_some v4; rw [hc]; rfl) v5 v6 v7
  obtain ⟨hp, g, d, t, os⟩ := s
  have M0 := J.type (M := model prog w)
  have M1 := looks_findIn (M := model prog w) KX v1
  have M2 := looks_findIn (M := model prog w) KX v2
  have M3 := looks_find (M := model prog w) KX J fo
  have sb : Looks (model prog w) hp (isInstance (.ref x) (.type "BaseException")) true := M0.andThen (looks_subIn KX v3)
  have n0 : (false && onTheHeap (Value.builtin "BaseException.__getattribute__")) = false := rfl
  have n2 : (Value.builtin "BaseException.__getattribute__" == Value.builtin "object.__getattribute__") = false := by decide +kernel
  have n1 : (onTheHeap (Value.ref D) && Value.builtin "BaseException.__getattribute__" == Value.builtin "object.__getattribute__") = false := by rw [n2]; rfl
  unfold getAttr?
  unfold getAttrBy? getAttrBy
  refine wpAny_bind (wpAny_mkText (wpAny_bind (wpAny_attempt (wpAny_holding (wpAny_bind (M0.at (wpAny_bind (M1.at ?_))))))))
  show wpAny _ _ (if (onTheHeap (Value.ref D) &&
    Value.builtin "BaseException.__getattribute__" == Value.builtin "object.__getattribute__") = true then _ else _) _ _ _
  rw [n1, if_neg Bool.false_ne_true]
  unfold getAttrByItsOwn
  unfold hookBefore
  refine wpAny_bind ?_
  rw [if_pos (show onTheHeap (Value.ref D) = true by rfl)]
  refine M2.at ?_
  refine wpAny_bind (wpAny_attempt ?_)
  refine wpAny_holding ?_
  unfold callGetattribute
  rw [n0, if_neg Bool.false_ne_true]
  unfold boundAndCalled
  rw [(PySem.F.excAttr_ValueError.ga).bind (.ref x)]
  refine wpAny_bind (wpAny_pure ?_)
  show wpAny _ _ (call (.builtin "BaseException.__getattribute__") [.ref x,
    .str "__class__" t]) _ _ _
  refine wpAny_call (codeAny_call_builtin (PySem.F.excAttr_ValueError.ga).plain PySem.F.entry_bexc_ga ?_)
  refine @check_slot (model prog w) _ _ ⟨hp, g, d, t + 1, os⟩ "BaseException.__getattribute__" "BaseException" "__getattribute__" (.ref x) [.str "__class__" t] [] _ (by decide +kernel) (by decide +kernel) sb (PySem.F.args_bexc_ga (.ref x) (.str "__class__" t)) ?_
  unfold Builtin.«object.__getattribute__»
  refine wpAny_bind (wpAny_of_eq (a := ((Value.ref x : Value), [Value.str "__class__" t])) (by first | (simp only [slotArgs]; rfl) | rfl) ?_)
  refine wpAny_bind (wpAny_pure (wpAny_bind (M0.at (wpAny_bind (M3.at ?_)))))
  show wpAny _ _ (holding [Value.builtin "object.__class__"] (call (.builtin "getset_descriptor.__get__") [.builtin "object.__class__", .ref x,
    .ref D]) >>= ret) _ _ _
  refine wpAny_bind (wpAny_holding (wpAny_call (class_get (s := ⟨hp, g, d, t + 1, os⟩) (ox := ox) (od := od) KX J v8 ?_)))
  refine wpAny_pure ?_
  show wpAny _ _
    (handedOut (.ref D)) _ _ _
  rw [handedOut_of (v := .ref D) rfl]
  first
    | exact wpAny_pure (wpAny_pure q)
    | exact wpAny_pure q
    | exact wpAny_pure (wpAny_bind (wpAny_pure (wpAny_pure q)))
theorem kitx (T : L2.ExcC K D) : KitX K (.ref x) (.ref D) (fun h => ∃ od, InstAt h x ox D od) where
  ty := fun _ _ _ ⟨_, J⟩ => J.type
  it := fun _ _ KX _ => by
    obtain ⟨z, hz, _⟩ := any_some T.hd
    unfold clsIn at hz
    split at hz
    · rename_i c' d' cd' sl' ho
      intro A' Q' E' s' k q
      unfold isType
      unfold loadHead
      exact wpAny_bind (wpAny_loadPart (k _ _ (KX _ _ ho)) (wpAny_pure q))
    · cases hz
  ne := fun h tp dd its n sl KX htp => by
    obtain ⟨z, hz, _⟩ := any_some T.hd
    refine Bool.eq_false_iff.mpr fun y => ?_
    obtain rfl : D = tp := Value.ref.inj (beq_iff_eq.mp y)
    unfold clsIn at hz
    split at hz
    · rename_i c' d' cd' sl' ho
      cases (KX _ _ ho).symm.trans htp
    · cases hz
  ca := fun KX ⟨_, J⟩ k => cls_of T.hg T.hk T.hs T.hd T.ha T.hn T.ht T.hm KX J k
end
end Isx
namespace Isx
open PySem PySem.Spec PyProof.Rows L2
/-- isinstance of a caught error, with attributes or without -/
def rIsF (K : PySem.W.Frag) (a : Addr) (cls : Value) (d : Option Addr) : List V → Hp → VK → Prop := fun xs H Q => ∃ (D dd : Addr) (fs : List (Str × V)), cls = .ref D ∧ d = some dd ∧ H dd = some (.xd fs) ∧ ExcC K D ∧ rIsE K D a xs H Q
theorem call_isF {X : Cx} {K : PySem.W.Frag} {a : Addr} {cls : Value} {d : Option Addr} {oe : Obj} {pn : List (Addr × Obj)} (h : X.K = K) (hz : Zc cls d oe) (hf : ∃ vs, oe.data = .fields vs) : CallR (X.suite a ((a, oe) :: pn)) (.builtin "isinstance") (rIsF K a cls d) := by
  subst h
  intro pins s σ H xs us Q I r z
  obtain ⟨D, dd, fs, rfl, rfl, hdd, T, c, cv, b, rfl, hcv, e, q⟩ := z
  cases r with
  | cons rx rr =>
    cases rr with
    | cons rt rr =>
      cases rr
      cases rx
      obtain rfl := hcv _ rt
      obtain ⟨hget, _⟩ := I.pin (a, oe) (List.mem_append.mpr (.inl List.mem_cons_self))
      obtain ⟨vs, hv⟩ := hf
      obtain ⟨mA, hns, hr⟩ := I.hok dd _ hdd
      obtain ⟨od, ho, hl⟩ := lookIn_ns hns
      have J : PySem.W.InstAt s.heap a oe D (some od) := ⟨hget, hz.1, by unfold PySem.W.notCls; rw [hv] <;> rfl, by rw [hz.2]; exact ho⟩
      exact PySem.W.kia_one (kitx T) I.kIn ⟨_, J⟩ e (fun z => nomatch z) fun tk => ⟨.bl b, H, I.kept (t' := tk) fun _ _ z => z, rfl, q⟩
end Isx
local macro_rules | `(tactic| walk_at "hl") => `(tactic| first | assumption | exact L2.upd_same | (refine Bx.sat (by assumption) ?_; walk_at "hl"))
local macro_rules | `(tactic| walk_at "bx") => `(tactic| repeat (first
  | refine ⟨_, rfl, ?_⟩
  | refine ⟨_, _, rfl, rfl, ?_⟩
  | refine ⟨rfl, ?_⟩
  | refine Or.inl ⟨_, rfl, ?_⟩
  | refine ⟨Or.inr ⟨by decide, by decide⟩, ?_⟩
  | refine ⟨Or.inl ⟨by decide, by decide⟩, ?_⟩
  | refine ⟨(show (0 : Int) < _ by decide), ?_⟩
  | refine ⟨⟨by decide, by decide⟩, ?_⟩
  | refine ⟨_, _, rfl, Or.inl (L2.SqL.of (by walk_at "hl")), ?_⟩
  | refine ⟨_, _, rfl, Or.inr (L2.SqT.of (by walk_at "hl")), ?_⟩
  | refine ⟨Or.inl ⟨rfl, _, L2.SqL.of (by walk_at "hl")⟩, ?_⟩
  | refine ⟨_, _, _, rfl, rfl, (by walk_at "hl"), ?_⟩
  | refine ⟨_, _, rfl, rfl, (by walk_at "hl"), ?_⟩
  | refine ⟨_, _, _, _, rfl, rfl, L2.SqT.of (by walk_at "hl"), (by walk_at "hl"), ?_⟩
  | refine ⟨_, _, _, _, rfl, rfl, L2.SqL.of (by walk_at "hl"), (by walk_at "hl"), ?_⟩
  | refine ⟨_, _, rfl, Bx.SeqI.sq (by walk_at "hl"), ?_⟩
  | refine And.intro (by walk_at "hl") ?_))
local macro_rules | `(tactic| walk_at "nl") => `(tactic| ((try unfold L2.tNil); (try unfold L2.tNoPart)))

namespace My
open PySem PySem.Spec PyProof.Rows L2 Bx Tx Tr
def topS (i : Nat) : Stmt := PySem.Challenge.pw_reactivesynth_k48_spec_text_refused.main.body.getD i (.Pass ⟨0, 0, 0, 0⟩)
abbrev s_decimal : Stmt := topS 3
abbrev N_decimal : List Str := ["number", "left", "pieces", "low"]
theorem sc_decimal : FnScope N_decimal ["number"] (defScope s_decimal) := ⟨rfl, rfl, rfl, by decide +kernel, rfl, by decide +kernel, by decide +kernel⟩
abbrev s_operands : Stmt := topS 15
abbrev N_operands : List Str := ["formula"]
theorem sc_operands : FnScope N_operands ["formula"] (defScope s_operands) := ⟨rfl, rfl, rfl, by decide +kernel, rfl, by decide +kernel, by decide +kernel⟩
abbrev s_subformulas : Stmt := topS 16
abbrev N_subformulas : List Str := ["formula", "found", "waiting", "part"]
theorem sc_subformulas : FnScope N_subformulas ["formula"] (defScope s_subformulas) := ⟨rfl, rfl, rfl, by decide +kernel, rfl, by decide +kernel, by decide +kernel⟩
abbrev s_count_operators : Stmt := topS 17
abbrev N_count_operators : List Str := ["formula", "kinds", "part"]
theorem sc_count_operators : FnScope N_count_operators ["formula", "kinds"] (defScope s_count_operators) := ⟨rfl, rfl, rfl, by decide +kernel, rfl, by decide +kernel, by decide +kernel⟩
abbrev s_temporal_count : Stmt := topS 18
abbrev N_temporal_count : List Str := ["formula"]
theorem sc_temporal_count : FnScope N_temporal_count ["formula"] (defScope s_temporal_count) := ⟨rfl, rfl, rfl, by decide +kernel, rfl, by decide +kernel, by decide +kernel⟩
abbrev s_depth : Stmt := topS 19
abbrev N_depth : List Str := ["formula", "deepest", "waiting", "part", "level", "below"]
theorem sc_depth : FnScope N_depth ["formula"] (defScope s_depth) := ⟨rfl, rfl, rfl, by decide +kernel, rfl, by decide +kernel, by decide +kernel⟩
abbrev s_is_quantified : Stmt := topS 27
abbrev N_is_quantified : List Str := ["prop"]
theorem sc_is_quantified : FnScope N_is_quantified ["prop"] (defScope s_is_quantified) := ⟨rfl, rfl, rfl, by decide +kernel, rfl, by decide +kernel, by decide +kernel⟩
abbrev s_formula_of : Stmt := topS 28
abbrev N_formula_of : List Str := ["prop"]
theorem sc_formula_of : FnScope N_formula_of ["prop"] (defScope s_formula_of) := ⟨rfl, rfl, rfl, by decide +kernel, rfl, by decide +kernel, by decide +kernel⟩
abbrev s_word_at : Stmt := topS 32
abbrev N_word_at : List Str := ["text", "at", "end"]
theorem sc_word_at : FnScope N_word_at ["text", "at"] (defScope s_word_at) := ⟨rfl, rfl, rfl, by decide +kernel, rfl, by decide +kernel, by decide +kernel⟩
abbrev s_is_reserved : Stmt := topS 33
abbrev N_is_reserved : List Str := ["word"]
theorem sc_is_reserved : FnScope N_is_reserved ["word"] (defScope s_is_reserved) := ⟨rfl, rfl, rfl, by decide +kernel, rfl, by decide +kernel, by decide +kernel⟩
abbrev s_is_name : Stmt := topS 34
abbrev N_is_name : List Str := ["text"]
theorem sc_is_name : FnScope N_is_name ["text"] (defScope s_is_name) := ⟨rfl, rfl, rfl, by decide +kernel, rfl, by decide +kernel, by decide +kernel⟩
abbrev s_natural : Stmt := topS 35
abbrev N_natural : List Str := ["text", "number", "character"]
theorem sc_natural : FnScope N_natural ["text"] (defScope s_natural) := ⟨rfl, rfl, rfl, by decide +kernel, rfl, by decide +kernel, by decide +kernel⟩
abbrev s_whole : Stmt := topS 36
abbrev N_whole : List Str := ["text", "size"]
theorem sc_whole : FnScope N_whole ["text"] (defScope s_whole) := ⟨rfl, rfl, rfl, by decide +kernel, rfl, by decide +kernel, by decide +kernel⟩
abbrev s_parse_property : Stmt := topS 47
abbrev N_parse_property : List Str := ["text", "names", "quantifier", "hidden", "formula"]
theorem sc_parse_property : FnScope N_parse_property ["text", "names"] (defScope s_parse_property) := ⟨rfl, rfl, rfl, by decide +kernel, rfl, by decide +kernel, by decide +kernel⟩
abbrev s_check_names : Stmt := topS 48
abbrev N_check_names : List Str := ["hidden", "formula", "names", "known", "name", "part"]
theorem sc_check_names : FnScope N_check_names ["hidden", "formula", "names"] (defScope s_check_names) := ⟨rfl, rfl, rfl, by decide +kernel, rfl, by decide +kernel, by decide +kernel⟩
abbrev s_check_bounds : Stmt := topS 49
abbrev N_check_bounds : List Str := ["hidden", "formula"]
theorem sc_check_bounds : FnScope N_check_bounds ["hidden", "formula"] (defScope s_check_bounds) := ⟨rfl, rfl, rfl, by decide +kernel, rfl, by decide +kernel, by decide +kernel⟩
abbrev s_split_tokens : Stmt := topS 50
abbrev N_split_tokens : List Str := ["text", "tokens", "at", "kind", "characters"]
theorem sc_split_tokens : FnScope N_split_tokens ["text"] (defScope s_split_tokens) := ⟨rfl, rfl, rfl, by decide +kernel, rfl, by decide +kernel, by decide +kernel⟩
abbrev s_token_at : Stmt := topS 51
abbrev N_token_at : List Str := ["text", "at", "sign", "word"]
theorem sc_token_at : FnScope N_token_at ["text", "at"] (defScope s_token_at) := ⟨rfl, rfl, rfl, by decide +kernel, rfl, by decide +kernel, by decide +kernel⟩
abbrev s_fold : Stmt := topS 52
abbrev N_fold : List Str := ["operators", "parts"]
theorem sc_fold : FnScope N_fold ["operators", "parts"] (defScope s_fold) := ⟨rfl, rfl, rfl, by decide +kernel, rfl, by decide +kernel, by decide +kernel⟩
abbrev s_fold_left : Stmt := topS 53
abbrev N_fold_left : List Str := ["operators", "parts", "kinds", "joined", "sign", "part", "kind"]
theorem sc_fold_left : FnScope N_fold_left ["operators", "parts"] (defScope s_fold_left) := ⟨rfl, rfl, rfl, by decide +kernel, rfl, by decide +kernel, by decide +kernel⟩
abbrev s_fold_right : Stmt := topS 54
abbrev N_fold_right : List Str := ["operators", "parts", "kinds", "joined", "sign", "part", "kind"]
theorem sc_fold_right : FnScope N_fold_right ["operators", "parts"] (defScope s_fold_right) := ⟨rfl, rfl, rfl, by decide +kernel, rfl, by decide +kernel, by decide +kernel⟩
abbrev s_parse_spec : Stmt := topS 65
abbrev N_parse_spec : List Str := ["text", "pieces", "lines", "inputs", "outputs", "lead", "assumptions", "guarantees", "negated", "prop"]
theorem sc_parse_spec : FnScope N_parse_spec ["text"] (defScope s_parse_spec) := ⟨rfl, rfl, rfl, by decide +kernel, rfl, by decide +kernel, by decide +kernel⟩
abbrev s_line_at : Stmt := topS 66
abbrev N_line_at : List Str := ["lines", "at"]
theorem sc_line_at : FnScope N_line_at ["lines", "at"] (defScope s_line_at) := ⟨rfl, rfl, rfl, by decide +kernel, rfl, by decide +kernel, by decide +kernel⟩
abbrev s_read_names : Stmt := topS 67
abbrev N_read_names : List Str := ["lines", "at", "word", "others", "pieces", "names", "name"]
theorem sc_read_names : FnScope N_read_names ["lines", "at", "word", "others"] (defScope s_read_names) := ⟨rfl, rfl, rfl, by decide +kernel, rfl, by decide +kernel, by decide +kernel⟩
abbrev s_read_lead : Stmt := topS 68
abbrev N_read_lead : List Str := ["lines", "at", "word", "_", "number", "lead"]
theorem sc_read_lead : FnScope N_read_lead ["lines", "at"] (defScope s_read_lead) := ⟨rfl, rfl, rfl, by decide +kernel, rfl, by decide +kernel, by decide +kernel⟩
abbrev s_read_properties : Stmt := topS 69
abbrev N_read_properties : List Str := ["lines", "names", "assumptions", "guarantees", "at", "line"]
theorem sc_read_properties : FnScope N_read_properties ["lines", "names"] (defScope s_read_properties) := ⟨rfl, rfl, rfl, by decide +kernel, rfl, by decide +kernel, by decide +kernel⟩
abbrev s_law_draws : Stmt := topS 71
abbrev N_law_draws : List Str := ["script", "count", "cells", "found", "mixed", "k", "j", "cell", "again"]
theorem sc_law_draws : FnScope N_law_draws ["script", "count"] (defScope s_law_draws) := ⟨rfl, rfl, rfl, by decide +kernel, rfl, by decide +kernel, by decide +kernel⟩
abbrev s_law_take : Stmt := topS 72
abbrev N_law_take : List Str := ["draws", "limit"]
theorem sc_law_take : FnScope N_law_take ["draws", "limit"] (defScope s_law_take) := ⟨rfl, rfl, rfl, by decide +kernel, rfl, by decide +kernel, by decide +kernel⟩
abbrev s_law_leaf : Stmt := topS 73
abbrev N_law_leaf : List Str := ["draws", "names", "choice"]
theorem sc_law_leaf : FnScope N_law_leaf ["draws", "names"] (defScope s_law_leaf) := ⟨rfl, rfl, rfl, by decide +kernel, rfl, by decide +kernel, by decide +kernel⟩
abbrev s_law_formula : Stmt := topS 74
abbrev N_law_formula : List Str := ["draws", "names", "budget", "deep", "choice", "unary", "operator", "part", "left"]
theorem sc_law_formula : FnScope N_law_formula ["draws", "names", "budget", "deep"] (defScope s_law_formula) := ⟨rfl, rfl, rfl, by decide +kernel, rfl, by decide +kernel, by decide +kernel⟩
abbrev s_law_print : Stmt := topS 75
abbrev N_law_print : List Str := ["formula", "signs", "more", "last", "operator", "sign"]
theorem sc_law_print : FnScope N_law_print ["formula"] (defScope s_law_print) := ⟨rfl, rfl, rfl, by decide +kernel, rfl, by decide +kernel, by decide +kernel⟩
abbrev s_law_outcome : Stmt := topS 76
abbrev N_law_outcome : List Str := ["text", "spec", "e"]
theorem sc_law_outcome : FnScope N_law_outcome ["text"] (defScope s_law_outcome) := ⟨rfl, rfl, rfl, by decide +kernel, rfl, by decide +kernel, by decide +kernel⟩
abbrev s_law_header : Stmt := topS 77
abbrev N_law_header : List Str := ["lines", "names", "at", "words", "word", "char"]
theorem sc_law_header : FnScope N_law_header ["lines", "names"] (defScope s_law_header) := ⟨rfl, rfl, rfl, by decide +kernel, rfl, by decide +kernel, by decide +kernel⟩
abbrev s_law_expected : Stmt := topS 78
abbrev N_law_expected : List Str := ["text", "odd", "lines", "rest", "names", "at", "counts", "total", "k", "line", "kind", "right", "body", "pair", "strange", "word", "sign"]
theorem sc_law_expected : FnScope N_law_expected ["text", "odd"] (defScope s_law_expected) := ⟨rfl, rfl, rfl, by decide +kernel, rfl, by decide +kernel, by decide +kernel⟩
abbrev s_law_change : Stmt := topS 79
abbrev N_law_change : List Str := ["draws", "lines", "odd", "kind", "at", "extra", "word"]
theorem sc_law_change : FnScope N_law_change ["draws", "lines", "odd"] (defScope s_law_change) := ⟨rfl, rfl, rfl, by decide +kernel, rfl, by decide +kernel, by decide +kernel⟩
abbrev s_law : Stmt := topS 80
abbrev N_law : List Str := ["script", "draws", "odd", "names", "inputs", "outputs", "lines", "k", "text", "end", "line"]
theorem sc_law : FnScope N_law ["script"] (defScope s_law) := ⟨rfl, rfl, rfl, by decide +kernel, rfl, by decide +kernel, by decide +kernel⟩
abbrev s_FormulaSyntaxError_init : Stmt := inClass (topS 8) 0
abbrev N_FormulaSyntaxError_init : List Str := ["self", "position"]
theorem sc_FormulaSyntaxError_init : Sup.ScZ N_FormulaSyntaxError_init ["self", "position"] (defScope s_FormulaSyntaxError_init) := Sup.ScZ.by2 rfl rfl rfl (by decide +kernel) rfl (by decide +kernel) (by decide +kernel) (by decide +kernel) rfl rfl
abbrev s_DuplicateSignal_init : Stmt := inClass (topS 9) 0
abbrev N_DuplicateSignal_init : List Str := ["self", "name"]
theorem sc_DuplicateSignal_init : Sup.ScZ N_DuplicateSignal_init ["self", "name"] (defScope s_DuplicateSignal_init) := Sup.ScZ.by2 rfl rfl rfl (by decide +kernel) rfl (by decide +kernel) (by decide +kernel) (by decide +kernel) rfl rfl
abbrev s_UnknownSignal_init : Stmt := inClass (topS 10) 0
abbrev N_UnknownSignal_init : List Str := ["self", "name"]
theorem sc_UnknownSignal_init : Sup.ScZ N_UnknownSignal_init ["self", "name"] (defScope s_UnknownSignal_init) := Sup.ScZ.by2 rfl rfl rfl (by decide +kernel) rfl (by decide +kernel) (by decide +kernel) (by decide +kernel) rfl rfl
abbrev s_SpecSyntaxError_init : Stmt := inClass (topS 11) 0
abbrev N_SpecSyntaxError_init : List Str := ["self", "line"]
theorem sc_SpecSyntaxError_init : Sup.ScZ N_SpecSyntaxError_init ["self", "line"] (defScope s_SpecSyntaxError_init) := Sup.ScZ.by2 rfl rfl rfl (by decide +kernel) rfl (by decide +kernel) (by decide +kernel) (by decide +kernel) rfl rfl
abbrev s_Reader_init : Stmt := inClass (topS 55) 0
abbrev N_Reader_init : List Str := ["self", "text", "kind", "sign"]
theorem sc_Reader_init : FnScope N_Reader_init ["self", "text"] (defScope s_Reader_init) := ⟨rfl, rfl, rfl, by decide +kernel, rfl, by decide +kernel, by decide +kernel⟩
abbrev s_Reader_peek : Stmt := inClass (topS 55) 1
abbrev N_Reader_peek : List Str := ["self"]
theorem sc_Reader_peek : FnScope N_Reader_peek ["self"] (defScope s_Reader_peek) := ⟨rfl, rfl, rfl, by decide +kernel, rfl, by decide +kernel, by decide +kernel⟩
abbrev s_Reader_take : Stmt := inClass (topS 55) 2
abbrev N_Reader_take : List Str := ["self", "kind", "found", "characters", "position"]
theorem sc_Reader_take : FnScope N_Reader_take ["self", "kind"] (defScope s_Reader_take) := ⟨rfl, rfl, rfl, by decide +kernel, rfl, by decide +kernel, by decide +kernel⟩
abbrev s_Reader_read_all : Stmt := inClass (topS 55) 3
abbrev N_Reader_read_all : List Str := ["self", "quantifier", "hidden", "formula"]
theorem sc_Reader_read_all : FnScope N_Reader_read_all ["self"] (defScope s_Reader_read_all) := ⟨rfl, rfl, rfl, by decide +kernel, rfl, by decide +kernel, by decide +kernel⟩
abbrev s_Reader_read_hidden : Stmt := inClass (topS 55) 4
abbrev N_Reader_read_hidden : List Str := ["self", "hidden"]
theorem sc_Reader_read_hidden : FnScope N_Reader_read_hidden ["self"] (defScope s_Reader_read_hidden) := ⟨rfl, rfl, rfl, by decide +kernel, rfl, by decide +kernel, by decide +kernel⟩
abbrev s_Reader_read_formula : Stmt := inClass (topS 55) 5
abbrev N_Reader_read_formula : List Str := ["self", "level", "parts", "operators"]
theorem sc_Reader_read_formula : FnScope N_Reader_read_formula ["self", "level"] (defScope s_Reader_read_formula) := ⟨rfl, rfl, rfl, by decide +kernel, rfl, by decide +kernel, by decide +kernel⟩
abbrev s_Reader_read_unary : Stmt := inClass (topS 55) 6
abbrev N_Reader_read_unary : List Str := ["self", "signs", "formula", "sign"]
theorem sc_Reader_read_unary : FnScope N_Reader_read_unary ["self"] (defScope s_Reader_read_unary) := ⟨rfl, rfl, rfl, by decide +kernel, rfl, by decide +kernel, by decide +kernel⟩
abbrev s_Reader_read_atom : Stmt := inClass (topS 55) 7
abbrev N_Reader_read_atom : List Str := ["self", "formula"]
theorem sc_Reader_read_atom : FnScope N_Reader_read_atom ["self"] (defScope s_Reader_read_atom) := ⟨rfl, rfl, rfl, by decide +kernel, rfl, by decide +kernel, by decide +kernel⟩
abbrev s_Spec_init : Stmt := inClass (topS 58) 0
abbrev N_Spec_init : List Str := ["self", "inputs", "outputs", "lead", "assumptions", "guarantees", "negated", "names", "name"]
theorem sc_Spec_init : FnScope N_Spec_init ["self", "inputs", "outputs", "lead", "assumptions", "guarantees", "negated"] (defScope s_Spec_init) := ⟨rfl, rfl, rfl, by decide +kernel, rfl, by decide +kernel, by decide +kernel⟩
abbrev s_Spec_signals : Stmt := inClass (topS 58) 1
abbrev N_Spec_signals : List Str := ["self"]
theorem sc_Spec_signals : FnScope N_Spec_signals ["self"] (defScope s_Spec_signals) := ⟨rfl, rfl, rfl, by decide +kernel, rfl, by decide +kernel, by decide +kernel⟩
structure Has (K : PySem.W.Frag) (mg : Str → Option Value) (x : Str) (st : Stmt) (ps : List Str) : Prop where
  ex : ∃ (f : Addr) (fd : FuncData), L2.Fun K x x st f fd ∧ mg x = some (.ref f) ∧ Binds K fd ps []
structure Txt (K : PySem.W.Frag) (mg : Str → Option Value) (w : World) (P : Program) : Prop where
  h_decimal : Has K mg "decimal" s_decimal ["number"]
  h_operands : Has K mg "operands" s_operands ["formula"]
  h_subformulas : Has K mg "subformulas" s_subformulas ["formula"]
  h_count_operators : Has K mg "count_operators" s_count_operators ["formula", "kinds"]
  h_temporal_count : Has K mg "temporal_count" s_temporal_count ["formula"]
  h_depth : Has K mg "depth" s_depth ["formula"]
  h_is_quantified : Has K mg "is_quantified" s_is_quantified ["prop"]
  h_formula_of : Has K mg "formula_of" s_formula_of ["prop"]
  h_word_at : Has K mg "word_at" s_word_at ["text", "at"]
  h_is_reserved : Has K mg "is_reserved" s_is_reserved ["word"]
  h_is_name : Has K mg "is_name" s_is_name ["text"]
  h_natural : Has K mg "natural" s_natural ["text"]
  h_whole : Has K mg "whole" s_whole ["text"]
  h_parse_property : Has K mg "parse_property" s_parse_property ["text", "names"]
  h_check_names : Has K mg "check_names" s_check_names ["hidden", "formula", "names"]
  h_check_bounds : Has K mg "check_bounds" s_check_bounds ["hidden", "formula"]
  h_split_tokens : Has K mg "split_tokens" s_split_tokens ["text"]
  h_token_at : Has K mg "token_at" s_token_at ["text", "at"]
  h_fold : Has K mg "fold" s_fold ["operators", "parts"]
  h_fold_left : Has K mg "fold_left" s_fold_left ["operators", "parts"]
  h_fold_right : Has K mg "fold_right" s_fold_right ["operators", "parts"]
  h_parse_spec : Has K mg "parse_spec" s_parse_spec ["text"]
  h_line_at : Has K mg "line_at" s_line_at ["lines", "at"]
  h_read_names : Has K mg "read_names" s_read_names ["lines", "at", "word", "others"]
  h_read_lead : Has K mg "read_lead" s_read_lead ["lines", "at"]
  h_read_properties : Has K mg "read_properties" s_read_properties ["lines", "names"]
  h_law_draws : Has K mg "_law_draws" s_law_draws ["script", "count"]
  h_law_take : Has K mg "_law_take" s_law_take ["draws", "limit"]
  h_law_leaf : Has K mg "_law_leaf" s_law_leaf ["draws", "names"]
  h_law_formula : Has K mg "_law_formula" s_law_formula ["draws", "names", "budget", "deep"]
  h_law_print : Has K mg "_law_print" s_law_print ["formula"]
  h_law_outcome : Has K mg "_law_outcome" s_law_outcome ["text"]
  h_law_header : Has K mg "_law_header" s_law_header ["lines", "names"]
  h_law_expected : Has K mg "_law_expected" s_law_expected ["text", "odd"]
  h_law_change : Has K mg "_law_change" s_law_change ["draws", "lines", "odd"]
  z_abs : mg "abs" = none
  z_all : mg "all" = none
  z_int : mg "int" = none
  z_len : mg "len" = none
  z_list : mg "list" = none
  z_max : mg "max" = none
  z_range : mg "range" = none
  z_set : mg "set" = none
  z_str : mg "str" = none
  z_sum : mg "sum" = none
  z_tuple : mg "tuple" = none
  z_zip : mg "zip" = none
  er : (∃ (aQ aN aF aP aG aA : Addr), GloT K mg "QUANTIFIERS" ["exists", "forall"] aQ ∧ GloT K mg "CONSTANTS" ["true", "false"] aN ∧ GloT K mg "FUTURE" Tr.future aF ∧ GloT K mg "PAST" Tr.past aP ∧ GloT K mg "SIGNS" ["<->", "->", "!", "&", "|", "(", ")", ",", ":", "X", "F", "G", "U", "W", "R", "Y", "Z", "O", "H", "S", "T"] aG ∧ GloT K mg "ASSOCIATE_TO_THE_LEFT" ["|", "&"] aA) ∧ (∃ (tk1 tk2 : Tok), mg "LOWER_CASE" = some (.str "abcdefghijklmnopqrstuvwxyz" tk1) ∧ mg "DIGITS" = some (.str "0123456789" tk2)) ∧ (∃ (C fI fP fT fA fH fF fU fO : Addr) (fdI fdP fdT fdA fdH fdF fdU fdO : FuncData), RdrC K C ∧ Mk K C fI ∧ mg "Reader" = some (.ref C) ∧ L2.Fun K "__init__" "Reader.__init__" s_Reader_init fI fdI ∧ Binds K fdI ["self", "text"] [] ∧ Meth K C "peek" fP ∧ L2.Fun K "peek" "Reader.peek" s_Reader_peek fP fdP ∧ Binds K fdP ["self"] [] ∧ Meth K C "take" fT ∧ L2.Fun K "take" "Reader.take" s_Reader_take fT fdT ∧ Binds K fdT ["self", "kind"] [] ∧ Meth K C "read_all" fA ∧ L2.Fun K "read_all" "Reader.read_all" s_Reader_read_all fA fdA ∧ Binds K fdA ["self"] [] ∧ Meth K C "read_hidden" fH ∧ L2.Fun K "read_hidden" "Reader.read_hidden" s_Reader_read_hidden fH fdH ∧ Binds K fdH ["self"] [] ∧ Meth K C "read_formula" fF ∧ L2.Fun K "read_formula" "Reader.read_formula" s_Reader_read_formula fF fdF ∧ Binds K fdF ["self", "level"] [] ∧ Meth K C "read_unary" fU ∧ L2.Fun K "read_unary" "Reader.read_unary" s_Reader_read_unary fU fdU ∧ Binds K fdU ["self"] [] ∧ Meth K C "read_atom" fO ∧ L2.Fun K "read_atom" "Reader.read_atom" s_Reader_read_atom fO fdO ∧ Binds K fdO ["self"] []) ∧ (∃ aR : Addr, mg "PREFIX_SIGNS" = some (.ref aR) ∧ Kt7.KIt K w aR preL) ∧ (∃ aI : Addr, mg "INFIX_SIGNS" = some (.ref aI) ∧ Kt7.KIt K w aI infL) ∧ (∃ aL : Addr, mg "LEVELS" = some (.ref aL) ∧ ∃ bs : List Addr, bs.length = 5 ∧ (∀ H, SqT K H aL (bs.map V.ref)) ∧ ∀ l, l < 5 → ∃ b, bs[l]? = some b ∧ ∀ H, SqT K H b ((levL.getD l []).map V.str)) ∧ (∃ (tm1 tm2 tm3 tm4 tm5 tm6 : Tok), mg "MOST_CHARACTERS" = some (.int 200 tm1) ∧ mg "MOST_PARENTHESES" = some (.int 20 tm2) ∧ mg "MOST_HIDDEN" = some (.int 3 tm3) ∧ mg "MOST_DEPTH" = some (.int 100 tm4) ∧ mg "MOST_TEMPORAL" = some (.int 8 tm5) ∧ mg "MOST_DOUBLING" = some (.int 6 tm6)) ∧ (∃ (cS C fZS : Addr) (fdZS : FuncData), ErrC K mg "InvalidSpec" cS ∧ Spx.SpcC K C ∧ Mk K C fZS ∧ mg "Spec" = some (.ref C) ∧ FunD K "__init__" "Spec.__init__" (defArgs s_Spec_init) (defBody s_Spec_init) (defScope s_Spec_init) [] [("negated", .bl false)] fZS fdZS ∧ C8.InsC K C) ∧ (∃ (u0 u1 u2 u3 u4 u5 u6 u7 u8 u9 : Tok), mg "LEAST_LEAD" = some (.int (-3) u0) ∧ mg "GREATEST_LEAD" = some (.int 2 u1) ∧ mg "MOST_NAMES" = some (.int 3 u2) ∧ mg "PIECE" = some (.int 1000000000000000000 u3) ∧ mg "DIGITS_IN_A_PIECE" = some (.int 18 u4) ∧ mg "ASSUME" = some (.str "assume " u5) ∧ mg "GUARANTEE" = some (.str "guarantee " u6) ∧ mg "NEGATED" = some (.str "negated" u7) ∧ mg "FIRST_PROPERTY" = some (.int 3 u8) ∧ mg "MOST_PROPERTIES" = some (.int 6 u9)) ∧ (∃ (cT cD fD cU fU cF fF cL fL : Addr) (fdD fdU fdF fdL : FuncData), ErrC K mg "TooLarge" cT ∧ Sup.InitK P K mg "DuplicateSignal" cD fD "__init__" "DuplicateSignal.__init__" (defArgs s_DuplicateSignal_init) (defBody s_DuplicateSignal_init) (defScope s_DuplicateSignal_init) fdD ∧ XfC K cD ∧ PySem.W.findIn K (.ref cD) "name" = some none ∧ Sup.InitK P K mg "UnknownSignal" cU fU "__init__" "UnknownSignal.__init__" (defArgs s_UnknownSignal_init) (defBody s_UnknownSignal_init) (defScope s_UnknownSignal_init) fdU ∧ XfC K cU ∧ PySem.W.findIn K (.ref cU) "name" = some none ∧ Sup.InitK P K mg "FormulaSyntaxError" cF fF "__init__" "FormulaSyntaxError.__init__" (defArgs s_FormulaSyntaxError_init) (defBody s_FormulaSyntaxError_init) (defScope s_FormulaSyntaxError_init) fdF ∧ XfC K cF ∧ PySem.W.findIn K (.ref cF) "position" = some none ∧ Sup.InitK P K mg "SpecSyntaxError" cL fL "__init__" "SpecSyntaxError.__init__" (defArgs s_SpecSyntaxError_init) (defBody s_SpecSyntaxError_init) (defScope s_SpecSyntaxError_init) fdL ∧ XfC K cL ∧ PySem.W.findIn K (.ref cL) "line" = some none ∧ PySem.W.exmOne K (.ref cL) (.ref cL) = some true ∧ PySem.W.exmOne K (.ref cF) (.ref cL) = some false ∧ PySem.W.exmOne K (.ref cF) (.ref cF) = some true ∧ PySem.W.exmOne K (.ref cU) (.ref cL) = some false ∧ PySem.W.exmOne K (.ref cU) (.ref cF) = some false ∧ PySem.W.exmOne K (.ref cU) (.ref cU) = some true ∧ PySem.W.exmOne K (.ref cT) (.ref cL) = some false ∧ PySem.W.exmOne K (.ref cT) (.ref cF) = some false ∧ PySem.W.exmOne K (.ref cT) (.ref cU) = some false)

-- BODY
def spLaw (K : PySem.W.Frag) : Sp := fun vs H Q _ => ∃ (a : Addr) (ns : List Int), vs = [.ref a] ∧ SqL K H a (ns.map V.int) ∧ ns.length ≤ 63 ∧ ∀ H', Q (.bl true) H'
section
variable {P : Program} {w : World} {K : PySem.W.Frag} {mg : Str → Option Value} {base : Heap}
abbrev tLC : Str := "abcdefghijklmnopqrstuvwxyz"
abbrev tDG : Str := "0123456789"
def okW (f : Bool) (c : Nat) : Bool := decide (c ∈ tLC.cps.toList) || (!f && decide (c ∈ tDG.cps.toList))
/-- a word of s stands from a up to e -/
def WordTo (s : Str) (a e : Nat) : Prop := a ≤ e ∧ e ≤ s.length ∧ (∀ i, a ≤ i → i < e → ∀ c, s.cps.toList[i]? = some c → okW (decide (i = a)) c = true) ∧ ∀ c, s.cps.toList[e]? = some c → okW (decide (e = a)) c = false
def spWat : Sp := fun vs H Q _ => ∃ (s : Str) (a : Nat), vs = [.str s, .int a] ∧ s.length ≤ sizeLine ∧ a ≤ s.length ∧ ∀ e : Nat, WordTo s a e → Q (.str (cutS s (some (a : Int)) (some (e : Int)))) H
theorem gloS (T : Txt K mg w P) : ∃ tk1 tk2 : Tok, mg "LOWER_CASE" = some (.str tLC tk1) ∧ mg "DIGITS" = some (.str tDG tk2) := by
  exact T.er.2.1
theorem cal_wat (T : Txt K mg w P) : C8.Cal P w K mg base 1 "word_at" spWat [] := by
  obtain ⟨tk1, tk2, gLC, gDI⟩ := gloS T
  obtain ⟨f, fd, F, hm, hb⟩ := T.h_word_at
  refine ⟨f, fd, _, [], F.ok sc_word_at (fun vs H Q E h => ?_) (fun cdv A outer s H vs Q E hr h => ?_), hm, F.kp, hb, .nil⟩
  · obtain ⟨s, a, rfl, _⟩ := h
    rfl
  · obtain ⟨t, a, rfl, hz, ha, q⟩ := h
    refine ⟨_, (pss_cons
      (ps_set (i := 2) sc_word_at.nd rfl (Or.inl rfl) (pv 1))
      (C8.pss_cut
      (ps_while PassesOwn.never (PW.pt (pw_and (pt_cmpR op_lt (pv 2) (pe_callB call_len_str (by rfl) T.z_len PySem.boot_len (pa_cons (pv 0) pa_nil)) (nomark _)) (pw_and1 (PW.pt (pw_or (pt_cmpR op_in_sign (pe_ix ix_str (pv 0) (pv 2) (fun _ _ => rfl)) (pe_glob (v := .str "abcdefghijklmnopqrstuvwxyz") (by rfl) gLC ⟨_, rfl⟩) (by rfl)) (pw_or1 (PW.pt (pw_and (pt_cmpR op_gt (pv 2) (pv 1) (nomark _)) (pw_and1 (pt_cmpR op_in_sign (pe_ix ix_str (pv 0) (pv 2) (fun _ _ => rfl)) (pe_glob (v := .str "0123456789") (by rfl) gDI ⟨_, rfl⟩) (by rfl))))))))))) (pss_one
      (ps_aug (i := 2) sc_word_at.nd rfl (.inl rfl) pe_int ip_add)))
      (pss_one
      (ps_ret (pe_slice sl_str (pv 0) (po_some (pv 1)) (po_some (pv 2))))))), ?_⟩
    have htl : t.cps.toList.length = t.length := by rw [Array.length_toList]; rfl
    refine ⟨_, rfl, ?_⟩
    refine ⟨fun σ H' => ∃ e : Nat, σ = [some (.str t), some (.int a), some (.int e)] ∧ H' = H ∧ WordTo t a e, ?_, ?_⟩
    · refine ⟨fun m σ H' => ∃ e : Nat, m = t.length - e ∧ σ = [some (.str t), some (.int a), some (.int e)] ∧ H' = H ∧ a ≤ e ∧ e ≤ t.length ∧ (∀ i, a ≤ i → i < e → ∀ c, t.cps.toList[i]? = some c → okW (decide (i = a)) c = true), ⟨_, a, rfl, rfl, rfl, Nat.le_refl _, ha, fun i h1 h2 => absurd h2 (Nat.not_lt.mpr h1)⟩, ?_⟩
      rintro m σ H' ⟨e, rfl, rfl, rfl, h1, h2, h3⟩
      refine ⟨_, rfl, _, rfl, t, rfl, hz, _, _, rfl, rfl, _, rfl, ?_⟩
      have go : ∀ c, t.cps.toList[e]? = some c → okW (decide (e = a)) c = true → ∀ (i : Nat), a ≤ i → i < e + 1 → ∀ c, t.cps.toList[i]? = some c → okW (decide (i = a)) c = true := fun c hc hk i i1 i2 c' hc' => by
        by_cases z : i = e
        · rw [z] at hc' ⊢
          rw [hc] at hc'
          cases hc'
          exact hk
        · exact h3 i i1 (by omega) c' hc'
      by_cases hlt : e < t.length
      · rw [decide_eq_true (show (e : Int) < (t.length : Int) by omega)]
        refine iteT ?_
        obtain ⟨c, hc⟩ : ∃ c, t.cps.toList[e]? = some c := ⟨_, List.getElem?_eq_getElem (by rw [htl]; exact hlt)⟩
        have hat : atI t.cps.toList (e : Int) = some c := atI_nat hc
        refine ⟨_, rfl, _, rfl, t, (e : Int), c, rfl, rfl, hz, hat, c, tLC, rfl, rfl, _, rfl, ?_⟩
        by_cases k1 : c ∈ tLC.cps.toList
        · rw [decide_eq_true k1]
          refine iteT ?_
          refine iteT ?_
          exact ⟨fun σ' H2 => σ' = [some (.str t), some (.int a), some (.int ((e + 1 : Nat) : Int))] ∧ H2 = H', fun σ' H2 ⟨z1, z2⟩ => ⟨t.length - (e + 1), by omega, e + 1, rfl, z1, z2, by omega, by omega, go c hc (by unfold okW; rw [decide_eq_true k1]; rfl)⟩, _, rfl, _, _, rfl, rfl, rfl, rfl⟩
        · rw [decide_eq_false k1]
          refine iteF ?_
          have out : okW (decide (e = a)) c = false → WordTo t a e := fun hk => ⟨h1, h2, h3, fun c' hc' => by rw [hc] at hc'; cases hc'; exact hk⟩
          refine ⟨_, rfl, _, rfl, _, _, rfl, rfl, _, rfl, ?_⟩
          by_cases k2 : a < e
          · rw [decide_eq_true (show (a : Int) < (e : Int) by omega)]
            refine iteT ?_
            refine ⟨_, rfl, _, rfl, t, (e : Int), c, rfl, rfl, hz, hat, c, tDG, rfl, rfl, _, rfl, ?_⟩
            by_cases k3 : c ∈ tDG.cps.toList
            · rw [decide_eq_true k3]
              refine iteT ?_
              exact ⟨fun σ' H2 => σ' = [some (.str t), some (.int a), some (.int ((e + 1 : Nat) : Int))] ∧ H2 = H', fun σ' H2 ⟨z1, z2⟩ => ⟨t.length - (e + 1), by omega, e + 1, rfl, z1, z2, by omega, by omega, go c hc (by unfold okW; rw [decide_eq_false k1, decide_eq_true k3, decide_eq_false (show ¬ e = a by omega)]; rfl)⟩, _, rfl, _, _, rfl, rfl, rfl, rfl⟩
            · rw [decide_eq_false k3]
              refine iteF ⟨e, rfl, rfl, out ?_⟩
              unfold okW
              rw [decide_eq_false k1, decide_eq_false k3]
              simp
          · rw [decide_eq_false (show ¬ (a : Int) < (e : Int) by omega)]
            refine iteF (iteF ⟨e, rfl, rfl, out ?_⟩)
            unfold okW
            rw [decide_eq_false k1, decide_eq_true (show e = a by omega)]
            rfl
      · rw [decide_eq_false (show ¬ (e : Int) < (t.length : Int) by omega)]
        refine iteF (iteF ⟨e, rfl, rfl, h1, h2, h3, fun c hc => ?_⟩)
        have := (List.getElem?_eq_some_iff.mp hc).1
        rw [htl] at this
        omega
    · rintro σ H' ⟨e, rfl, rfl, hw⟩
      exact ⟨_, rfl, _, rfl, _, rfl, _, rfl, _, rfl, t, rfl, hz, q e hw⟩
theorem cutS_take (s : Str) (e : Nat) : cutS s (some ((0 : Nat) : Int)) (some (e : Int)) = ⟨(s.cps.toList.take (min e s.length)).toArray⟩ := by
  unfold cutS
  rw [HT.sIx_nat, HT.sIx_nat]
  simp
def wholeW (l : List Nat) : Bool := match l with | [] => false | c :: r => okW true c && r.all (okW false)
def resW (s : Str) : Bool := decide (s ∈ (["true", "false"] : List Str)) || decide (s ∈ (["exists", "forall"] : List Str))
/-- the text is the name of a signal -/
def nameOk (s : Str) : Bool := wholeW s.cps.toList && !resW s
theorem wholeW_iff {l : List Nat} (h : l ≠ []) : wholeW l = true ↔ ∀ i c, l[i]? = some c → okW (decide (i = 0)) c = true := by
  cases l with
  | nil => exact absurd rfl h
  | cons c r =>
    unfold wholeW
    dsimp only
    rw [Bool.and_eq_true, List.all_eq_true]
    constructor
    · rintro ⟨a, b⟩ i c' hc
      cases i with
      | zero => cases hc; exact a
      | succ i =>
        rw [decide_eq_false (Nat.succ_ne_zero i)]
        exact b c' (List.mem_of_getElem? hc)
    · intro k
      refine ⟨k 0 c rfl, fun x hx => ?_⟩
      obtain ⟨i, hi⟩ := List.mem_iff_getElem?.mp hx
      have := k (i + 1) x hi
      rwa [decide_eq_false (Nat.succ_ne_zero i)] at this
theorem str_len (s : Str) : s.cps.toList.length = s.length := by rw [Array.length_toList]; rfl
theorem word_whole {s : Str} {e : Nat} (hne : s.cps.toList ≠ []) (hw : WordTo s 0 e) : decide (V.str (cutS s (some ((0 : Nat) : Int)) (some (e : Int))) = V.str s) = wholeW s.cps.toList := by
  obtain ⟨_, h2, h3, h4⟩ := hw
  rw [cutS_take]
  by_cases c : e = s.length
  · subst c
    rw [Nat.min_self, ← str_len, List.take_length, Array.toArray_toList]
    rw [decide_eq_true rfl]
    refine (((wholeW_iff hne).mpr fun i c hc => ?_)).symm
    exact h3 i (Nat.zero_le _) (by have := (List.getElem?_eq_some_iff.mp hc).1; rw [str_len] at this; exact this) c hc
  · have hlt : e < s.cps.toList.length := by rw [str_len]; omega
    have hk := h4 _ (List.getElem?_eq_getElem hlt)
    have hn : wholeW s.cps.toList = false := by
      cases z : wholeW s.cps.toList with
      | false => rfl
      | true =>
        have := (wholeW_iff hne).mp z e _ (List.getElem?_eq_getElem hlt)
        rw [this] at hk
        cases hk
    rw [hn]
    refine decide_eq_false fun z => ?_
    have := congrArg Str.length (V.str.inj z)
    have h5 : ((s.cps.toList.take (min e s.length)).toArray).size = s.length := this
    rw [List.size_toArray, List.length_take, str_len] at h5
    omega
def spRes : Sp := fun vs H Q _ => ∃ s : Str, vs = [.str s] ∧ Q (.bl (resW s)) H
theorem gloQ (T : Txt K mg w P) : ∃ aQ aN : Addr, GloT K mg "QUANTIFIERS" ["exists", "forall"] aQ ∧ GloT K mg "CONSTANTS" ["true", "false"] aN := by
  obtain ⟨⟨aQ, aN, aF, aP, aG, aA, g1, g2, _⟩, _⟩ := T.er
  exact ⟨aQ, aN, g1, g2⟩
theorem cal_res (T : Txt K mg w P) : C8.Cal P w K mg base 1 "is_reserved" spRes [] := by
  obtain ⟨aQ, aN, gQ, gN⟩ := gloQ T
  obtain ⟨f, fd, F, hm, hb⟩ := T.h_is_reserved
  refine ⟨f, fd, _, [], F.ok sc_is_reserved (fun vs H Q E h => ?_) (fun cdv A outer s H vs Q E hr h => ?_), hm, F.kp, hb, .nil⟩
  · obtain ⟨s, rfl, _⟩ := h
    rfl
  · obtain ⟨s, rfl, q⟩ := h
    refine ⟨_, (pss_one
      (ps_ret (pe_or (pe_cmpR (op_inK (K := K) rfl) (pv 0) (pe_glob (v := .ref aN) (by rfl) gN.g rfl) (by rfl)) (pe_one (pe_cmpR (op_inK (K := K) rfl) (pv 0) (pe_glob (v := .ref aQ) (by rfl) gQ.g rfl) (by rfl)))))), ?_⟩
    unfold resW at q
    refine ⟨_, rfl, aN, _, rfl, .inr (gN.q H), rfl, L2.flat_strs ["true", "false"], ?_⟩
    rw [in_strs]
    refine ⟨_, rfl, ?_⟩
    by_cases c : s ∈ (["true", "false"] : List Str)
    · rw [decide_eq_true c] at q ⊢
      exact iteT q
    · rw [decide_eq_false c] at q ⊢
      refine iteF ⟨_, rfl, aQ, _, rfl, .inr (gQ.q H), rfl, L2.flat_strs ["exists", "forall"], ?_⟩
      rw [in_strs]
      exact q
def spNm : Sp := fun vs H Q _ => ∃ s : Str, vs = [.str s] ∧ s.length ≤ sizeLine ∧ Q (.bl (nameOk s)) H
theorem cal_nm (T : Txt K mg w P) : C8.Cal P w K mg base 2 "is_name" spNm [] := by
  have C_word_at : C8.Cal P w K mg base 1 "word_at" spWat [] := cal_wat T
  have C_is_reserved : C8.Cal P w K mg base 1 "is_reserved" spRes [] := cal_res T
  obtain ⟨f, fd, F, hm, hb⟩ := T.h_is_name
  refine ⟨f, fd, _, [], F.ok sc_is_name (fun vs H Q E h => ?_) (fun cdv A outer s H vs Q E hr h => ?_), hm, F.kp, hb, .nil⟩
  · obtain ⟨s, rfl, _⟩ := h
    rfl
  · obtain ⟨t, rfl, hz, q⟩ := h
    refine ⟨_, (pss_one
      (ps_ret (pe_and (pe_cmpR op_ne (pv 0) pe_str (nomark _)) (pe_and (pe_cmpR op_eq (C8.pe_c C_word_at hr (by decide) (by rfl) (pa_cons (pv 0) (pa_cons pe_int pa_nil))) (pv 0) (nomark _)) (pe_one (pe_not (C8.pe_c C_is_reserved hr (by decide) (by rfl) (pa_cons (pv 0) pa_nil)))))))), ?_⟩
    by_cases hne : t.cps.toList = []
    · have e : t = "" := by
        cases t with
        | mk c =>
          have : c = #[] := by simpa using hne
          rw [this]
          rfl
      subst e
      refine ⟨_, rfl, rfl, ?_⟩
      exact ⟨_, rfl, iteF q⟩
    · have e : t ≠ "" := fun z => hne (by rw [z]; rfl)
      refine ⟨_, rfl, rfl, ?_⟩
      rw [decide_eq_false (show ¬ V.str t = V.str "" from fun z => e (V.str.inj z))]
      refine ⟨_, rfl, iteT ?_⟩
      refine ⟨_, rfl, t, 0, rfl, hz, Nat.zero_le _, fun e2 hw => ⟨_, rfl, rfl, ?_⟩⟩
      rw [word_whole hne hw]
      unfold nameOk at q
      refine ⟨_, rfl, ?_⟩
      cases k : wholeW t.cps.toList with
      | false =>
        rw [k] at q
        exact iteF q
      | true =>
        rw [k] at q
        exact iteT ⟨_, rfl, t, rfl, _, rfl, q⟩
/-! ### tokens -/
def wlen : Bool → List Nat → Nat
  | _, [] => 0
  | f, c :: r => if okW f c = true then wlen false r + 1 else 0
theorem wlen_le : ∀ (f : Bool) (l : List Nat), wlen f l ≤ l.length
  | _, [] => Nat.le_refl _
  | f, c :: r => by
    unfold wlen
    have := wlen_le false r
    split
    · rw [List.length_cons]; omega
    · exact Nat.zero_le _
theorem wlen_at {s : Str} {a e : Nat} (h : WordTo s a e) : e = a + wlen true (s.cps.toList.drop a) := by
  obtain ⟨h1, h2, h3, h4⟩ := h
  have key : ∀ m i : Nat, m = e - i → a ≤ i → i ≤ e → wlen (decide (i = a)) (s.cps.toList.drop i) = e - i := by
    intro m
    induction m with
    | zero =>
      intro i hm hai hie
      obtain rfl : i = e := by omega
      rw [Nat.sub_self]
      cases hd : s.cps.toList.drop i with
      | nil => rfl
      | cons c r =>
        have hc : s.cps.toList[i]? = some c := by
          have : (s.cps.toList.drop i)[0]? = some c := by rw [hd]; rfl
          rwa [List.getElem?_drop, Nat.add_zero] at this
        unfold wlen
        rw [if_neg (by rw [h4 c hc]; exact Bool.false_ne_true)]
    | succ m ih =>
      intro i hm hai hie
      have hlt : i < s.cps.toList.length := by rw [str_len]; omega
      rw [List.drop_eq_getElem_cons hlt]
      unfold wlen
      rw [if_pos (h3 i hai (by omega) _ (List.getElem?_eq_getElem hlt))]
      have := ih (i + 1) (by omega) (by omega) (by omega)
      rw [decide_eq_false (show ¬ i + 1 = a by omega)] at this
      rw [this]
      omega
  have := key _ a rfl (Nat.le_refl _) h1
  rw [decide_eq_true rfl] at this
  omega
def tokOf (cs : List Nat) : Str × Str :=
  match sgnL.find? (fun s => decide (cs.take s.length = s.cps.toList)) with
  | some s => (s, s)
  | none => if wlen true cs = 0 then ("bad", "") else (if resW ⟨(cs.take (wlen true cs)).toArray⟩ = true then ⟨(cs.take (wlen true cs)).toArray⟩ else "name", ⟨(cs.take (wlen true cs)).toArray⟩)
structure Tk where
  k : Str
  c : Str
  p : Nat
inductive Tks : List Nat → Nat → List Tk → Prop
  | nil {p : Nat} : Tks [] p [⟨"end", "", p⟩]
  | sp {r : List Nat} {p : Nat} {ts : List Tk} : Tks r (p + 1) ts → Tks (32 :: r) p ts
  | bad {c : Nat} {r : List Nat} {p : Nat} : c ≠ 32 → (tokOf (c :: r)).1 = "bad" → Tks (c :: r) p [⟨"bad", (tokOf (c :: r)).2, p⟩]
  | tok {c : Nat} {r : List Nat} {p : Nat} {ts : List Tk} : c ≠ 32 → (tokOf (c :: r)).1 ≠ "bad" → Tks ((c :: r).drop (tokOf (c :: r)).2.length) (p + (tokOf (c :: r)).2.length) ts → Tks (c :: r) p (⟨(tokOf (c :: r)).1, (tokOf (c :: r)).2, p⟩ :: ts)
theorem tks_det : ∀ {cs : List Nat} {p : Nat} {ts : List Tk}, Tks cs p ts → ∀ {ts' : List Tk}, Tks cs p ts' → ts' = ts := by
  intro cs p ts h
  induction h with
  | nil => intro ts' h'; cases h'; rfl
  | sp h ih =>
    intro ts' h'
    cases h' with
    | sp h2 => exact ih h2
    | bad n _ => exact absurd rfl n
    | tok n _ _ => exact absurd rfl n
  | bad n e =>
    intro ts' h'
    cases h' with
    | sp h2 => exact absurd rfl n
    | bad _ _ => rfl
    | tok _ e2 _ => exact absurd e e2
  | tok n e h ih =>
    intro ts' h'
    cases h' with
    | sp h2 => exact absurd rfl n
    | bad _ e2 => exact absurd e2 e
    | tok _ _ h2 => rw [ih h2]
theorem sgn_len : ∀ s ∈ sgnL, 0 < s.length ∧ s ≠ "bad" := by decide +kernel
theorem arr_len (l : List Nat) : (⟨l.toArray⟩ : Str).length = l.length := by
  show l.toArray.size = _
  rw [List.size_toArray]
theorem tok_pos {cs : List Nat} (h : (tokOf cs).1 ≠ "bad") : 0 < (tokOf cs).2.length ∧ (tokOf cs).2.length ≤ cs.length := by
  unfold tokOf at h ⊢
  split
  · rename_i s hs
    have h1 := List.find?_some hs
    have h2 := sgn_len s (List.mem_of_find?_eq_some hs)
    refine ⟨h2.1, ?_⟩
    have h3 : cs.take s.length = s.cps.toList := by simpa using h1
    have h4 := congrArg List.length h3
    rw [List.length_take, str_len] at h4
    show s.length ≤ _
    omega
  · rename_i hn
    rw [hn] at h
    dsimp only at h
    have hw := wlen_le true cs
    split
    · rename_i hz
      rw [if_pos hz] at h
      exact absurd rfl h
    · rename_i hz
      dsimp only
      rw [arr_len, List.length_take]
      omega
/-! ### what the reader reads -/
def knd (kvs : List (Str × Str)) (s : Str) : Option Str := (kvs.find? fun p => decide (p.2 = s)).map (·.1)
def isPre (s : Str) : Bool := (knd preL s).isSome
def kndP (s : Str) : Str := (knd preL s).getD ""
def kndI (s : Str) : Str := (knd infL s).getD ""
def Atm (R : List Tk → Fm → List Tk → Prop) : List Tk → Fm → List Tk → Prop
  | [], _, _ => False
  | t :: r1, f, r => (t.k = "(" ∧ ∃ u, R r1 f (u :: r) ∧ u.k = ")") ∨ (t.k ≠ "(" ∧ t.k ∈ (["true", "false"] : List Str) ∧ f = .c0 t.c ∧ r = r1) ∨ (t.k ≠ "(" ∧ ¬ t.k ∈ (["true", "false"] : List Str) ∧ t.k = "name" ∧ f = .sg t.c ∧ r = r1)
/-- the signs in front, and what stands behind them -/
inductive Una (R : List Tk → Fm → List Tk → Prop) : List Tk → List Str → Fm → List Tk → Prop
  | nil {t : Tk} {ts r : List Tk} {f : Fm} : isPre t.k = false → Atm R (t :: ts) f r → Una R (t :: ts) [] f r
  | cons {t : Tk} {ts r : List Tk} {ss : List Str} {f : Fm} : isPre t.k = true → t.c = t.k → Una R ts ss f r → Una R (t :: ts) (t.c :: ss) f r
def wrp : List Str → Fm → Fm
  | [], f => f
  | s :: ss, f => .un (kndP s) (wrp ss f)
inductive Chn (R : List Tk → Fm → List Tk → Prop) (l : Nat) : List Tk → List Str → List Fm → List Tk → Prop
  | nil {t : Tk} {r : List Tk} : ¬ t.k ∈ levL.getD l [] → Chn R l (t :: r) [] [] (t :: r)
  | cons {t : Tk} {r1 r2 r : List Tk} {f : Fm} {ops : List Str} {fs : List Fm} : t.k ∈ levL.getD l [] → t.c = t.k → R r1 f r2 → Chn R l r2 ops fs r → Chn R l (t :: r1) (t.c :: ops) (f :: fs) r
def fldL : List Str → List Fm → Fm → Fm
  | o :: os, f :: fs, a => fldL os fs (.bin (kndI o) a f)
  | _, _, a => a
def fldR : List Str → Fm → List Fm → Fm
  | o :: os, f, g :: fs => .bin (kndI o) f (fldR os g fs)
  | _, f, _ => f
def fld (ops : List Str) (f : Fm) (fs : List Fm) : Fm := match ops with
  | [] => f
  | o :: _ => if o ∈ (["|", "&"] : List Str) then fldL ops fs f else fldR ops f fs
def RdF : Nat → Nat → List Tk → Fm → List Tk → Prop
  | 0, _, _, _, _ => False
  | n + 1, l, ts, f, r => (l = 5 ∧ ∃ ss g, Una (RdF n 0) ts ss g r ∧ f = wrp ss g) ∨ (l < 5 ∧ ∃ f1 r1 ops fs, RdF n (l + 1) ts f1 r1 ∧ Chn (RdF n (l + 1)) l r1 ops fs r ∧ f = fld ops f1 fs)
theorem rdf_up {n l : Nat} {ts r : List Tk} {t : Tk} {f : Fm} (hl : l < 5) (h : RdF n (l + 1) ts f (t :: r)) (ht : ¬ t.k ∈ levL.getD l []) : RdF (n + 1) l ts f (t :: r) :=
  .inr ⟨hl, f, t :: r, [], [], h, .nil ht, rfl⟩
theorem rdf_ups {ts r : List Tk} {t : Tk} {f : Fm} : ∀ (d n l : Nat), l + d ≤ 5 → RdF n (l + d) ts f (t :: r) → (∀ j, l ≤ j → j < l + d → ¬ t.k ∈ levL.getD j []) → RdF (n + d) l ts f (t :: r)
  | 0, n, l, _, h, _ => h
  | d + 1, n, l, hl, h, ht => by
    have h1 := rdf_ups d n (l + 1) (by omega) (by rw [show l + 1 + d = l + (d + 1) by omega]; exact h) (fun j a b => ht j (by omega) (by omega))
    exact rdf_up (by omega) h1 (ht l (Nat.le_refl _) (by omega))
/-- the hidden names up to the colon -/
inductive Hid : List Tk → List Str → List Tk → Prop
  | one {t u : Tk} {r : List Tk} : t.k = "name" → u.k = ":" → Hid (t :: u :: r) [t.c] r
  | more {t u : Tk} {r r' : List Tk} {hs : List Str} : t.k = "name" → u.k = "," → Hid r hs r' → Hid (t :: u :: r) (t.c :: hs) r'
def Rda (n : Nat) (ts : List Tk) (q : Str) (hs : List Str) (f : Fm) : Prop := ∃ (t u : Tk) (r : List Tk), ts = t :: r ∧ u.k = "end" ∧ ((¬ t.k ∈ (["exists", "forall"] : List Str) ∧ q = "" ∧ hs = [] ∧ ∃ r2, RdF n 0 ts f (u :: r2)) ∨
  (t.k ∈ (["exists", "forall"] : List Str) ∧ q = t.c ∧ ∃ r1 r2, Hid r hs r1 ∧ RdF n 0 r1 f (u :: r2)))
theorem cal_take (T : Txt K mg w P) : C8.Cal P w K mg base 1 "_law_take" spTake [] := by
  obtain ⟨f, fd, F, hm, hb⟩ := T.h_law_take
  refine ⟨f, fd, _, [], F.ok sc_law_take (fun vs H Q E h => ?_) (fun cdv A outer s H vs Q E hr h => ?_), hm, F.kp, hb, .nil⟩
  · obtain ⟨d, n, rfl, _⟩ := h
    rfl
  · obtain ⟨d, n, rfl, ⟨ds, hd⟩, hn, q⟩ := h
    refine ⟨_, (pss_cons
      (ps_if (pt_cmpR op_eq (pe_callB (call_lenK (K := K) rfl) (by rfl) T.z_len PySem.boot_len (pa_cons (pv 0) pa_nil)) pe_int (nomark _)) (pss_one
      (ps_ret pe_int)) pss_nil)
      (pss_one
      (ps_ret (pe_op op_mod (pe_callTy call_int1 (by rfl) T.z_int (by decide +kernel) (pa_cons (pe_bm0 PySem.F.plainAttrs_list PySem.F.slot_list_pop PySem.F.type_list_pop mt_pop (pv 0)) pa_nil)) (pv 1))))), ?_⟩
    walk_at "bx"
    refine ite2 (fun e => ?_) (fun e => ?_)
    · have q0 := q 0 ds (Int.le_refl 0) hn
      rw [upd_self hd] at q0
      exact q0
    · have hne : ds ≠ [] := fun z => e (by rw [z]; rfl)
      refine ⟨_, rfl, .inl ⟨rfl, _, SqL.of hd⟩, d, _, .int (ds.getLast hne), rfl, rfl, hd, ?_, ?_⟩
      · rw [List.length_map, List.getElem?_map, ← List.getLast?_eq_getElem?, List.getLast?_eq_getLast hne]
        rfl
      · walk_at "bx"
        rw [← List.map_dropLast]
        exact q _ _ (Int.emod_nonneg _ (by omega)) (Int.emod_lt_of_pos _ hn)
theorem cal_draws (T : Txt K mg w P) : C8.Cal P w K mg base 1 "_law_draws" (spDraws K) [] := by
  obtain ⟨f, fd, F, hm, hb⟩ := T.h_law_draws
  refine ⟨f, fd, _, [], F.ok sc_law_draws (fun vs H Q E h => ?_) (fun cdv A outer s H vs Q E hr h => ?_), hm, F.kp, hb, .nil⟩
  · obtain ⟨a, ns, c, rfl, _⟩ := h
    rfl
  · obtain ⟨a, ns, n, rfl, hS, hn, q⟩ := h
    refine ⟨_, (pss_cons
      (ps_set (i := 2) sc_law_draws.nd rfl (Or.inl rfl) (pe_callTy (call_list_ofK (K := K) rfl) (by rfl) T.z_list (by decide +kernel) (pa_cons (pv 0) pa_nil)))
      (C8.pss_cut
      (ps_if (pt_cmpR op_eq (pe_callB (call_lenK (K := K) rfl) (by rfl) T.z_len PySem.boot_len (pa_cons (pv 2) pa_nil)) pe_int (nomark _)) (pss_one
      (ps_set (i := 2) sc_law_draws.nd rfl (Or.inl rfl) (pe_lst (pa_cons pe_int pa_nil)))) pss_nil)
      (pss_cons
      (ps_set (i := 3) sc_law_draws.nd rfl (Or.inl rfl) (pe_lst pa_nil))
      (pss_cons
      (ps_set (i := 4) sc_law_draws.nd rfl (Or.inl rfl) pe_int)
      (pss_cons
      (ps_for PassesOwn.never rfl (pi_range1 (by rfl) T.z_range (pa_cons (pv 1) pa_nil)) (pg_name (i := 5) sc_law_draws.nd rfl (.inl rfl)) (pss_cons
      (ps_set (i := 6) sc_law_draws.nd rfl (Or.inl rfl) (pe_op op_mod (pv 5) (pe_callB (call_lenK (K := K) rfl) (by rfl) T.z_len PySem.boot_len (pa_cons (pv 2) pa_nil))))
      (pss_cons
      (ps_set (i := 7) sc_law_draws.nd rfl (Or.inl rfl) (pe_ix (ix_listK (K := K) rfl) (pv 2) (pv 6) (fun _ _ => rfl)))
      (pss_cons
      (ps_set (i := 4) sc_law_draws.nd rfl (Or.inl rfl) (pe_op op_mod (pe_callTy call_int1 (by rfl) T.z_int (by decide +kernel) (pa_cons (pe_op op_add (pe_op op_add (pe_op op_add (pe_op op_mul (pv 4) pe_int) (pe_op op_mul (pe_op op_mod (pe_callTy call_int1 (by rfl) T.z_int (by decide +kernel) (pa_cons (pv 7) pa_nil)) pe_int) pe_int)) (pe_op op_mul (pv 5) pe_int)) pe_int) pa_nil)) pe_int))
      (pss_cons
      (ps_set (i := 8) sc_law_draws.nd rfl (Or.inl rfl) (pe_op op_mod (pe_callTy call_int1 (by rfl) T.z_int (by decide +kernel) (pa_cons (pe_op op_add (pe_op op_add (pe_op op_mul (pv 4) (pv 4)) (pe_op op_mul pe_int (pv 4))) (pv 5)) pa_nil)) pe_int))
      (pss_one
      (ps_if (pt_cmpR op_ge (pv 7) (pe_op op_pow pe_int pe_int) (nomark _)) (pss_cons
      (ps_expr (pe_bm PySem.F.plainAttrs_list PySem.F.slot_list_append PySem.F.type_list_append mt_append (pv 3) (pa_cons (pe_op op_mod (pe_callTy call_int1 (by rfl) T.z_int (by decide +kernel) (pa_cons (pv 7) pa_nil)) pe_int) pa_nil)))
      (pss_one
      (ps_asg (pe_op op_fdiv (pv 7) pe_int) (pg_sub (pv 2) (pv 6) set_list)))) (pss_one
      (ps_expr (pe_bm PySem.F.plainAttrs_list PySem.F.slot_list_append PySem.F.type_list_append mt_append (pv 3) (pa_cons (pe_op op_mod (pe_callTy call_int1 (by rfl) T.z_int (by decide +kernel) (pa_cons (pv 8) pa_nil)) pe_int) pa_nil)))))))))))
      (pss_cons
      (ps_expr (pe_bm0 PySem.F.plainAttrs_list PySem.F.slot_list_reverse PySem.F.type_list_reverse mt_reverse (pv 3)))
      (pss_one
      (ps_ret (pv 3))))))))), ?_⟩
    -- cells = list(script)
    refine ⟨_, rfl, a, _, rfl, .inl hS, fun l hl => ?_⟩
    -- if len(cells) == 0: cells = [7]
    refine ⟨fun σ H2 => ∃ (c : Addr) (cs : List Int), σ = [some (.ref a), some (.int n), some (.ref c), none, none, none, none, none, none] ∧ H c = none ∧ Same H H2 ∧ H2 c = some (.lst (cs.map V.int)) ∧ cs ≠ [], ?_, ?_⟩
    · have h0 : (upd H l (.lst (ns.map V.int))) l = some (.lst (ns.map V.int)) := upd_same
      walk_at "bx"
      refine ite2 (fun e => ?_) (fun e => ?_)
      · refine ⟨by show 1 ≤ sizeLine; decide, fun l2 h2 => ?_⟩
        have s1 : Same H (upd H l (.lst (ns.map V.int))) := same_new hl
        exact ⟨l2, [7], rfl, s1.free h2, s1.trans (same_new h2), upd_same, by decide⟩
      · exact ⟨l, ns, rfl, hl, same_new hl, upd_same, fun z => e (by rw [z]; rfl)⟩
    · rintro σ H2 ⟨c, cs, rfl, hc0, s2, hc, hcs⟩
      -- found = [], mixed = 12345
      refine ⟨Nat.zero_le _, fun o ho => ?_⟩
      have hco : c ≠ o := ne_of_none hc ho
      have ho0 : H o = none := s2.free ho
      -- for k in range(count)
      refine ⟨_, rfl, _, rfl, by omega, by omega, for_range (lo := 0) (n := ((n : Int)).toNat) (fun i σ H3 => ∃ (m : Int) (cs fs : List Int) (v5 v6 v7 v8 : Option V), σ = [some (.ref a), some (.int n), some (.ref c), some (.ref o), some (.int m), v5, v6, v7, v8] ∧ 0 ≤ m ∧ m < 2147483647 ∧ Same H H3 ∧ H3 c = some (.lst (cs.map V.int)) ∧ cs ≠ [] ∧ H3 o = some (.lst (fs.map V.int)) ∧ fs.length ≤ i)
        ⟨12345, cs, [], none, none, none, none, rfl, by decide, by decide, s2.trans (same_new ho), by rw [upd_ne hco]; exact hc, hcs, upd_same, Nat.le_refl _⟩ ?_ ?_⟩
      · rintro i σ H3 hi ⟨m, cs, fs, v5, v6, v7, v8, rfl, m0, m1, s3, hc, hcs, hf, hfl⟩
        have hl : 0 < cs.length := List.length_pos_iff.mpr hcs
        obtain ⟨z, hz⟩ : ∃ z, cs[i % cs.length]? = some z := ⟨_, List.getElem?_eq_getElem (Nat.mod_lt _ hl)⟩
        have ej : ((0 : Int) + (i : Int)) % (((cs.map V.int).length : Nat) : Int) = ((i % cs.length : Nat) : Int) := by
          rw [Int.zero_add, List.length_map]
          rfl
        -- j = k % len(cells)
        walk_at "bx"
        refine ⟨(show (0 : Int) < _ by rw [List.length_map]; omega), ?_⟩
        -- cell = cells[j]
        refine ⟨_, rfl, _, rfl, c, _, _, .int z, rfl, rfl, SqL.of hc, ?_, ?_⟩
        · rw [ej]
          exact atI_nat (by rw [List.getElem?_map, hz]; rfl)
        -- mixed, again
        walk_at "bx"
        have b1 : (0 : Int) ≤ z % 1000003 := Int.emod_nonneg _ (by decide)
        refine ⟨.inl ⟨?_, ?_⟩, ?_⟩
        · have := Int.emod_nonneg (m * 48271 + z % 1000003 * 69621 + (0 + (i : Int)) * 7919 + 11) (show (2147483647 : Int) ≠ 0 by decide)
          show -(2 ^ 64) < (m * 48271 + z % 1000003 * 69621 + (0 + (i : Int)) * 7919 + 11) % 2147483647
          omega
        · have := Int.emod_lt_of_pos (m * 48271 + z % 1000003 * 69621 + (0 + (i : Int)) * 7919 + 11) (show (0 : Int) < 2147483647 by decide)
          show (m * 48271 + z % 1000003 * 69621 + (0 + (i : Int)) * 7919 + 11) % 2147483647 < 2 ^ 64
          omega
        have c0 : 0 ≤ (m * 48271 + z % 1000003 * 69621 + (0 + (i : Int)) * 7919 + 11) % 2147483647 := Int.emod_nonneg _ (by decide)
        have c1 : (m * 48271 + z % 1000003 * 69621 + (0 + (i : Int)) * 7919 + 11) % 2147483647 < 2147483647 := Int.emod_lt_of_pos _ (by decide)
        walk_at "bx"
        refine ite2 (fun e => ?_) (fun e => ?_)
        · walk_at "bx"
          refine ⟨lenI (by omega), ?_⟩
          walk_at "bx"
          refine ⟨c, cs.map V.int, _, i % cs.length, rfl, rfl, by rw [upd_ne hco]; exact hc, by rw [ej]; exact ixN_at (by rw [List.length_map]; exact Nat.mod_lt _ hl), ?_⟩
          refine ⟨_, cs.set (i % cs.length) (z / 1000), fs ++ [z % 1000], _, _, _, _, rfl, c0, c1, fun b o' hb => ?_, by rw [upd_same, set_mapI], by simpa using hcs, by rw [upd_ne hco.symm, upd_same]; simp, by simp; omega⟩
          rw [upd_ne (fun z => by rw [z, hc0] at hb; cases hb), upd_ne (fun z => by rw [z, ho0] at hb; cases hb)]
          exact s3 _ _ hb
        · walk_at "bx"
          refine ⟨lenI (by omega), ?_⟩
          refine ⟨_, cs, fs ++ [_], _, _, _, _, rfl, c0, c1, fun b o' hb => ?_, by rw [upd_ne hco]; exact hc, hcs, by rw [upd_same, List.map_append]; rfl, by simp; omega⟩
          rw [upd_ne (fun z => by rw [z, ho0] at hb; cases hb)]
          exact s3 _ _ hb
      · rintro σ H3 ⟨m, cs, fs, v5, v6, v7, v8, rfl, m0, m1, s3, hc, hcs, hf, hfl⟩
        -- found.reverse()
        walk_at "bx"
        refine q _ o (fun b o' hb => ?_) ho0 ⟨fs.reverse, ?_⟩
        · rw [upd_ne (fun z => by rw [z, ho0] at hb; cases hb)]
          exact s3 _ _ hb
        · rw [upd_same, List.map_reverse]
def unOps : List Str := ["not", "next", "eventually", "always", "previous", "weak_previous", "once", "historically"]
def binOps : List Str := ["and", "or", "implies", "iff", "until", "release", "since", "trigger", "weak_until"]
def Wo (nm : List Str) : Fm → Prop
  | .c0 k => k = "true" ∨ k = "false"
  | .sg s => s ∈ nm
  | .un k f => k ∈ unOps ∧ Wo nm f
  | .bin k f g => k ∈ binOps ∧ Wo nm f ∧ Wo nm g
theorem un_ne {k : Str} (h : k ∈ unOps) : k ≠ sSig := fun z => by
  subst z
  exact absurd h (by decide)
theorem bin_ne {k : Str} (h : k ∈ binOps) : k ≠ sSig := fun z => by
  subst z
  exact absurd h (by decide)
theorem Wo.wf {nm : List Str} : ∀ {f : Fm}, Wo nm f → Wf nm f
  | .c0 k, h => fun z => by
    subst z
    exact absurd (show sSig = "true" ∨ sSig = "false" from h) (by decide)
  | .sg s, h => h
  | .un k f, h => ⟨un_ne h.1, h.2.wf⟩
  | .bin k f g, h => ⟨bin_ne h.1, h.2.1.wf, h.2.2.wf⟩
abbrev sEnds : Str := "xqzjkvbw"
def EndsIn (s : Str) (k : Int) : Prop := ∃ c, atI sEnds.cps.toList k = some c ∧ s.cps.toList.getLast? = some c
theorem ends_app (x : Str) (c : Nat) : (x ++ (⟨#[c]⟩ : Str)).cps.toList.getLast? = some c := by
  show (x.cps ++ #[c]).toList.getLast? = some c
  simp
def NmG (s : Str) : Prop := nameOk s = true ∧ s.length ≤ 4 ∧ ∃ c ∈ sEnds.cps.toList, s.cps.toList.getLast? = some c
def spName : Sp := fun vs H Q _ => ∃ (d : Addr) (k : Int), vs = [.ref d, .int k] ∧ Drw H d ∧ 0 ≤ k ∧ k < 8 ∧ ∀ (H' : Hp) (s : Str), Kp d H H' → Drw H' d → PyData.strOk s = true → EndsIn s k → NmG s → Q (.str s) H'
def spNames : Sp := fun vs H Q _ => ∃ (d : Addr) (c : Int), vs = [.ref d, .int c] ∧ Drw H d ∧ 0 ≤ c ∧ c ≤ 8 ∧
  ∀ (H' : Hp) (p : Addr) (ss : List Str), Kp d H H' → Drw H' d → p ≠ d → H' p = some (.lst (ss.map V.str)) → ss.length = c.toNat → (∀ s ∈ ss, PyData.strOk s = true) → ss.Nodup → (∀ s ∈ ss, NmG s) → Q (.ref p) H'
def spLeaf (K : PySem.W.Frag) : Sp := fun vs H Q _ => ∃ (d n : Addr) (nm : List Str), vs = [.ref d, .ref n] ∧ Drw H d ∧ n ≠ d ∧ H n = some (.lst (nm.map V.str)) ∧ nm.length ≤ 30 ∧
  ∀ (H' : Hp) (v : V) (f : Fm), Kp d H H' → Drw H' d → FmAt K H' v f → Wo nm f → sz f ≤ 1 → Q v H'
def dpt : Fm → Nat
  | .c0 _ => 0
  | .sg _ => 0
  | .un _ f => dpt f + 1
  | .bin _ f g => max (dpt f) (dpt g) + 1
def Szd (f : Fm) (n : Nat) : Prop := sz f + 1 ≤ 2 ^ (n + 1) ∧ dpt f ≤ n
theorem szd_leaf {f : Fm} (h : sz f ≤ 1) (n : Nat) : Szd f n := by
  have h1 : 2 ≤ 2 ^ (n + 1) := by
    rw [Nat.pow_succ]
    have : 1 ≤ 2 ^ n := Nat.one_le_two_pow
    omega
  cases f with
  | c0 _ => exact ⟨h1, Nat.zero_le _⟩
  | sg _ => exact ⟨h1, Nat.zero_le _⟩
  | un _ f =>
    have := sz_pos f
    have h : sz f + 1 ≤ 1 := h
    omega
  | bin _ f g =>
    have := sz_pos f
    have h : sz f + sz g + 1 ≤ 1 := h
    omega
theorem szd_un {f : Fm} {n : Nat} (k : Str) (h : Szd f n) : Szd (.un k f) (n + 1) := by
  refine ⟨?_, Nat.succ_le_succ h.2⟩
  show sz f + 1 + 1 ≤ _
  have := h.1
  rw [Nat.pow_succ 2 (n + 1)]
  have : 1 ≤ 2 ^ (n + 1) := Nat.one_le_two_pow
  omega
theorem szd_bin {f g : Fm} {n : Nat} (k : Str) (h : Szd f n) (h' : Szd g n) : Szd (.bin k f g) (n + 1) := by
  refine ⟨?_, Nat.succ_le_succ (Nat.max_le.mpr ⟨h.2, h'.2⟩)⟩
  show sz f + sz g + 1 + 1 ≤ _
  have := h.1
  have := h'.1
  rw [Nat.pow_succ 2 (n + 1)]
  omega
theorem str_at {z : Str} {i : Int} (h0 : 0 ≤ i) (h1 : i < (z.length : Nat)) : ∃ c, atI z.cps.toList i = some c := by
  have h2 : i.toNat < z.cps.toList.length := by
    rw [Array.length_toList]
    show i.toNat < z.length
    omega
  refine ⟨z.cps.toList[i.toNat], ?_⟩
  have e : ((i.toNat : Nat) : Int) = i := by omega
  have r := atI_nat (List.getElem?_eq_getElem h2)
  rwa [e] at r
theorem pick_at {ss : List Str} {i : Int} (h0 : 0 ≤ i) (h1 : i < (ss.length : Nat)) : ∃ s, s ∈ ss ∧ atI (ss.map V.str) i = some (.str s) := by
  have h2 : i.toNat < ss.length := by omega
  refine ⟨ss[i.toNat], List.getElem_mem h2, ?_⟩
  have e : ((i.toNat : Nat) : Int) = i := by omega
  have r := atI_nat (xs := ss.map V.str) (v := .str ss[i.toNat]) (by rw [List.getElem?_map, List.getElem?_eq_getElem h2]; rfl)
  rwa [e] at r
theorem one_len {c : Nat} : (⟨#[c]⟩ : Str).length = 1 := rfl
theorem app_len (a b : Str) : (a ++ b).length = a.length + b.length := by
  show (a.cps ++ b.cps).size = _
  rw [Array.size_append]
  rfl
abbrev sChars : Str := "abcdefghijklmnopqrstuvwxyz0123456789"
theorem len_chars : sChars.length = 36 := by decide +kernel
theorem len_ends : sEnds.length = 8 := by decide +kernel
theorem ok_app {a b : Str} (ha : PyData.strOk a = true) (hb : PyData.strOk b = true) : PyData.strOk (a ++ b) = true := by
  show (a.cps ++ b.cps).all _ = true
  rw [Array.all_append]
  unfold PyData.strOk at ha hb
  rw [ha, hb]
  rfl
theorem ok_join {sep : Str} (hs : PyData.strOk sep = true) : ∀ xs : List Str, (∀ x ∈ xs, PyData.strOk x = true) → PyData.strOk (Str.join sep xs) = true
  | [], _ => by
    rw [Str.join]
    decide +kernel
  | [x], h => by
    rw [Str.join]
    exact h x List.mem_cons_self
  | x :: y :: rest, h => ok_app (ok_app (h x List.mem_cons_self) hs) (ok_join hs (y :: rest) fun z hz => h z (List.mem_cons_of_mem _ hz))
theorem ok_one {z : Str} {i : Int} {c : Nat} (hz : PyData.strOk z = true) (h : atI z.cps.toList i = some c) : PyData.strOk ⟨#[c]⟩ = true := by
  obtain ⟨j, _, _, _, hj, _⟩ := atI_get h
  have hm : c ∈ z.cps.toList := by
    first
    | exact List.mem_of_getElem? (by assumption)
    | exact List.mem_of_getElem? hj
  unfold PyData.strOk at hz ⊢
  rw [Array.all_eq_true_iff_forall_mem] at hz
  have := hz c (by simpa using hm)
  simpa using this
theorem ok_chars : PyData.strOk sChars = true := by decide +kernel
theorem ok_ends : PyData.strOk sEnds = true := by decide +kernel
theorem at_mem {z : Str} {i : Int} {c : Nat} (h : atI z.cps.toList i = some c) : c ∈ z.cps.toList := by
  obtain ⟨j, _, _, _, hj, _⟩ := atI_get h
  first
  | exact List.mem_of_getElem? (by assumption)
  | exact List.mem_of_getElem? hj
theorem join_all : ∀ {xs : List Str}, (∀ x ∈ xs, ∀ c ∈ x.cps.toList, c ∈ sChars.cps.toList) → ∀ c ∈ (Str.join (Str.ofString "") xs).cps.toList, c ∈ sChars.cps.toList
  | [], _, c, h => by
    rw [Str.join] at h
    exact absurd h (by show c ∉ ([] : List Nat); simp)
  | [x], hx, c, h => by
    rw [Str.join] at h
    exact hx x List.mem_cons_self c h
  | x :: y :: rest, hx, c, h => by
    have h : c ∈ (x ++ Str.ofString "" ++ Str.join (Str.ofString "") (y :: rest)).cps.toList := h
    have e : ∀ a b : Str, (a ++ b).cps.toList = a.cps.toList ++ b.cps.toList := fun a b => by
      show (a.cps ++ b.cps).toList = _
      rw [Array.toList_append]
    rw [e, e, List.mem_append, List.mem_append] at h
    rcases h with (h | h) | h
    · exact hx x List.mem_cons_self c h
    · exact absurd h (by show c ∉ ([] : List Nat); simp)
    · exact join_all (fun z hz => hx z (List.mem_cons_of_mem _ hz)) c h
theorem chars_ok : ∀ c ∈ sChars.cps.toList, okW false c = true := by decide +kernel
theorem chars_lc : ∀ c ∈ sChars.cps.toList.take 26, okW true c = true := by decide +kernel
theorem ends_ok : ∀ c ∈ sEnds.cps.toList, okW false c = true := by decide +kernel
theorem ends_res : ∀ w ∈ (["true", "false", "exists", "forall"] : List Str), ∀ c ∈ sEnds.cps.toList, w.cps.toList.getLast? ≠ some c := by decide +kernel
theorem lc_at {u : Int} {c : Nat} (h0 : 0 ≤ u) (h1 : u < 26) (h : atI sChars.cps.toList u = some c) : okW true c = true := by
  refine chars_lc c ?_
  have hl : u.toNat < sChars.cps.toList.length := Nat.lt_of_lt_of_le (show u.toNat < 26 by omega) (by decide +kernel)
  have e : ((u.toNat : Nat) : Int) = u := by omega
  have r := atI_nat (List.getElem?_eq_getElem hl)
  rw [e, h] at r
  have r2 : sChars.cps.toList[u.toNat]? = some c := by rw [List.getElem?_eq_getElem hl, ← r]
  exact List.mem_of_getElem? (i := u.toNat) (by rw [List.getElem?_take, if_pos (by omega)]; exact r2)
theorem name_ok {c c2 : Nat} {J : Str} (h1 : okW true c = true) (h2 : ∀ c' ∈ J.cps.toList, c' ∈ sChars.cps.toList) (h3 : c2 ∈ sEnds.cps.toList) : nameOk ((⟨#[c]⟩ : Str) ++ J ++ (⟨#[c2]⟩ : Str)) = true := by
  have e : ((⟨#[c]⟩ : Str) ++ J ++ (⟨#[c2]⟩ : Str)).cps.toList = c :: (J.cps.toList ++ [c2]) := by
    show (#[c] ++ J.cps ++ #[c2]).toList = _
    simp
  unfold nameOk
  rw [e]
  have w : wholeW (c :: (J.cps.toList ++ [c2])) = true := by
    unfold wholeW
    dsimp only
    rw [h1, List.all_eq_true.mpr fun x hx => ?_]
    · rfl
    · rcases List.mem_append.mp hx with hx | hx
      · exact chars_ok x (h2 x hx)
      · rw [List.mem_singleton.mp hx]; exact ends_ok c2 h3
  have r : resW ((⟨#[c]⟩ : Str) ++ J ++ (⟨#[c2]⟩ : Str)) = false := by
    have k : ∀ w ∈ (["true", "false", "exists", "forall"] : List Str), ((⟨#[c]⟩ : Str) ++ J ++ (⟨#[c2]⟩ : Str)) ≠ w := fun w hw z => by
      have := ends_res w hw c2 h3
      rw [← z, ends_app] at this
      exact this rfl
    unfold resW
    rw [decide_eq_false (fun z => ?_), decide_eq_false (fun z => ?_)]
    · rfl
    · rcases List.mem_cons.mp z with z | z
      · exact k "exists" (by simp) z
      · exact k "forall" (by simp) (List.mem_singleton.mp z)
    · rcases List.mem_cons.mp z with z | z
      · exact k "true" (by simp) z
      · exact k "false" (by simp) (List.mem_singleton.mp z)
  rw [w, r]
  rfl
theorem ends_inj : ∀ i j : Fin 8, sEnds.cps.toList[i.val]? = sEnds.cps.toList[j.val]? → i = j := by decide +kernel
theorem ends_nodup {xs : List Str} (hl : xs.length ≤ 8) (h : ∀ (j : Nat) (s : Str), xs[j]? = some s → EndsIn s (j : Int)) : xs.Nodup := by
  unfold List.Nodup
  rw [List.pairwise_iff_getElem]
  intro i j hi hj hij e
  obtain ⟨c, h1, h2⟩ := h i _ (List.getElem?_eq_getElem hi)
  obtain ⟨c', h1', h2'⟩ := h j _ (List.getElem?_eq_getElem hj)
  rw [e, h2'] at h2
  cases h2
  have gi : ∀ (k : Nat) c, k < 8 → atI sEnds.cps.toList (k : Int) = some c → sEnds.cps.toList[k]? = some c := fun k c hk hc => by
    have hl : k < sEnds.cps.toList.length := Nat.lt_of_lt_of_eq hk (by decide +kernel)
    have := atI_nat (List.getElem?_eq_getElem hl)
    rw [hc] at this
    rw [List.getElem?_eq_getElem hl, ← this]
  have := ends_inj ⟨i, by omega⟩ ⟨j, by omega⟩ ((gi i _ (by omega) h1).trans (gi j _ (by omega) h1').symm)
  have := congrArg Fin.val this
  simp only at this
  omega
/-! ### the printed form and its tokens -/
def psg (k : Str) : Str := (preL.lookup k).getD ""
def isg (k : Str) : Str := (infL.lookup k).getD ""
def prF : Fm → Str
  | .c0 k => k
  | .sg s => s
  | .un k f => psg k ++ prF f
  | .bin k f g => Str.ofString "(" ++ prF f ++ Str.ofString " " ++ isg k ++ Str.ofString " " ++ prF g ++ Str.ofString ")"
def tkF : Fm → List (Str × Str)
  | .c0 k => [(k, k)]
  | .sg s => [("name", s)]
  | .un k f => (psg k, psg k) :: tkF f
  | .bin k f g => (("(" : Str), ("(" : Str)) :: (tkF f ++ (isg k, isg k) :: (tkF g ++ [((")" : Str), (")" : Str))]))
/-- as it may be written -/
def Okf : Fm → Prop
  | .c0 k => k = "true" ∨ k = "false"
  | .sg s => nameOk s = true
  | .un k f => k ∈ unOps ∧ Okf f
  | .bin k f g => k ∈ binOps ∧ Okf f ∧ Okf g
def pdp : Fm → Nat
  | .c0 _ => 0
  | .sg _ => 0
  | .un _ f => pdp f
  | .bin _ f g => max (pdp f) (pdp g) + 1
def kc (t : Tk) : Str × Str := (t.k, t.c)
theorem un_pre : ∀ k ∈ unOps, isPre (psg k) = true ∧ kndP (psg k) = k := by decide +kernel
def lvI (k : Str) : Nat := if k = "iff" then 0 else if k = "implies" then 1 else if k = "or" then 2 else if k = "and" then 3 else 4
theorem bin_lev : ∀ k ∈ binOps, isg k ∈ levL.getD (lvI k) [] ∧ lvI k < 5 ∧ (∀ j ∈ [0, 1, 2, 3, 4], lvI k < j → ¬ isg k ∈ levL.getD j []) ∧ kndI (isg k) = k := by decide +kernel
theorem rp_lev : ∀ j ∈ [0, 1, 2, 3, 4], ¬ (")" : Str) ∈ levL.getD j [] := by decide +kernel
theorem lt5 {j : Nat} (h : j < 5) : j ∈ [0, 1, 2, 3, 4] := by
  match j, h with
  | 0, _ => simp
  | 1, _ => simp
  | 2, _ => simp
  | 3, _ => simp
  | 4, _ => simp
theorem k_facts : isPre "true" = false ∧ isPre "false" = false ∧ isPre "name" = false ∧ isPre "(" = false ∧ ("true" : Str) ≠ "(" ∧ ("false" : Str) ≠ "(" ∧ ("name" : Str) ≠ "(" ∧ ¬ ("name" : Str) ∈ (["true", "false"] : List Str) := by decide +kernel
theorem fld1 {k : Str} (hk : k ∈ binOps) (f g : Fm) : fld [isg k] f [g] = .bin k f g := by
  have e := (bin_lev k hk).2.2.2
  unfold fld
  dsimp only
  split
  · show Fm.bin (kndI (isg k)) f g = _
    rw [e]
  · show Fm.bin (kndI (isg k)) f g = _
    rw [e]
theorem kc_one {tf : List Tk} {x : Str × Str} (e : tf.map kc = [x]) : ∃ u, tf = [u] ∧ kc u = x := by
  obtain ⟨u, r, h1, h2, h3⟩ := List.map_eq_cons_iff.mp e
  have : r = [] := List.map_eq_nil_iff.mp h3
  subst this
  exact ⟨u, h1, h2⟩
theorem una_pr : ∀ {f : Fm}, Okf f → ∀ {n : Nat}, 6 * pdp f ≤ n → ∀ {tf : List Tk} (t : Tk) (r : List Tk), tf.map kc = tkF f → ∃ ss g, Una (RdF n 0) (tf ++ t :: r) ss g (t :: r) ∧ f = wrp ss g
  | .c0 k, h, n, _, tf, t, r, e => by
    obtain ⟨a1, a2, a3, a4, a5, a6, a7, a8⟩ := k_facts
    obtain ⟨u, rfl, e0⟩ := kc_one (x := (k, k)) e
    have e1 : u.k = k ∧ u.c = k := ⟨congrArg Prod.fst e0, congrArg Prod.snd e0⟩
    have hk : k ∈ (["true", "false"] : List Str) := by
      rcases h with h | h
      · rw [h]; simp
      · rw [h]; simp
    have h1 : isPre k = false := by rcases h with h | h <;> rw [h] <;> assumption
    have h2 : k ≠ "(" := by rcases h with h | h <;> rw [h] <;> assumption
    exact ⟨[], .c0 k, .nil (by rw [e1.1]; exact h1) (.inr (.inl ⟨by rw [e1.1]; exact h2, by rw [e1.1]; exact hk, by rw [e1.2], rfl⟩)), rfl⟩
  | .sg s, h, n, _, tf, t, r, e => by
    obtain ⟨a1, a2, a3, a4, a5, a6, a7, a8⟩ := k_facts
    obtain ⟨u, rfl, e0⟩ := kc_one (x := ("name", s)) e
    have e1 : u.k = "name" ∧ u.c = s := ⟨congrArg Prod.fst e0, congrArg Prod.snd e0⟩
    exact ⟨[], .sg s, .nil (by rw [e1.1]; exact a3) (.inr (.inr ⟨by rw [e1.1]; exact a7, by rw [e1.1]; exact a8, e1.1, by rw [e1.2], rfl⟩)), rfl⟩
  | .un k f, h, n, hn, tf, t, r, e => by
    match tf, e with
    | u :: tf', e =>
      have e' := List.cons.inj e
      have e1 : u.k = psg k ∧ u.c = psg k := ⟨congrArg Prod.fst e'.1, congrArg Prod.snd e'.1⟩
      obtain ⟨ss, g, h1, h2⟩ := una_pr h.2 (n := n) hn t r e'.2
      have h3 := un_pre k h.1
      refine ⟨u.c :: ss, g, .cons (by rw [e1.1]; exact h3.1) (by rw [e1.1, e1.2]) h1, ?_⟩
      show Fm.un k f = Fm.un (kndP u.c) (wrp ss g)
      rw [e1.2, h3.2, h2]
  | .bin k f g, h, n, hn, tf, t, r, e => by
    obtain ⟨a1, a2, a3, a4, a5, a6, a7, a8⟩ := k_facts
    have hn : 6 * (max (pdp f) (pdp g) + 1) ≤ n := hn
    obtain ⟨m, rfl⟩ : ∃ m, n = m + 6 := ⟨n - 6, by omega⟩
    match tf, e with
    | u :: tf', e =>
      have e' := List.cons.inj e
      have e1 : u.k = "(" := congrArg Prod.fst e'.1
      obtain ⟨ta, tr, ht1, ht2, ht3⟩ := List.map_eq_append_iff.mp e'.2
      match tr, ht3 with
      | v :: tr', ht3 =>
        have e2 := List.cons.inj ht3
        have ev : v.k = isg k ∧ v.c = isg k := ⟨congrArg Prod.fst e2.1, congrArg Prod.snd e2.1⟩
        obtain ⟨tb, tr2, hu1, hu2, hu3⟩ := List.map_eq_append_iff.mp e2.2
        obtain ⟨z, rfl, ez0⟩ := kc_one hu3
        have ez : z.k = ")" := congrArg Prod.fst ez0
        subst hu1
        subst ht1
        obtain ⟨b1, b2, b3, b4⟩ := bin_lev k h.1
        obtain ⟨ss1, g1, c1, c2⟩ := una_pr h.2.1 (n := m) (by omega) v ((tb ++ [z]) ++ t :: r) ht2
        obtain ⟨ss2, g2, d1, d2⟩ := una_pr h.2.2 (n := m) (by omega) z (t :: r) hu2
        have hf5 : RdF (m + 1) 5 (ta ++ v :: ((tb ++ [z]) ++ t :: r)) f (v :: ((tb ++ [z]) ++ t :: r)) := .inl ⟨rfl, ss1, g1, c1, c2⟩
        have hg5 : RdF (m + 1) 5 (tb ++ z :: t :: r) g (z :: t :: r) := .inl ⟨rfl, ss2, g2, d1, d2⟩
        generalize hj : lvI k = j at b1 b2 b3
        have hfj : RdF (m + 1 + (4 - j)) (j + 1) (ta ++ v :: ((tb ++ [z]) ++ t :: r)) f (v :: ((tb ++ [z]) ++ t :: r)) := rdf_ups (4 - j) (m + 1) (j + 1) (by omega) (by rw [show j + 1 + (4 - j) = 5 by omega]; exact hf5) (fun i h1 h2 => by rw [ev.1]; exact b3 i (lt5 (by omega)) (by omega))
        have hgj : RdF (m + 1 + (4 - j)) (j + 1) (tb ++ z :: t :: r) g (z :: t :: r) := rdf_ups (4 - j) (m + 1) (j + 1) (by omega) (by rw [show j + 1 + (4 - j) = 5 by omega]; exact hg5) (fun i h1 h2 => by rw [ez]; exact rp_lev i (lt5 (by omega)))
        have hb : RdF (m + 1 + (4 - j) + 1) j (ta ++ v :: ((tb ++ [z]) ++ t :: r)) (.bin k f g) (z :: t :: r) := by
          refine .inr ⟨b2, f, _, [v.c], [g], hfj, .cons (by rw [ev.1]; exact b1) (by rw [ev.1, ev.2]) ?_ (.nil (by rw [ez]; exact rp_lev j (lt5 b2))), by rw [ev.2, fld1 h.1]⟩
          rw [List.append_assoc]
          exact hgj
        have h0 : RdF (m + 6) 0 (ta ++ v :: ((tb ++ [z]) ++ t :: r)) (.bin k f g) (z :: t :: r) := by
          have := rdf_ups j (m + 1 + (4 - j) + 1) 0 (by omega) (by rw [Nat.zero_add]; exact hb) (fun i h1 h2 => by rw [ez]; exact rp_lev i (lt5 (by omega)))
          rwa [show m + 1 + (4 - j) + 1 + j = m + 6 by omega] at this
        refine ⟨[], .bin k f g, .nil (by rw [e1]; exact a4) (.inl ⟨e1, z, ?_, ez⟩), rfl⟩
        have el : (ta ++ v :: (tb ++ [z])) ++ t :: r = ta ++ v :: ((tb ++ [z]) ++ t :: r) := by simp
        show RdF (m + 6) 0 ((ta ++ v :: (tb ++ [z])) ++ t :: r) _ _
        rw [el]
        exact h0
theorem end_lev : ∀ j ∈ [0, 1, 2, 3, 4], ¬ ("end" : Str) ∈ levL.getD j [] := by decide +kernel
theorem rdf_pr {f : Fm} (h : Okf f) {n : Nat} (hn : 6 * pdp f ≤ n) {tf : List Tk} {t : Tk} {r : List Tk} (e : tf.map kc = tkF f) (ht : t.k = "end") : RdF (n + 6) 0 (tf ++ t :: r) f (t :: r) := by
  obtain ⟨ss, g, h1, h2⟩ := una_pr h hn t r e
  have h5 : RdF (n + 1) 5 (tf ++ t :: r) f (t :: r) := .inl ⟨rfl, ss, g, h1, h2⟩
  have := rdf_ups 5 (n + 1) 0 (by omega) (by rw [Nat.zero_add]; exact h5) (fun i h1 h2 => by rw [ht]; exact end_lev i (lt5 (by omega)))
  rwa [show n + 1 + 5 = n + 6 by omega] at this
/-! ### the tokens of the printed form -/
theorem toL_app (a b : Str) : (a ++ b).cps.toList = a.cps.toList ++ b.cps.toList := by
  show (a.cps ++ b.cps).toList = _
  simp
theorem sgn_head : ∀ u ∈ sgnL, ∀ s ∈ sgnL, u.cps.toList.head? = s.cps.toList.head? → u = s := by decide +kernel
theorem sgn_low : ∀ u ∈ sgnL, ∀ c, u.cps.toList.head? = some c → c ≠ 32 ∧ c ∉ tLC.cps.toList := by
  have : ∀ u ∈ sgnL, ((u.cps.toList.head?.all fun c => decide (c ≠ 32 ∧ c ∉ tLC.cps.toList)) = true) := by decide +kernel
  intro u hu c hc
  have := this u hu
  rw [hc] at this
  simpa using this
theorem low_sp : ∀ c ∈ tLC.cps.toList, c ≠ 32 := by decide +kernel
theorem take_head {u : Str} {cs : List Nat} (h : cs.take u.length = u.cps.toList) (hu : 0 < u.length) : u.cps.toList.head? = cs.head? := by
  rw [← h]
  cases cs with
  | nil => simp
  | cons c r =>
    obtain ⟨m, hm⟩ : ∃ m, u.length = m + 1 := ⟨u.length - 1, by omega⟩
    rw [hm]
    rfl
theorem hd_app {l r : List Nat} (h : l ≠ []) : (l ++ r).head? = l.head? := by
  cases l with
  | nil => exact absurd rfl h
  | cons _ _ => rfl
theorem tok_sgn {s : Str} (hs : s ∈ sgnL) (rest : List Nat) : tokOf (s.cps.toList ++ rest) = (s, s) := by
  have hm : decide ((s.cps.toList ++ rest).take s.length = s.cps.toList) = true := by
    rw [← str_len, List.take_append_of_le_length (Nat.le_refl _), List.take_length]
    exact decide_eq_true rfl
  have hex : sgnL.find? (fun u => decide ((s.cps.toList ++ rest).take u.length = u.cps.toList)) = some s := by
    cases hf : sgnL.find? (fun u => decide ((s.cps.toList ++ rest).take u.length = u.cps.toList)) with
    | none =>
      have := List.find?_eq_none.mp hf s hs
      exact absurd hm this
    | some u =>
      have h1 := List.find?_some hf
      have h2 := List.mem_of_find?_eq_some hf
      have h3 := take_head (of_decide_eq_true h1) (sgn_len u h2).1
      have h4 : s.cps.toList ≠ [] := fun z => by
        have := (sgn_len s hs).1
        rw [← str_len, z] at this
        exact absurd this (by decide)
      rw [hd_app h4] at h3
      rw [sgn_head u h2 s hs h3]
  unfold tokOf
  rw [hex]
theorem head_of {s : Str} (h : 0 < s.length) : ∃ c r, s.cps.toList = c :: r := by
  cases e : s.cps.toList with
  | nil => rw [← str_len, e] at h; exact absurd h (by decide)
  | cons c r => exact ⟨c, r, rfl⟩
theorem tks_sgn {s : Str} (hs : s ∈ sgnL) {rest : List Nat} {p : Nat} {ts : List Tk} (h : Tks rest (p + s.length) ts) : Tks (s.cps.toList ++ rest) p (⟨s, s, p⟩ :: ts) := by
  obtain ⟨c, r, e⟩ := head_of (sgn_len s hs).1
  have et := tok_sgn hs rest
  have hc := sgn_low s hs c (by rw [e]; rfl)
  have hd : (s.cps.toList ++ rest).drop s.length = rest := by rw [← str_len, List.drop_left]
  rw [e, List.cons_append] at et hd ⊢
  have := Tks.tok (c := c) (r := r ++ rest) (p := p) (ts := ts) hc.1 (by rw [et]; exact (sgn_len s hs).2) (by rw [et]; dsimp only; rw [hd]; exact h)
  rw [et] at this
  exact this
def Bnd : List Nat → Prop
  | [] => True
  | c :: _ => okW false c = false
theorem wlen_app : ∀ (f : Bool) (w rest : List Nat), (∀ i c, w[i]? = some c → okW (f && decide (i = 0)) c = true) → (w ≠ [] ∨ f = false) → Bnd rest → wlen f (w ++ rest) = w.length
  | f, [], rest, h, hne, hb => by
    obtain rfl : f = false := hne.elim (fun z => absurd rfl z) id
    cases rest with
    | nil => rfl
    | cons c r =>
      show wlen false (c :: r) = 0
      unfold wlen
      rw [if_neg (by rw [show okW false c = false from hb]; exact Bool.false_ne_true)]
  | f, c :: w, rest, h, hne, hb => by
    show wlen f (c :: (w ++ rest)) = w.length + 1
    unfold wlen
    have h0 := h 0 c rfl
    rw [decide_eq_true rfl, Bool.and_true] at h0
    rw [if_pos h0, wlen_app false w rest (fun i d hd => by
      have := h (i + 1) d hd
      rwa [decide_eq_false (Nat.succ_ne_zero i), Bool.and_false] at this) (.inr rfl) hb]
theorem okW_low {c : Nat} (h : okW true c = true) : c ∈ tLC.cps.toList := by
  unfold okW at h
  simpa using h
theorem word_ne {w : Str} (h : wholeW w.cps.toList = true) : w.cps.toList ≠ [] := fun z => by
  rw [z] at h
  cases h
theorem tok_word {w : Str} (hw : wholeW w.cps.toList = true) {rest : List Nat} (hb : Bnd rest) : tokOf (w.cps.toList ++ rest) = (if resW w = true then w else "name", w) ∧ ∃ c r, w.cps.toList = c :: r ∧ c ∈ tLC.cps.toList := by
  have hne := word_ne hw
  have hi := (wholeW_iff hne).mp hw
  obtain ⟨c, r, e⟩ : ∃ c r, w.cps.toList = c :: r := by
    cases e : w.cps.toList with
    | nil => exact absurd e hne
    | cons c r => exact ⟨c, r, rfl⟩
  have hc : c ∈ tLC.cps.toList := okW_low (by
    have := hi 0 c (by rw [e]; rfl)
    rwa [decide_eq_true rfl] at this)
  refine ⟨?_, c, r, e, hc⟩
  have hn : sgnL.find? (fun u => decide ((w.cps.toList ++ rest).take u.length = u.cps.toList)) = none := by
    refine List.find?_eq_none.mpr fun u hu z => ?_
    have h3 := take_head (of_decide_eq_true z) (sgn_len u hu).1
    rw [hd_app hne, e] at h3
    exact (sgn_low u hu c h3).2 hc
  have hl : wlen true (w.cps.toList ++ rest) = w.cps.toList.length := wlen_app true _ rest (fun i d hd => by rw [Bool.true_and]; exact hi i d hd) (.inl hne) hb
  unfold tokOf
  rw [hn]
  dsimp only
  rw [hl, if_neg (by rw [e]; exact Nat.succ_ne_zero _), List.take_append_of_le_length (Nat.le_refl _), List.take_length, Array.toArray_toList]
theorem tks_word {w : Str} (hw : wholeW w.cps.toList = true) {rest : List Nat} (hb : Bnd rest) {p : Nat} {ts : List Tk} (h : Tks rest (p + w.length) ts) : Tks (w.cps.toList ++ rest) p (⟨if resW w = true then w else "name", w, p⟩ :: ts) := by
  obtain ⟨et, c, r, e, hc⟩ := tok_word hw hb
  have hd : (w.cps.toList ++ rest).drop w.length = rest := by rw [← str_len, List.drop_left]
  have nb : (if resW w = true then w else ("name" : Str)) ≠ "bad" := by
    have h1 : ("name" : Str) ≠ "bad" := by decide +kernel
    split
    · rename_i z
      intro q
      rw [q] at z
      exact absurd z (by decide +kernel)
    · exact h1
  rw [e, List.cons_append] at et hd ⊢
  have := Tks.tok (c := c) (r := r ++ rest) (p := p) (ts := ts) (low_sp c hc) (by rw [et]; exact nb) (by rw [et]; dsimp only; rw [hd]; exact h)
  rw [et] at this
  exact this
theorem sgn_un : ∀ k ∈ unOps, psg k ∈ sgnL := by decide +kernel
theorem sgn_bin : ∀ k ∈ binOps, isg k ∈ sgnL := by decide +kernel
theorem cst_w : ∀ k ∈ (["true", "false", "exists", "forall"] : List Str), wholeW k.cps.toList = true ∧ resW k = true := by decide +kernel
theorem l_sp : (Str.ofString " ").cps.toList = [32] ∧ (Str.ofString "(") ∈ sgnL ∧ (Str.ofString ")") ∈ sgnL ∧ (Str.ofString ")").cps.toList = [41] ∧ okW false 32 = false ∧ okW false 41 = false ∧ okW false 58 = false ∧ okW false 44 = false := by decide +kernel
theorem l_one : (Str.ofString " ").length = 1 ∧ (Str.ofString "(").length = 1 ∧ (Str.ofString ")").length = 1 := by decide +kernel
theorem tks_pr : ∀ {f : Fm}, Okf f → ∀ {rest : List Nat} {p : Nat} {ts : List Tk}, Bnd rest → Tks rest (p + (prF f).length) ts → ∃ tf, Tks ((prF f).cps.toList ++ rest) p (tf ++ ts) ∧ tf.map kc = tkF f
  | .c0 k, h, rest, p, ts, hb, ht => by
    have hk : k ∈ (["true", "false", "exists", "forall"] : List Str) := by
      rcases h with h | h
      · rw [h]; simp
      · rw [h]; simp
    obtain ⟨h1, h2⟩ := cst_w k hk
    have := tks_word h1 hb ht
    rw [if_pos h2] at this
    exact ⟨[⟨k, k, p⟩], this, rfl⟩
  | .sg s, h, rest, p, ts, hb, ht => by
    have h : nameOk s = true := h
    unfold nameOk at h
    rw [Bool.and_eq_true] at h
    have := tks_word h.1 hb ht
    rw [if_neg (by have := h.2; intro z; rw [z] at this; cases this)] at this
    exact ⟨[⟨"name", s, p⟩], this, rfl⟩
  | .un k f, h, rest, p, ts, hb, ht => by
    obtain ⟨tf, h1, h2⟩ := tks_pr h.2 (p := p + (psg k).length) hb (ts := ts) (by
      have e : (prF (.un k f)).length = (psg k).length + (prF f).length := app_len _ _
      rwa [e, ← Nat.add_assoc] at ht)
    refine ⟨⟨psg k, psg k, p⟩ :: tf, ?_, ?_⟩
    · show Tks ((psg k ++ prF f).cps.toList ++ rest) p _
      rw [toL_app, List.append_assoc]
      exact tks_sgn (sgn_un k h.1) h1
    · show kc ⟨psg k, psg k, p⟩ :: tf.map kc = _
      rw [h2]
      rfl
  | .bin k f g, h, rest, p, ts, hb, ht => by
    obtain ⟨s1, s2, s3, s4, s5, s6, s7, s8⟩ := l_sp
    obtain ⟨o1, o2, o3⟩ := l_one
    have el : (prF (.bin k f g)).length = 1 + (prF f).length + 1 + (isg k).length + 1 + (prF g).length + 1 := by
      show (Str.ofString "(" ++ prF f ++ Str.ofString " " ++ isg k ++ Str.ofString " " ++ prF g ++ Str.ofString ")").length = _
      rw [app_len, app_len, app_len, app_len, app_len, app_len, o1, o2, o3]
    have e : (prF (.bin k f g)).cps.toList ++ rest = (Str.ofString "(").cps.toList ++ ((prF f).cps.toList ++ (32 :: ((isg k).cps.toList ++ (32 :: ((prF g).cps.toList ++ ((Str.ofString ")").cps.toList ++ rest)))))) := by
      show (Str.ofString "(" ++ prF f ++ Str.ofString " " ++ isg k ++ Str.ofString " " ++ prF g ++ Str.ofString ")").cps.toList ++ rest = _
      rw [toL_app, toL_app, toL_app, toL_app, toL_app, toL_app, s1]
      simp
    rw [el] at ht
    have t1 : Tks ((Str.ofString ")").cps.toList ++ rest) (p + (1 + (prF f).length + 1 + (isg k).length + 1 + (prF g).length)) (⟨")", ")", _⟩ :: ts) := tks_sgn s3 (by rw [o3]; exact ht)
    obtain ⟨tg, t2, t3⟩ := tks_pr h.2.2 (p := p + (1 + (prF f).length + 1 + (isg k).length + 1)) (rest := (Str.ofString ")").cps.toList ++ rest) (by rw [s4]; exact s6) (by rw [Nat.add_assoc]; exact t1)
    have t4 := Tks.sp (p := p + (1 + (prF f).length + 1 + (isg k).length)) t2
    have t5 := tks_sgn (sgn_bin k h.1) (p := p + (1 + (prF f).length + 1)) (by rw [Nat.add_assoc]; exact t4)
    have t6 := Tks.sp (p := p + (1 + (prF f).length)) t5
    obtain ⟨tf, t7, t8⟩ := tks_pr h.2.1 (p := p + 1) (rest := 32 :: _) s5 (by rw [Nat.add_assoc]; exact t6)
    have t9 := tks_sgn s2 (p := p) (by rw [o2]; exact t7)
    rw [e]
    refine ⟨⟨"(", "(", p⟩ :: (tf ++ ⟨isg k, isg k, p + (1 + (prF f).length + 1)⟩ :: (tg ++ [⟨")", ")", _⟩])), by simpa using t9, ?_⟩
    rw [List.map_cons, List.map_append, List.map_cons, List.map_append, t8, t3]
    rfl
theorem sz1 : 1 ≤ sizeLine := by decide
theorem sz2 : 2 ≤ sizeLine := by decide
theorem sz3 : 3 ≤ sizeLine := by decide
/-! the formula as data -/
def dF : Fm → PyData
  | .c0 k => .tuple [.str k]
  | .sg s => .tuple [.str sSig, .str s]
  | .un k f => .tuple [.str k, dF f]
  | .bin k f g => .tuple [.str k, dF f, dF g]
theorem dp_fm {K : PySem.W.Frag} {H : Hp} : ∀ {f : Fm} {v : V}, FmAt K H v f → Dp K H v (dF f)
  | .c0 k, _, ⟨a, rfl, h⟩ => .tup h (.cons (.str _) .nil)
  | .sg s, _, ⟨a, rfl, h⟩ => .tup h (.cons (.str _) (.cons (.str _) .nil))
  | .un k f, _, ⟨a, x, rfl, h, hx⟩ => .tup h (.cons (.str _) (.cons (dp_fm hx) .nil))
  | .bin k f g, _, ⟨a, x, y, rfl, h, hx, hy⟩ => .tup h (.cons (.str _) (.cons (dp_fm hx) (.cons (dp_fm hy) .nil)))
theorem ok_un : ∀ k ∈ unOps, PyData.strOk k = true := by decide +kernel
theorem ok_bin : ∀ k ∈ binOps, PyData.strOk k = true := by decide +kernel
theorem lay_fm {nm : List Str} (hok : ∀ s ∈ nm, PyData.strOk s = true) : ∀ {f : Fm}, Wo nm f → PyData.canLay0 (dF f) = true
  | .c0 k, h => by
    have e : PyData.strOk k = true := by
      rcases h with rfl | rfl
      · decide +kernel
      · decide +kernel
    simp [dF, PyData.canLay0, PyData.canLayAll0, e]
  | .sg s, h => by
    have e : PyData.strOk sSig = true := by decide +kernel
    simp [dF, PyData.canLay0, PyData.canLayAll0, e, hok s h]
  | .un k f, h => by simp [dF, PyData.canLay0, PyData.canLayAll0, ok_un k h.1, lay_fm hok h.2]
  | .bin k f g, h => by simp [dF, PyData.canLay0, PyData.canLayAll0, ok_bin k h.1, lay_fm hok h.2.1, lay_fm hok h.2.2]
theorem dep_fm : ∀ f : Fm, PyData.depth (dF f) ≤ dpt f + 1
  | .c0 k => by simp [dF, PyData.depth, PyData.depthAll, dpt]
  | .sg s => by simp [dF, PyData.depth, PyData.depthAll, dpt]
  | .un k f => by
    have := dep_fm f
    simp [dF, PyData.depth, PyData.depthAll, dpt]
    omega
  | .bin k f g => by
    have := dep_fm f
    have := dep_fm g
    simp [dF, PyData.depth, PyData.depthAll, dpt]
    omega
theorem shaped_fm {nm : List Str} (hok : ∀ s ∈ nm, PyData.strOk s = true) {f : Fm} (h : Wo nm f) (hd : dpt f ≤ 60) : SeqAt.shaped (dF f) = true := by
  unfold SeqAt.shaped
  have := dep_fm f
  rw [lay_fm hok h, decide_eq_true (show PyData.depth (dF f) ≤ 64 by omega)]
  rfl
/-! properties -/
inductive Pr where
  | f (f : Fm)
  | q (k : Str) (hs : List Str) (f : Fm)
def PvAt (K : PySem.W.Frag) (H : Hp) : V → Pr → Prop
  | v, .f f => FmAt K H v f
  | v, .q k hs f => ∃ a b u, v = .ref a ∧ SqT K H a [.str k, .ref b, u] ∧ SqT K H b (hs.map V.str) ∧ FmAt K H u f
theorem PvAt.same {K : PySem.W.Frag} {H H' : Hp} (e : Same H H') : ∀ {v : V} {p : Pr}, PvAt K H v p → PvAt K H' v p
  | _, .f _, h => FmAt.same e h
  | _, .q _ _ _, ⟨a, b, u, h1, h2, h3, h4⟩ => ⟨a, b, u, h1, sqt_same e h2, sqt_same e h3, h4.same e⟩
theorem PvAt.kp {K : PySem.W.Frag} {H H' : Hp} {d : Addr} {ys : List V} (hd : H d = some (.lst ys)) (e : Kp d H H') : ∀ {v : V} {p : Pr}, PvAt K H v p → PvAt K H' v p
  | _, .f _, h => FmAt.kp hd e h
  | _, .q _ _ _, ⟨a, b, u, h1, h2, h3, h4⟩ => ⟨a, b, u, h1, sqt_kp hd e h2, sqt_kp hd e h3, h4.kp hd e⟩
def PvsAt (K : PySem.W.Frag) (H : Hp) : List V → List Pr → Prop
  | [], [] => True
  | v :: vs, p :: ps => PvAt K H v p ∧ PvsAt K H vs ps
  | _, _ => False
theorem PvsAt.same {K : PySem.W.Frag} {H H' : Hp} (e : Same H H') : ∀ {vs : List V} {ps : List Pr}, PvsAt K H vs ps → PvsAt K H' vs ps
  | [], [], _ => trivial
  | _ :: _, _ :: _, h => ⟨h.1.same e, h.2.same e⟩
theorem PvsAt.kp {K : PySem.W.Frag} {H H' : Hp} {d : Addr} {ys : List V} (hd : H d = some (.lst ys)) (e : Kp d H H') : ∀ {vs : List V} {ps : List Pr}, PvsAt K H vs ps → PvsAt K H' vs ps
  | [], [], _ => trivial
  | _ :: _, _ :: _, h => ⟨h.1.kp hd e, h.2.kp hd e⟩
theorem PvsAt.len {K : PySem.W.Frag} {H : Hp} : ∀ {vs : List V} {ps : List Pr}, PvsAt K H vs ps → vs.length = ps.length
  | [], [], _ => rfl
  | _ :: _, _ :: _, h => congrArg (· + 1) h.2.len
theorem PvsAt.snoc {K : PySem.W.Frag} {H : Hp} {v : V} {p : Pr} (k : PvAt K H v p) : ∀ {vs : List V} {ps : List Pr}, PvsAt K H vs ps → PvsAt K H (vs ++ [v]) (ps ++ [p])
  | [], [], _ => ⟨k, trivial⟩
  | _ :: _, _ :: _, h => ⟨h.1, h.2.snoc k⟩
def dP : Pr → PyData
  | .f f => dF f
  | .q k hs f => .tuple [.str k, .tuple (hs.map PyData.str), dF f]
theorem dp_strs {K : PySem.W.Frag} {H : Hp} : ∀ ss : List Str, DpAll K H (ss.map V.str) (ss.map PyData.str)
  | [] => .nil
  | s :: r => .cons (.str s) (dp_strs r)
theorem dp_pr {K : PySem.W.Frag} {H : Hp} : ∀ {v : V} {p : Pr}, PvAt K H v p → Dp K H v (dP p)
  | _, .f _, h => dp_fm h
  | _, .q k hs f, ⟨a, b, u, h1, h2, h3, h4⟩ => by
    rw [h1]
    exact .tup h2 (.cons (.str k) (.cons (.tup h3 (dp_strs hs)) (.cons (dp_fm h4) .nil)))
theorem dp_prs {K : PySem.W.Frag} {H : Hp} : ∀ {vs : List V} {ps : List Pr}, PvsAt K H vs ps → DpAll K H vs (ps.map dP)
  | [], [], _ => .nil
  | _ :: _, _ :: _, h => .cons (dp_pr h.1) (dp_prs h.2)
/-- it may be laid out and isn't deep -/
def Lay (ds : List PyData) : Prop := PyData.canLayAll0 ds = true ∧ PyData.depthAll ds ≤ 30
theorem Lay.nil : Lay [] := ⟨rfl, Nat.zero_le _⟩
theorem Lay.cons {d : PyData} {ds : List PyData} (h : PyData.canLay0 d = true) (h2 : PyData.depth d ≤ 30) (k : Lay ds) : Lay (d :: ds) := ⟨by simp [PyData.canLayAll0, h, k.1], by have := k.2; simp only [PyData.depthAll]; omega⟩
theorem lay_str : ∀ {ss : List Str}, (∀ s ∈ ss, PyData.strOk s = true) → PyData.canLayAll0 (ss.map PyData.str) = true ∧ PyData.depthAll (ss.map PyData.str) = 0
  | [], _ => ⟨rfl, rfl⟩
  | s :: r, h => by
    obtain ⟨a, b⟩ := lay_str (ss := r) fun t ht => h t (List.mem_cons_of_mem _ ht)
    exact ⟨by simp [PyData.canLayAll0, PyData.canLay0, h s List.mem_cons_self, a], by simp [PyData.depthAll, PyData.depth, b]⟩
theorem lay_strs {ss : List Str} (h : ∀ s ∈ ss, PyData.strOk s = true) : Lay (ss.map PyData.str) := ⟨(lay_str h).1, by rw [(lay_str h).2]; omega⟩
theorem lay_T {ds : List PyData} (h : Lay ds) : PyData.canLay0 (.tuple ds) = true ∧ SeqAt.shaped (.tuple ds) = true ∧ PyData.depth (.tuple ds) ≤ 31 := by
  have a : PyData.canLay0 (.tuple ds) = true := by rw [PyData.canLay0]; exact h.1
  have b : PyData.depth (.tuple ds) ≤ 31 := by have := h.2; rw [PyData.depth]; omega
  refine ⟨a, ?_, b⟩
  unfold SeqAt.shaped
  rw [a, decide_eq_true (show PyData.depth (.tuple ds) ≤ 64 by omega)]
  rfl
theorem lay_L {ds : List PyData} (h : Lay ds) : PyData.canLay0 (.list ds) = true ∧ PyData.depth (.list ds) ≤ 31 := by
  have b : PyData.depth (.list ds) ≤ 31 := by have := h.2; rw [PyData.depth]; omega
  exact ⟨by rw [PyData.canLay0]; exact h.1, b⟩
/-- a property that may be laid out -/
def PrL (p : Pr) : Prop := PyData.canLay0 (dP p) = true ∧ PyData.depth (dP p) ≤ 30
theorem lay_prs : ∀ {ps : List Pr}, (∀ p ∈ ps, PrL p) → Lay (ps.map dP)
  | [], _ => Lay.nil
  | p :: ps, h => Lay.cons (h p List.mem_cons_self).1 (h p List.mem_cons_self).2 (lay_prs fun t ht => h t (List.mem_cons_of_mem _ ht))
theorem prL_f {nm : List Str} (hok : ∀ s ∈ nm, PyData.strOk s = true) {f : Fm} (h : Wo nm f) (hd : dpt f ≤ 20) : PrL (.f f) := ⟨lay_fm hok h, by have := dep_fm f; show PyData.depth (dF f) ≤ 30; omega⟩
theorem prL_q {nm hs : List Str} {k : Str} (hok : ∀ s ∈ nm, PyData.strOk s = true) (hh : ∀ s ∈ hs, PyData.strOk s = true) (hk : PyData.strOk k = true) {f : Fm} (h : Wo nm f) (hd : dpt f ≤ 20) : PrL (.q k hs f) := by
  have a := lay_fm hok h
  have b := dep_fm f
  obtain ⟨c, d⟩ := lay_str hh
  refine ⟨?_, ?_⟩
  · simp [dP, PyData.canLay0, PyData.canLayAll0, hk, a, c]
  · simp only [dP, PyData.depth, PyData.depthAll, d]
    omega
def prP : Pr → Str
  | .f f => prF f
  | .q k hs f => k ++ Str.ofString " " ++ Str.join (Str.ofString ", ") hs ++ Str.ofString ": " ++ prF f
def Okp : Pr → Prop
  | .f f => Okf f
  | .q k hs f => k ∈ (["exists", "forall"] : List Str) ∧ hs ≠ [] ∧ (∀ s ∈ hs, nameOk s = true) ∧ Okf f
def quP : Pr → Str
  | .f _ => ""
  | .q k _ _ => k
def hdP : Pr → List Str
  | .f _ => []
  | .q _ hs _ => hs
def foP : Pr → Fm
  | .f f => f
  | .q _ _ f => f
theorem l_cm : (Str.ofString ", ").cps.toList = [44, 32] ∧ (Str.ofString ": ").cps.toList = [58, 32] ∧ ((",": Str)).cps.toList = [44] ∧ ((":" : Str)).cps.toList = [58] ∧ ("," : Str) ∈ sgnL ∧ (":" : Str) ∈ sgnL ∧ ("," : Str).length = 1 ∧ (":" : Str).length = 1 ∧ (Str.ofString ", ").length = 2 ∧ (Str.ofString ": ").length = 2 := by decide +kernel
theorem join_two (s : Str) (x y : Str) (r : List Str) : Str.join s (x :: y :: r) = x ++ s ++ Str.join s (y :: r) := by
  rw [Str.join]
  intro h
  cases h
theorem join_one (s x : Str) : Str.join s [x] = x := by rw [Str.join]
theorem name_w {s : Str} (h : nameOk s = true) : wholeW s.cps.toList = true ∧ ¬ resW s = true := by
  unfold nameOk at h
  rw [Bool.and_eq_true] at h
  exact ⟨h.1, fun z => by have := h.2; rw [z] at this; (cases this)⟩
theorem tks_hid : ∀ {hs : List Str}, hs ≠ [] → (∀ s ∈ hs, nameOk s = true) → ∀ {rest : List Nat} {p : Nat} {ts : List Tk}, Tks rest (p + (Str.join (Str.ofString ", ") hs).length + 1) ts →
    ∃ th, Tks ((Str.join (Str.ofString ", ") hs).cps.toList ++ 58 :: rest) p (th ++ ts) ∧ ∀ ts', Hid (th ++ ts') hs ts'
  | [], h, _, _, _, _, _ => absurd rfl h
  | [x], _, hk, rest, p, ts, ht => by
    obtain ⟨c1, c2, c3, c4, c5, c6, c7, c8, c9, c10⟩ := l_cm
    obtain ⟨s1, s2, s3, s4, s5, s6, s7, s8⟩ := l_sp
    obtain ⟨w1, w2⟩ := name_w (hk x List.mem_cons_self)
    rw [join_one] at ht ⊢
    have t1 : Tks ((":" : Str).cps.toList ++ rest) (p + x.length) (⟨":", ":", p + x.length⟩ :: ts) := tks_sgn c6 (by rw [c8]; exact ht)
    have t2 := tks_word w1 (rest := (":" : Str).cps.toList ++ rest) (by rw [c4]; exact s7) t1
    rw [if_neg w2, c4] at t2
    exact ⟨[⟨"name", x, p⟩, ⟨":", ":", p + x.length⟩], t2, fun ts' => .one rfl rfl⟩
  | x :: y :: r, _, hk, rest, p, ts, ht => by
    obtain ⟨c1, c2, c3, c4, c5, c6, c7, c8, c9, c10⟩ := l_cm
    obtain ⟨s1, s2, s3, s4, s5, s6, s7, s8⟩ := l_sp
    obtain ⟨w1, w2⟩ := name_w (hk x List.mem_cons_self)
    rw [join_two] at ht ⊢
    rw [app_len, app_len, c9] at ht
    obtain ⟨th, h1, h2⟩ := tks_hid (hs := y :: r) (List.cons_ne_nil _ _) (fun s hs => hk s (List.mem_cons_of_mem _ hs)) (rest := rest) (p := p + x.length + 2) (ts := ts) (by
      rwa [show p + (x.length + 2 + (Str.join (Str.ofString ", ") (y :: r)).length) + 1 = p + x.length + 2 + (Str.join (Str.ofString ", ") (y :: r)).length + 1 by omega] at ht)
    have t0 := Tks.sp (p := p + x.length + 1) h1
    have t1 : Tks (("," : Str).cps.toList ++ _) (p + x.length) (⟨",", ",", p + x.length⟩ :: (th ++ ts)) := tks_sgn c5 (by rw [c7]; exact t0)
    have t2 := tks_word w1 (rest := ("," : Str).cps.toList ++ _) (by rw [c3]; exact s8) t1
    rw [if_neg w2, c3] at t2
    refine ⟨⟨"name", x, p⟩ :: ⟨",", ",", p + x.length⟩ :: th, ?_, fun ts' => .more rfl rfl (h2 ts')⟩
    rw [toL_app, toL_app, c1]
    simpa using t2
theorem head_q : ∀ {f : Fm}, Okf f → ∃ x r, tkF f = x :: r ∧ ¬ x.1 ∈ (["exists", "forall"] : List Str)
  | .c0 k, h => ⟨(k, k), [], rfl, by
    rcases h with h | h
    · rw [h]; decide +kernel
    · rw [h]; decide +kernel⟩
  | .sg s, h => ⟨("name", s), [], rfl, by
    show ¬ ("name" : Str) ∈ _
    decide +kernel⟩
  | .un k f, h => ⟨(psg k, psg k), tkF f, rfl, (show ∀ k ∈ unOps, ¬ psg k ∈ (["exists", "forall"] : List Str) by decide +kernel) k h.1⟩
  | .bin k f g, h => ⟨("(", "("), _, rfl, by
    show ¬ ("(" : Str) ∈ _
    decide +kernel⟩
theorem q_cst : ∀ k ∈ (["exists", "forall"] : List Str), wholeW k.cps.toList = true ∧ resW k = true := by decide +kernel
theorem rda_pr {p : Pr} (h : Okp p) {n : Nat} (hn0 : 6 * pdp (foP p) ≤ n) : ∃ ts, Tks (prP p).cps.toList 0 ts ∧ Rda (n + 6) ts (quP p) (hdP p) (foP p) := by
  cases p with
  | f f =>
    have h : Okf f := h
    obtain ⟨tf, h1, h2⟩ := tks_pr h (rest := []) (p := 0) (ts := [⟨"end", "", 0 + (prF f).length⟩]) trivial .nil
    rw [List.append_nil] at h1
    refine ⟨_, h1, ?_⟩
    obtain ⟨x, r, e1, e2⟩ := head_q h
    rw [e1] at h2
    obtain ⟨t, tr, et, e3, e4⟩ := List.map_eq_cons_iff.mp h2
    have hr := rdf_pr h (n := n) hn0 (tf := tf) (t := ⟨"end", "", 0 + (prF f).length⟩) (r := []) (by rw [h2, e1]) rfl
    rw [et] at hr ⊢
    exact ⟨t, ⟨"end", "", 0 + (prF f).length⟩, tr ++ [⟨"end", "", 0 + (prF f).length⟩], rfl, rfl, .inl ⟨by rw [show t.k = x.1 from congrArg Prod.fst e3]; exact e2, rfl, rfl, [], hr⟩⟩
  | q k hs f =>
    obtain ⟨hk, hne, hn, hf⟩ := h
    obtain ⟨c1, c2, c3, c4, c5, c6, c7, c8, c9, c10⟩ := l_cm
    obtain ⟨s1, s2, s3, s4, s5, s6, s7, s8⟩ := l_sp
    obtain ⟨q1, q2⟩ := q_cst k hk
    generalize hP : k.length + 1 + (Str.join (Str.ofString ", ") hs).length + 2 = P
    obtain ⟨tf, h1, h2⟩ := tks_pr hf (rest := []) (p := P) (ts := [⟨"end", "", P + (prF f).length⟩]) trivial .nil
    rw [List.append_nil] at h1
    obtain ⟨th, t1, t2⟩ := tks_hid hne hn (rest := 32 :: (prF f).cps.toList) (p := k.length + 1) (ts := tf ++ [⟨"end", "", P + (prF f).length⟩]) (.sp (by rw [show k.length + 1 + (Str.join (Str.ofString ", ") hs).length + 1 + 1 = P by omega]; exact h1))
    have t3 := Tks.sp (p := k.length) t1
    have t4 := tks_word q1 (rest := 32 :: _) (p := 0) s5 (by rw [Nat.zero_add]; exact t3)
    rw [if_pos q2] at t4
    refine ⟨⟨k, k, 0⟩ :: (th ++ (tf ++ [⟨"end", "", P + (prF f).length⟩])), ?_, ?_⟩
    · have e : (prP (.q k hs f)).cps.toList = k.cps.toList ++ 32 :: ((Str.join (Str.ofString ", ") hs).cps.toList ++ 58 :: 32 :: (prF f).cps.toList) := by
        show (k ++ Str.ofString " " ++ Str.join (Str.ofString ", ") hs ++ Str.ofString ": " ++ prF f).cps.toList = _
        rw [toL_app, toL_app, toL_app, toL_app, s1, c2]
        simp
      rw [e]
      exact t4
    · exact ⟨⟨k, k, 0⟩, ⟨"end", "", P + (prF f).length⟩, _, rfl, rfl, .inr ⟨hk, rfl, _, [], t2 _, rdf_pr hf (n := n) hn0 h2 rfl⟩⟩
theorem chn_len {R : List Tk → Fm → List Tk → Prop} {l : Nat} {ts r : List Tk} {ops : List Str} {fs : List Fm} (h : Chn R l ts ops fs r) : ops.length = fs.length := by
  induction h with
  | nil _ => rfl
  | cons _ _ _ _ ih => rw [List.length_cons, List.length_cons, ih]
theorem lev_kn : ∀ l ∈ [0, 1, 2, 3, 4], ∀ s ∈ levL.getD l [], (knd infL s).isSome = true := by decide +kernel
theorem chn_kn {R : List Tk → Fm → List Tk → Prop} {l : Nat} (hl : l < 5) {ts r : List Tk} {ops : List Str} {fs : List Fm} (h : Chn R l ts ops fs r) : ∀ s ∈ ops, (knd infL s).isSome = true := by
  induction h with
  | nil _ => intro s hs; cases hs
  | cons h1 h2 _ _ ih =>
    intro s hs
    rcases List.mem_cons.mp hs with e | e
    · rw [e, h2]; exact lev_kn l (lt5 hl) _ h1
    · exact ih s e
/-- the text gets no longer -/
theorem rd_sh {n : Nat} : ∀ {l : Nat} {ts : List Tk} {f : Fm} {r : List Tk}, RdF n l ts f r → r.length < ts.length := by
  have atm : ∀ {R : List Tk → Fm → List Tk → Prop}, (∀ ts f r, R ts f r → r.length < ts.length) → ∀ {ts f r}, Atm R ts f r → r.length < ts.length := by
    intro R hR ts f r h
    cases ts with
    | nil => exact h.elim
    | cons t r1 =>
      rcases h with ⟨_, u, h2, _⟩ | ⟨_, _, _, rfl⟩ | ⟨_, _, _, _, rfl⟩
      · have := hR _ _ _ h2
        rw [List.length_cons] at this ⊢
        omega
      · exact Nat.lt_succ_self _
      · exact Nat.lt_succ_self _
  have una : ∀ {R : List Tk → Fm → List Tk → Prop}, (∀ ts f r, R ts f r → r.length < ts.length) → ∀ {ts ss g r}, Una R ts ss g r → r.length < ts.length := by
    intro R hR ts ss g r h
    induction h with
    | nil _ h2 => exact atm hR h2
    | cons _ _ _ ih => rw [List.length_cons]; omega
  have chn : ∀ {R : List Tk → Fm → List Tk → Prop} {l : Nat}, (∀ ts f r, R ts f r → r.length < ts.length) → ∀ {ts ops fs r}, Chn R l ts ops fs r → r.length + ops.length ≤ ts.length := by
    intro R l hR ts ops fs r h
    induction h with
    | nil _ => simp
    | cons _ _ h3 _ ih =>
      have := hR _ _ _ h3
      rw [List.length_cons, List.length_cons]
      omega
  induction n with
  | zero => intro l ts f r h; exact h.elim
  | succ n ih =>
    intro l ts f r h
    rcases h with ⟨_, ss, g, h2, _⟩ | ⟨_, f1, r1, ops, fs, h1, h2, _⟩
    · exact una (fun _ _ _ h => ih h) h2
    · have a := ih h1
      have b := chn (fun _ _ _ h => ih h) h2
      omega
theorem chn_sh {n m l : Nat} {ts r : List Tk} {ops : List Str} {fs : List Fm} (h : Chn (RdF n m) l ts ops fs r) : r.length + ops.length ≤ ts.length := by
  induction h with
  | nil _ => simp
  | cons _ _ h3 _ ih =>
    have := rd_sh h3
    rw [List.length_cons, List.length_cons]
    omega
theorem una_len {R : List Tk → Fm → List Tk → Prop} {ts : List Tk} {ss : List Str} {g : Fm} {r : List Tk} (h : Una R ts ss g r) : ss.length < ts.length := by
  induction h with
  | nil _ _ => exact Nat.succ_pos _
  | cons _ _ _ ih => exact Nat.succ_lt_succ ih
theorem una_ss {R : List Tk → Fm → List Tk → Prop} {ts : List Tk} {ss : List Str} {g : Fm} {r : List Tk} (h : Una R ts ss g r) : ∀ s ∈ ss, isPre s = true := by
  induction h with
  | nil _ _ => intro s hs; cases hs
  | cons h1 h2 _ ih =>
    intro s hs
    rcases List.mem_cons.mp hs with e | e
    · rw [e, h2]; exact h1
    · exact ih s e
/-! ### where the reader stops -/
def AtE (R : List Tk → Fm → List Tk → Prop) (RE : List Tk → Nat → Prop) : List Tk → Nat → Prop
  | [], _ => False
  | t :: r1, p => (t.k = "(" ∧ (RE r1 p ∨ ∃ f u r, R r1 f (u :: r) ∧ u.k ≠ ")" ∧ p = u.p)) ∨ (t.k ≠ "(" ∧ ¬ t.k ∈ (["true", "false"] : List Str) ∧ t.k ≠ "name" ∧ p = t.p)
inductive UnE (A : List Tk → Nat → Prop) : List Tk → Nat → Prop
  | nil {t : Tk} {ts : List Tk} {p : Nat} : isPre t.k = false → A (t :: ts) p → UnE A (t :: ts) p
  | cons {t : Tk} {ts : List Tk} {p : Nat} : isPre t.k = true → UnE A ts p → UnE A (t :: ts) p
inductive ChE (R : List Tk → Fm → List Tk → Prop) (RE : List Tk → Nat → Prop) (l : Nat) : List Tk → Nat → Prop
  | here {t : Tk} {r1 : List Tk} {p : Nat} : t.k ∈ levL.getD l [] → RE r1 p → ChE R RE l (t :: r1) p
  | more {t : Tk} {r1 r2 : List Tk} {f : Fm} {p : Nat} : t.k ∈ levL.getD l [] → R r1 f r2 → ChE R RE l r2 p → ChE R RE l (t :: r1) p
def RdE : Nat → Nat → List Tk → Nat → Prop
  | 0, _, _, _ => False
  | n + 1, l, ts, p => (l = 5 ∧ UnE (AtE (RdF n 0) (RdE n 0)) ts p) ∨ (l < 5 ∧ (RdE n (l + 1) ts p ∨ ∃ f1 r1, RdF n (l + 1) ts f1 r1 ∧ ChE (RdF n (l + 1)) (RdE n (l + 1)) l r1 p))
inductive HiE : List Tk → Nat → Prop
  | nm {t : Tk} {r : List Tk} : t.k ≠ "name" → HiE (t :: r) t.p
  | sep {t u : Tk} {r : List Tk} : t.k = "name" → u.k ≠ "," → u.k ≠ ":" → HiE (t :: u :: r) u.p
  | more {t u : Tk} {r : List Tk} {p : Nat} : t.k = "name" → u.k = "," → HiE r p → HiE (t :: u :: r) p
def RlE (n : Nat) (ts : List Tk) (p : Nat) : Prop := RdE n 0 ts p ∨ ∃ f u r, RdF n 0 ts f (u :: r) ∧ u.k ≠ "end" ∧ p = u.p
def RaE (n : Nat) (ts : List Tk) (p : Nat) : Prop := ∃ (t : Tk) (r : List Tk), ts = t :: r ∧ ((¬ t.k ∈ (["exists", "forall"] : List Str) ∧ RlE n ts p) ∨ (t.k ∈ (["exists", "forall"] : List Str) ∧ (HiE r p ∨ ∃ hs r1, Hid r hs r1 ∧ RlE n r1 p)))
/-- a token as the text makes it -/
def Tg (t : Tk) : Prop := t.k ≠ "name" → t.k ≠ "end" → t.k ≠ "bad" → t.c = t.k
inductive WT : List Tk → Prop
  | last {t : Tk} : t.k = "end" ∨ t.k = "bad" → WT [t]
  | cons {t : Tk} {r : List Tk} : t.k ≠ "end" → t.k ≠ "bad" → Tg t → WT r → WT (t :: r)
abbrev infK : List Str := ["<->", "->", "|", "&", "U", "W", "R", "S", "T"]
abbrev atmK : List Str := ["name", "true", "false"]
/-- the tokens one by one: is an operand wished for, how many parentheses are open -/
def fa : Bool → Nat → List Tk → Int
  | _, _, [] => -1
  | true, k, t :: r => if t.k ∈ atmK then fa false k r else if t.k = "(" then fa true (k + 1) r else if isPre t.k = true then fa true k r else t.p
  | false, k, t :: r => if t.k ∈ infK then fa true k r else if t.k = ")" ∧ 0 < k then fa false (k - 1) r else if t.k = "end" ∧ k = 0 then -1 else t.p
def hf : List Tk → Int
  | [] => -1
  | [t] => t.p
  | t :: u :: r => if t.k = "name" then (if u.k = ":" then fa true 0 r else if u.k = "," then hf r else u.p) else t.p
def pf : List Tk → Int
  | [] => -1
  | t :: r => if t.k ∈ (["exists", "forall"] : List Str) then hf r else fa true 0 (t :: r)
def np (ts : List Tk) : Nat := (ts.filter fun t : Tk => decide (t.k = ("(" : Str))).length
theorem np_cons (t : Tk) (r : List Tk) : np (t :: r) = (if t.k = "(" then 1 else 0) + np r := by
  unfold np
  by_cases c : t.k = "("
  · rw [List.filter_cons_of_pos (by simpa using c), if_pos c, List.length_cons]; omega
  · rw [List.filter_cons_of_neg (by simpa using c), if_neg c]; omega
theorem k_lev : ∀ l ∈ [0, 1, 2, 3, 4], ∀ s ∈ levL.getD l [], s ∈ infK ∧ s ≠ "end" ∧ s ≠ "bad" ∧ s ≠ "name" := by decide +kernel
theorem k_inf : ∀ s ∈ infK, ∃ l ∈ [0, 1, 2, 3, 4], s ∈ levL.getD l [] := by decide +kernel
theorem k_atm : ∀ s ∈ atmK, isPre s = false ∧ s ≠ "(" := by decide +kernel
theorem k_par : isPre "(" = false ∧ ¬ ("(" : Str) ∈ (["true", "false"] : List Str) ∧ ¬ ("(" : Str) ∈ atmK ∧ ("(" : Str) ≠ "end" ∧ ("(" : Str) ≠ "bad" ∧ ("end" : Str) ∉ infK ∧ ("end" : Str) ≠ ")" ∧ (")" : Str) ∉ infK ∧ (")" : Str) ≠ "end" ∧ (")" : Str) ≠ "bad" ∧ ("end" : Str) ≠ "bad" := by decide +kernel
theorem k_pre : ∀ s ∈ preL.map (fun p : Str × Str => p.2), s ≠ "(" ∧ s ∉ atmK ∧ s ≠ "end" ∧ s ≠ "bad" ∧ s ≠ "name" := by decide +kernel
theorem isPre_mem {s : Str} (h : isPre s = true) : s ∈ preL.map (fun p : Str × Str => p.2) := by
  unfold isPre knd at h
  cases e : preL.find? (fun p => decide (p.2 = s)) with
  | none => rw [e] at h; cases h
  | some p =>
    have h1 := List.find?_some e
    have h2 := List.mem_of_find?_eq_some e
    rw [← of_decide_eq_true h1]
    exact List.mem_map_of_mem h2
theorem WT.ne {ts : List Tk} (h : WT ts) : ts ≠ [] := by cases h <;> simp
theorem WT.tail {t : Tk} {r : List Tk} (h : WT (t :: r)) (h1 : t.k ≠ "end") (h2 : t.k ≠ "bad") : WT r ∧ Tg t := by
  cases h with
  | last h => exact (h.elim h1 h2).elim
  | cons _ _ g w => exact ⟨w, g⟩
/-- the rest, with what does not stand at its head -/
structure Aft (l : Nat) (k : Nat) (ts r : List Tk) : Prop where
  w : WT r
  np : np r ≤ np ts
  hd : ∀ t r', r = t :: r' → ∀ j, l ≤ j → j < 5 → ¬ t.k ∈ levL.getD j []
theorem tot_una {n : Nat} (ih : ∀ (ts : List Tk), WT ts → 6 * np ts + 6 ≤ n → (∃ f r, RdF n 0 ts f r ∧ WT r ∧ np r ≤ np ts ∧ (∀ t r', r = t :: r' → ¬ t.k ∈ infK) ∧ ∀ k, fa true k ts = fa false k r) ∨ (∃ p : Nat, RdE n 0 ts p ∧ ∀ k, fa true k ts = (p : Int))) :
    ∀ (ts : List Tk), WT ts → 6 * np ts ≤ n → (∃ ss g r, Una (RdF n 0) ts ss g r ∧ WT r ∧ np r ≤ np ts ∧ ∀ k, fa true k ts = fa false k r) ∨ (∃ p : Nat, UnE (AtE (RdF n 0) (RdE n 0)) ts p ∧ ∀ k, fa true k ts = (p : Int))
  | [], w, _ => (w.ne rfl).elim
  | t :: r, w, hn => by
    obtain ⟨p1, p2, p3, p4, p5, p6, p7, p8, p9, p10, p11⟩ := k_par
    have hnp := np_cons t r
    by_cases c1 : isPre t.k = true
    · obtain ⟨q1, q2, q3, q4, q5⟩ := k_pre _ (isPre_mem c1)
      obtain ⟨w2, g2⟩ := w.tail q3 q4
      rw [if_neg q1, Nat.zero_add] at hnp
      have e : ∀ k, fa true k (t :: r) = fa true k r := fun k => by
        conv => lhs; unfold fa
        rw [if_neg q2, if_neg q1, if_pos c1]
      rcases tot_una ih r w2 (by omega) with ⟨ss, g, r', h1, h2, h3, h4⟩ | ⟨p, h1, h2⟩
      · exact .inl ⟨t.c :: ss, g, r', .cons c1 (g2 q5 q3 q4) h1, h2, by omega, fun k => (e k).trans (h4 k)⟩
      · exact .inr ⟨p, .cons c1 h1, fun k => (e k).trans (h2 k)⟩
    have c1 : isPre t.k = false := by simpa using c1
    by_cases c2 : t.k = "("
    · obtain ⟨w2, g2⟩ := w.tail (by rw [c2]; exact p4) (by rw [c2]; exact p5)
      rw [if_pos c2] at hnp
      have e : ∀ k, fa true k (t :: r) = fa true (k + 1) r := fun k => by
        conv => lhs; unfold fa
        rw [if_neg (by rw [c2]; exact p3), if_pos c2]
      rcases ih r w2 (by omega) with ⟨f, r', h1, h2, h3, h5, h4⟩ | ⟨p, h1, h2⟩
      · cases r' with
        | nil => exact (h2.ne rfl).elim
        | cons u r' =>
          have hu := h5 u r' rfl
          by_cases c3 : u.k = ")"
          · obtain ⟨w3, _⟩ := h2.tail (by rw [c3]; exact p9) (by rw [c3]; exact p10)
            refine .inl ⟨[], f, r', .nil c1 (.inl ⟨c2, u, h1, c3⟩), w3, ?_, fun k => ?_⟩
            · have := np_cons u r'
              omega
            · rw [e, h4]
              conv => lhs; unfold fa
              rw [if_neg hu, if_pos ⟨c3, Nat.succ_pos _⟩]
              rfl
          · refine .inr ⟨u.p, .nil c1 (.inl ⟨c2, .inr ⟨f, u, r', h1, c3, rfl⟩⟩), fun k => ?_⟩
            rw [e, h4]
            conv => lhs; unfold fa
            rw [if_neg hu, if_neg (fun z => c3 z.1), if_neg (fun z => absurd z.2 (Nat.succ_ne_zero _))]
      · exact .inr ⟨p, .nil c1 (.inl ⟨c2, .inl h1⟩), fun k => (e k).trans (h2 _)⟩
    by_cases c3 : t.k ∈ atmK
    · have c3' : t.k = "name" ∨ t.k ∈ (["true", "false"] : List Str) := List.mem_cons.mp c3
      have ne : t.k ≠ "end" ∧ t.k ≠ "bad" := (show ∀ s ∈ atmK, s ≠ "end" ∧ s ≠ "bad" by decide +kernel) _ c3
      obtain ⟨w2, g2⟩ := w.tail ne.1 ne.2
      have e : ∀ k, fa true k (t :: r) = fa false k r := fun k => by
        conv => lhs; unfold fa
        rw [if_pos c3]
      by_cases c4 : t.k ∈ (["true", "false"] : List Str)
      · exact .inl ⟨[], .c0 t.c, r, .nil c1 (.inr (.inl ⟨c2, c4, rfl, rfl⟩)), w2, by omega, e⟩
      · exact .inl ⟨[], .sg t.c, r, .nil c1 (.inr (.inr ⟨c2, c4, c3'.resolve_right c4, rfl, rfl⟩)), w2, by omega, e⟩
    · have c4 : ¬ t.k ∈ (["true", "false"] : List Str) := fun z => c3 (List.mem_cons_of_mem _ z)
      refine .inr ⟨t.p, .nil c1 (.inr ⟨c2, c4, fun z => c3 (by rw [z]; simp), rfl⟩), fun k => ?_⟩
      conv => lhs; unfold fa
      rw [if_neg c3, if_neg c2, if_neg (by rw [c1]; exact Bool.false_ne_true)]
theorem tot_chn {n l : Nat} (hl : l < 5) (ih : ∀ (ts : List Tk), WT ts → 6 * np ts + 6 - (l + 1) ≤ n → (∃ f r, RdF n (l + 1) ts f r ∧ WT r ∧ np r ≤ np ts ∧ (∀ t r', r = t :: r' → ∀ j, l + 1 ≤ j → j < 5 → ¬ t.k ∈ levL.getD j []) ∧ ∀ k, fa true k ts = fa false k r) ∨ (∃ p : Nat, RdE n (l + 1) ts p ∧ ∀ k, fa true k ts = (p : Int))) :
    ∀ (m : Nat) (ts : List Tk), ts.length ≤ m → WT ts → 6 * np ts + 6 - (l + 1) ≤ n → (∀ t r', ts = t :: r' → ∀ j, l + 1 ≤ j → j < 5 → ¬ t.k ∈ levL.getD j []) →
      (∃ ops fs r, Chn (RdF n (l + 1)) l ts ops fs r ∧ WT r ∧ np r ≤ np ts ∧ (∀ t r', r = t :: r' → ∀ j, l ≤ j → j < 5 → ¬ t.k ∈ levL.getD j []) ∧ ∀ k, fa false k ts = fa false k r) ∨ (∃ p : Nat, ChE (RdF n (l + 1)) (RdE n (l + 1)) l ts p ∧ ∀ k, fa false k ts = (p : Int))
  | 0, ts, hm, w, _, _ => (w.ne (List.length_eq_zero_iff.mp (Nat.le_zero.mp hm))).elim
  | m + 1, ts, hm, w, hn, hd => by
    cases ts with
    | nil => exact (w.ne rfl).elim
    | cons t r =>
      by_cases c : t.k ∈ levL.getD l []
      · obtain ⟨q1, q2, q3, q4⟩ := k_lev l (lt5 hl) _ c
        obtain ⟨w2, g2⟩ := w.tail q2 q3
        have hnp := np_cons t r
        have e : ∀ k, fa false k (t :: r) = fa true k r := fun k => by
          conv => lhs; unfold fa
          rw [if_pos q1]
        rcases ih r w2 (by split at hnp <;> omega) with ⟨f, r2, h1, h2, h3, h5, h4⟩ | ⟨p, h1, h2⟩
        · have hs := rd_sh h1
          rw [List.length_cons] at hm
          rcases tot_chn hl ih m r2 (by omega) h2 (by split at hnp <;> omega) h5 with ⟨ops, fs, r3, k1, k2, k3, k4, k5⟩ | ⟨p, k1, k2⟩
          · exact .inl ⟨t.c :: ops, f :: fs, r3, .cons c (g2 q4 q2 q3) h1 k1, k2, by split at hnp <;> omega, k4, fun k => by rw [e, h4, k5]⟩
          · exact .inr ⟨p, .more c h1 k1, fun k => by rw [e, h4, k2]⟩
        · exact .inr ⟨p, .here c h1, fun k => (e k).trans (h2 k)⟩
      · refine .inl ⟨[], [], t :: r, .nil c, w, Nat.le_refl _, fun t' r' e j h1 h2 => ?_, fun k => rfl⟩
        by_cases z : j = l
        · cases e
          rw [z]
          exact c
        · exact hd t' r' e j (by omega) h2
theorem tot_rd : ∀ (n l : Nat), l ≤ 5 → ∀ (ts : List Tk), WT ts → 6 * np ts + 6 - l ≤ n → (∃ f r, RdF n l ts f r ∧ WT r ∧ np r ≤ np ts ∧ (∀ t r', r = t :: r' → ∀ j, l ≤ j → j < 5 → ¬ t.k ∈ levL.getD j []) ∧ ∀ k, fa true k ts = fa false k r) ∨ (∃ p : Nat, RdE n l ts p ∧ ∀ k, fa true k ts = (p : Int))
  | 0, l, hl, ts, w, hn => by omega
  | n + 1, l, hl, ts, w, hn => by
    by_cases c : l = 5
    · subst c
      have ih : ∀ (ts : List Tk), WT ts → 6 * np ts + 6 ≤ n → (∃ f r, RdF n 0 ts f r ∧ WT r ∧ np r ≤ np ts ∧ (∀ t r', r = t :: r' → ¬ t.k ∈ infK) ∧ ∀ k, fa true k ts = fa false k r) ∨ (∃ p : Nat, RdE n 0 ts p ∧ ∀ k, fa true k ts = (p : Int)) := fun ts w h => by
        rcases tot_rd n 0 (Nat.zero_le _) ts w h with ⟨f, r, h1, h2, h3, h4, h5⟩ | h1
        · refine .inl ⟨f, r, h1, h2, h3, fun t r' e hk => ?_, h5⟩
          obtain ⟨j, hj, hm⟩ := k_inf _ hk
          exact h4 t r' e j (Nat.zero_le _) (by simp at hj; omega) hm
        · exact .inr h1
      rcases tot_una ih ts w (by omega) with ⟨ss, g, r, h1, h2, h3, h4⟩ | ⟨p, h1, h2⟩
      · exact .inl ⟨wrp ss g, r, .inl ⟨rfl, ss, g, h1, rfl⟩, h2, h3, fun t r' e j h1 h2 => by omega, h4⟩
      · exact .inr ⟨p, .inl ⟨rfl, h1⟩, h2⟩
    · have hl5 : l < 5 := by omega
      have ih := tot_rd n (l + 1) hl5
      rcases ih ts w (by omega) with ⟨f1, r1, h1, h2, h3, h4, h5⟩ | ⟨p, h1, h2⟩
      · rcases tot_chn hl5 ih r1.length r1 (Nat.le_refl _) h2 (by omega) h4 with ⟨ops, fs, r, k1, k2, k3, k4, k5⟩ | ⟨p, k1, k2⟩
        · exact .inl ⟨fld ops f1 fs, r, .inr ⟨hl5, f1, r1, ops, fs, h1, k1, rfl⟩, k2, by omega, k4, fun k => by rw [h5, k5]⟩
        · exact .inr ⟨p, .inr ⟨hl5, .inr ⟨f1, r1, h1, k1⟩⟩, fun k => by rw [h5, k2]⟩
      · exact .inr ⟨p, .inr ⟨hl5, .inl h1⟩, h2⟩
/-- a whole formula up to the end -/
theorem tot_rl {n : Nat} {ts : List Tk} (w : WT ts) (hn : 6 * np ts + 6 ≤ n) : (∃ f u r, RdF n 0 ts f (u :: r) ∧ u.k = "end" ∧ fa true 0 ts = -1) ∨ (∃ p : Nat, RlE n ts p ∧ fa true 0 ts = (p : Int)) := by
  obtain ⟨p1, p2, p3, p4, p5, p6, p7, p8, p9, p10, p11⟩ := k_par
  rcases tot_rd n 0 (Nat.zero_le _) ts w hn with ⟨f, r, h1, h2, h3, h4, h5⟩ | ⟨p, h1, h2⟩
  · cases r with
    | nil => exact (h2.ne rfl).elim
    | cons u r =>
      have hu : ¬ u.k ∈ infK := fun hk => by
        obtain ⟨j, hj, hm⟩ := k_inf _ hk
        exact h4 u r rfl j (Nat.zero_le _) (by simp at hj; omega) hm
      by_cases c : u.k = "end"
      · refine .inl ⟨f, u, r, h1, c, ?_⟩
        rw [h5]
        unfold fa
        rw [if_neg hu, if_neg (fun z => absurd z.2 (Nat.lt_irrefl _)), if_pos ⟨c, rfl⟩]
      · refine .inr ⟨u.p, .inr ⟨f, u, r, h1, c, rfl⟩, ?_⟩
        rw [h5]
        unfold fa
        rw [if_neg hu, if_neg (fun z => absurd z.2 (Nat.lt_irrefl _)), if_neg (fun z => c z.1)]
  · exact .inr ⟨p, .inl h1, h2 0⟩
theorem tot_hid {n : Nat} : ∀ {ts : List Tk}, WT ts → 6 * np ts + 6 ≤ n → (∃ hs r1 f u r, Hid ts hs r1 ∧ RdF n 0 r1 f (u :: r) ∧ u.k = "end" ∧ hf ts = -1) ∨ (∃ p : Nat, (HiE ts p ∨ ∃ hs r1, Hid ts hs r1 ∧ RlE n r1 p) ∧ hf ts = (p : Int))
  | [], w, _ => (w.ne rfl).elim
  | [t], w, _ => by
    have hne : t.k ≠ "name" := by
      cases w with
      | last h => rcases h with h | h <;> rw [h] <;> decide
      | cons _ _ _ w => exact (w.ne rfl).elim
    exact .inr ⟨t.p, .inl (.nm hne), rfl⟩
  | t :: u :: r, w, hn => by
    by_cases c : t.k = "name"
    · obtain ⟨w2, _⟩ := w.tail (by rw [c]; decide) (by rw [c]; decide)
      have n1 := np_cons t (u :: r)
      have n2 := np_cons u r
      have hnr : 6 * np r + 6 ≤ n := by split at n1 <;> split at n2 <;> omega
      by_cases c2 : u.k = ":"
      · obtain ⟨w3, _⟩ := w2.tail (by rw [c2]; decide) (by rw [c2]; decide)
        have e : hf (t :: u :: r) = fa true 0 r := by
          unfold hf
          rw [if_pos c, if_pos c2]
        rcases tot_rl w3 hnr with ⟨f, v, r', h1, h2, h3⟩ | ⟨p, h1, h2⟩
        · exact .inl ⟨[t.c], r, f, v, r', .one c c2, h1, h2, e.trans h3⟩
        · exact .inr ⟨p, .inr ⟨[t.c], r, .one c c2, h1⟩, e.trans h2⟩
      · by_cases c3 : u.k = ","
        · obtain ⟨w3, _⟩ := w2.tail (by rw [c3]; decide) (by rw [c3]; decide)
          have e : hf (t :: u :: r) = hf r := by
            conv => lhs; unfold hf
            rw [if_pos c, if_neg c2, if_pos c3]
          rcases tot_hid w3 hnr with ⟨hs, r1, f, v, r', h0, h1, h2, h3⟩ | ⟨p, h1, h2⟩
          · exact .inl ⟨t.c :: hs, r1, f, v, r', .more c c3 h0, h1, h2, e.trans h3⟩
          · refine .inr ⟨p, ?_, e.trans h2⟩
            rcases h1 with h1 | ⟨hs, r1, h3, h4⟩
            · exact .inl (.more c c3 h1)
            · exact .inr ⟨t.c :: hs, r1, .more c c3 h3, h4⟩
        · refine .inr ⟨u.p, .inl (.sep c c3 c2), ?_⟩
          unfold hf
          rw [if_pos c, if_neg c2, if_neg c3]
    · refine .inr ⟨t.p, .inl (.nm c), ?_⟩
      unfold hf
      rw [if_neg c]
theorem tot_all {n : Nat} {ts : List Tk} (w : WT ts) (hn : 6 * np ts + 6 ≤ n) : (∃ q hs f, Rda n ts q hs f ∧ pf ts = -1) ∨ (∃ p : Nat, RaE n ts p ∧ pf ts = (p : Int)) := by
  cases ts with
  | nil => exact (w.ne rfl).elim
  | cons t r =>
    by_cases c : t.k ∈ (["exists", "forall"] : List Str)
    · have ne : t.k ≠ "end" ∧ t.k ≠ "bad" := (show ∀ s ∈ (["exists", "forall"] : List Str), s ≠ "end" ∧ s ≠ "bad" by decide +kernel) _ c
      obtain ⟨w2, _⟩ := w.tail ne.1 ne.2
      have n1 := np_cons t r
      have e : pf (t :: r) = hf r := if_pos c
      rcases tot_hid (n := n) w2 (by split at n1 <;> omega) with ⟨hs, r1, f, u, r', h0, h1, h2, h3⟩ | ⟨p, h1, h2⟩
      · exact .inl ⟨t.c, hs, f, ⟨t, u, r, rfl, h2, .inr ⟨c, rfl, r1, r', h0, h1⟩⟩, e.trans h3⟩
      · exact .inr ⟨p, ⟨t, r, rfl, .inr ⟨c, h1⟩⟩, e.trans h2⟩
    · have e : pf (t :: r) = fa true 0 (t :: r) := if_neg c
      rcases tot_rl (n := n) w hn with ⟨f, u, r', h1, h2, h3⟩ | ⟨p, h1, h2⟩
      · exact .inl ⟨"", [], f, ⟨t, u, r, rfl, h2, .inl ⟨c, rfl, rfl, r', h1⟩⟩, e.trans h3⟩
      · exact .inr ⟨p, ⟨t, r, rfl, .inl ⟨c, h1⟩⟩, e.trans h2⟩
theorem op_inKD {X : Cx} {K : PySem.W.Frag} {w : World} {d : Addr} {es : Array DictEntry} {n : Nat} (h : X.K = K) (hw : X.w = w) (D : KDict K w d es n) :
    OpR X (compareOp .In) (fun x y H Q => ∃ (z : Str) (r : Option Value), x = .str z ∧ y = .ref d ∧ PySem.W.nsIn K d z = some r ∧ Q (.bl r.isSome) H) := by
  subst h
  subst hw
  exact op_in_kd D
theorem ix_KD {X : Cx} {K : PySem.W.Frag} {w : World} (h : X.K = K) (hw : X.w = w) : IxR X (rIxD K w) := by
  subst h
  subst hw
  exact ix_kdict
theorem gloP (T : Txt K mg w P) : ∃ aR : Addr, mg "PREFIX_SIGNS" = some (.ref aR) ∧ Kt7.KIt K w aR preL := T.er.2.2.2.1
theorem gloI (T : Txt K mg w P) : ∃ aI : Addr, mg "INFIX_SIGNS" = some (.ref aI) ∧ Kt7.KIt K w aI infL := T.er.2.2.2.2.1
theorem inC {σ : L2.St} {H : Hp} {p : Addr} {ss : List Str} {k : Str} {Q : VK} (h : SqT K H p (ss.map V.str)) (q : Q (.bl (decide (k ∈ ss))) H) : tC (V.ref p) σ H (fun y H2 => rIn K false (.str k) y H2 Q) := inq h q
theorem pr_len_un (k : Str) (f : Fm) : (prF f).length ≤ (prF (.un k f)).length := by
  show _ ≤ (psg k ++ prF f).length
  rw [app_len]
  omega
theorem pr_len_bin (k : Str) (f g : Fm) : (prF (.bin k f g)).length = 1 + (prF f).length + 1 + (isg k).length + 1 + (prF g).length + 1 := by
  obtain ⟨o1, o2, o3⟩ := l_one
  show (Str.ofString "(" ++ prF f ++ Str.ofString " " ++ isg k ++ Str.ofString " " ++ prF g ++ Str.ofString ")").length = _
  rw [app_len, app_len, app_len, app_len, app_len, app_len, o1, o2, o3]
theorem str_bin (a : Str) : Str.empty ++ a = a := by
  show (⟨Str.empty.cps ++ a.cps⟩ : Str) = a
  have : Str.empty.cps = #[] := by decide +kernel
  rw [this, Array.empty_append]
theorem un_cst : ∀ k ∈ unOps, ¬ k ∈ (["true", "false"] : List Str) ∧ preL.lookup k = some (psg k) := by decide +kernel
theorem bin_cst : ∀ k ∈ binOps, ¬ k ∈ (["true", "false"] : List Str) ∧ preL.lookup k = none ∧ infL.lookup k = some (isg k) := by decide +kernel
theorem kd_q : ∀ {f : Fm}, Okf f → ¬ kd f ∈ (["exists", "forall"] : List Str)
  | .c0 k, h => by
    show ¬ k ∈ _
    have h : k = "true" ∨ k = "false" := h
    rcases h with h | h
    · rw [h]; decide +kernel
    · rw [h]; decide +kernel
  | .sg s, h => by
    show ¬ sSig ∈ _
    decide +kernel
  | .un k f, h => (show ∀ k ∈ unOps, ¬ k ∈ (["exists", "forall"] : List Str) by decide +kernel) k h.1
  | .bin k f g, h => (show ∀ k ∈ binOps, ¬ k ∈ (["exists", "forall"] : List Str) by decide +kernel) k h.1
theorem q_len : ∀ k ∈ (["exists", "forall"] : List Str), k.length ≤ 6 := by decide +kernel
theorem sum_le {m : Nat} : ∀ {xs : List Str}, (∀ s ∈ xs, s.length ≤ m) → (xs.map (·.length)).sum ≤ xs.length * m
  | [], _ => Nat.zero_le _
  | x :: xs, h => by
    rw [List.map_cons, List.sum_cons, List.length_cons]
    have h1 := h x List.mem_cons_self
    have h2 := sum_le (xs := xs) fun s hs => h s (List.mem_cons_of_mem _ hs)
    rw [Nat.add_mul, Nat.one_mul]
    omega
theorem join_le (xs : List Str) (h1 : xs.length ≤ 10) (h2 : ∀ s ∈ xs, s.length ≤ 100) : (Str.join (Str.ofString ", ") xs).length ≤ 1020 := by
  have hjl := StrLaws.join_length_le (Str.ofString ", ") xs
  have hs := sum_le h2
  have hz : (Str.ofString ", ").length = 2 := l_cm.2.2.2.2.2.2.2.2.1
  rw [hz] at hjl
  have : xs.length * 100 ≤ 1000 := by omega
  omega
abbrev VN (n : Nat) : V := .int (n : Int)
theorem nw {H H1 : Hp} {p : Addr} {o : HO} (hp : H p = none) (e : upd H p o = H1) : Same H H1 ∧ H1 p = some o := e ▸ ⟨same_new hp, upd_same⟩
theorem mw {H0 H H1 : Hp} {p : Addr} {o : HO} (s : Same H0 H) (hp : H0 p = none) (e : upd H p o = H1) : Same H0 H1 ∧ H1 p = some o ∧ ∀ q, q ≠ p → H1 q = H q := e ▸ ⟨fun b x hb => by
  rw [upd_ne (ne_of_none hb hp)]
  exact s _ _ hb, upd_same, fun q hq => upd_ne hq⟩
theorem mwt {H H1 : Hp} {p : Addr} {o : HO} {l : List V} (h : H p = some (.lst l)) (e : upd H p o = H1) : ∀ b xs, H b = some (.tup xs) → H1 b = some (.tup xs) := e ▸ fun b xs hb => by
  rw [upd_ne (fun z => by rw [z, h] at hb; cases hb)]
  exact hb
theorem iteB_t {c : Bool} {A B : Prop} (e : c = true) (h : A) : if c = true then A else B := by rw [if_pos e]; exact h
theorem iteB_f {c : Bool} {A B : Prop} (e : c = false) (h : B) : if c = true then A else B := by rw [if_neg (by rw [e]; exact Bool.false_ne_true)]; exact h
theorem snocg {α : Type} {xs : List α} {x y : α} {j : Nat} (h : (xs ++ [x])[j]? = some y) : (j < xs.length ∧ xs[j]? = some y) ∨ (j = xs.length ∧ y = x) := by
  rcases Nat.lt_or_ge j xs.length with c | c
  · rw [List.getElem?_append_left c] at h
    exact .inl ⟨c, h⟩
  · rw [List.getElem?_append_right c] at h
    have e : j - xs.length = 0 := by
      cases e : j - xs.length with
      | zero => rfl
      | succ n => rw [e] at h; cases h
    rw [e] at h
    exact .inr ⟨by omega, (Option.some.inj h).symm⟩
theorem nats_get {xs : List Nat} {j : Nat} {y : V} (h : (xs.map VN)[j]? = some y) : ∃ t, xs[j]? = some t ∧ y = VN t := by
  rw [List.getElem?_map] at h
  cases e : xs[j]? with
  | none => rw [e] at h; cases h
  | some t => rw [e] at h; exact ⟨t, rfl, (Option.some.inj h).symm⟩
theorem refsg {as : List Addr} {i : Nat} {v : V} (h : (as.map V.ref)[i]? = some v) : ∃ a, as[i]? = some a ∧ v = .ref a := by
  rw [List.getElem?_map] at h
  cases e : as[i]? with
  | none => rw [e] at h; cases h
  | some z => rw [e] at h; exact ⟨z, rfl, (Option.some.inj h).symm⟩
theorem mapg {α β : Type} {f : α → β} {xs : List α} {i : Nat} {y : β} (h : (xs.map f)[i]? = some y) : ∃ x, xs[i]? = some x ∧ y = f x := by
  rw [List.getElem?_map] at h
  cases e : xs[i]? with
  | none => rw [e] at h; cases h
  | some z => rw [e] at h; exact ⟨z, rfl, (Option.some.inj h).symm⟩
theorem atN {α : Type} {f : α → V} {xs : List α} {i : Nat} {x : α} (h : xs[i]? = some x) : atI (xs.map f) (i : Int) = some (f x) := atI_nat (by rw [List.getElem?_map, h]; rfl)
theorem lt_of_get {α : Type} {xs : List α} {i : Nat} {x : α} (h : xs[i]? = some x) : i < xs.length := (List.getElem?_eq_some_iff.mp h).1
theorem Same_fr {H H' : Hp} {p : Addr} (s : Same H H') (h : H' p = none) : H p = none := by
  cases e : H p with
  | none => rfl
  | some o => rw [s _ _ e] at h; cases h
theorem find_at {α : Type} {p : α → Bool} : ∀ {l : List α} {i : Nat} {s : α}, l[i]? = some s → p s = true → (∀ j, j < i → ∀ u, l[j]? = some u → p u = false) → l.find? p = some s
  | [], i, s, h, _, _ => by simp at h
  | x :: l, 0, s, h, hp, _ => by
    cases h
    rw [List.find?_cons, hp]
  | x :: l, i + 1, s, h, hp, hn => by
    rw [List.find?_cons, hn 0 (Nat.succ_pos i) x rfl]
    exact find_at (i := i) (by simpa using h) hp fun j hj u hu => hn (j + 1) (Nat.succ_lt_succ hj) u (by simpa using hu)
theorem find_no {α : Type} {p : α → Bool} {l : List α} (h : ∀ j, j < l.length → ∀ u, l[j]? = some u → p u = false) : l.find? p = none :=
  List.find?_eq_none.mpr fun u hu z => by
    obtain ⟨j, hj⟩ := List.mem_iff_getElem?.mp hu
    rw [h j (lt_of_get hj) u hj] at z
    cases z
theorem cutS_mid (t : Str) (a m : Nat) (h : a ≤ t.length) : cutS t (some (a : Int)) (some ((a + m : Nat) : Int)) = ⟨((t.cps.toList.drop a).take m).toArray⟩ := by
  unfold cutS
  rw [HT.sIx_nat, HT.sIx_nat]
  rw [Nat.min_eq_left h]
  have hl := str_len t
  by_cases c : a + m ≤ t.length
  · rw [Nat.min_eq_left c]
    simp [List.take_drop, Nat.add_comm]
  · rw [Nat.min_eq_right (by omega)]
    rw [List.take_of_length_le (show (t.cps.toList.drop a).length ≤ m by rw [List.length_drop]; omega), List.take_of_length_le (show (t.cps.toList.drop a).length ≤ t.length - a by rw [List.length_drop]; omega)]
theorem mk_eq {l : List Nat} {s : Str} : (decide (V.str (⟨l.toArray⟩ : Str) = V.str s)) = decide (l = s.cps.toList) := by
  by_cases c : l = s.cps.toList
  · rw [decide_eq_true c]
    refine decide_eq_true ?_
    rw [c, Array.toArray_toList]
  · rw [decide_eq_false c]
    refine decide_eq_false fun z => c ?_
    have := V.str.inj z
    rw [← this]
def spTa (K : PySem.W.Frag) : Sp := fun vs H Q _ => ∃ (t : Str) (a : Nat), vs = [.str t, .int a] ∧ t.length ≤ 10000 ∧ a ≤ t.length ∧
  ∀ p, H p = none → Q (.ref p) (upd H p (.tup [.str (tokOf (t.cps.toList.drop a)).1, .str (tokOf (t.cps.toList.drop a)).2]))
theorem gloG (T : Txt K mg w P) : ∃ aG : Addr, GloT K mg "SIGNS" sgnL aG := by
  obtain ⟨⟨aQ, aN, aF, aP, aG, aA, _, _, _, _, g, _⟩, _⟩ := T.er
  exact ⟨aG, g⟩
theorem sgn_small : ∀ s ∈ sgnL, s.length ≤ 3 := by decide +kernel
theorem cal_ta (T : Txt K mg w P) : C8.Cal P w K mg base 2 "token_at" (spTa K) [] := by
  have C_word_at : C8.Cal P w K mg base 1 "word_at" spWat [] := cal_wat T
  have C_is_reserved : C8.Cal P w K mg base 1 "is_reserved" spRes [] := cal_res T
  obtain ⟨aG, gG⟩ := gloG T
  obtain ⟨f, fd, F, hm, hb⟩ := T.h_token_at
  refine ⟨f, fd, _, [], F.ok sc_token_at (fun vs H Q E h => ?_) (fun cdv A outer s H vs Q E hr h => ?_), hm, F.kp, hb, .nil⟩
  · obtain ⟨t, a, rfl, _⟩ := h
    rfl
  · obtain ⟨t, a, rfl, hz, ha, q⟩ := h
    refine ⟨_, (pss_cons
      (ps_for PassesOwn.never rfl (pi_tup (pe_glob (v := .ref aG) (by rfl) gG.g rfl)) (pg_name (i := 2) sc_token_at.nd rfl (.inl rfl)) (pss_one
      (ps_if (pt_cmpR op_eq (pe_slice sl_str (pv 0) (po_some (pv 1)) (po_some (pe_op op_add (pv 1) (pe_callB call_len_str (by rfl) T.z_len PySem.boot_len (pa_cons (pv 2) pa_nil))))) (pv 2) (nomark _)) (pss_one
      (ps_ret (pe_tup (pa_cons (pv 2) (pa_cons (pv 2) pa_nil))))) pss_nil)))
      (pss_cons
      (ps_set (i := 3) sc_token_at.nd rfl (Or.inl rfl) (C8.pe_c C_word_at hr (by decide) (by rfl) (pa_cons (pv 0) (pa_cons (pv 1) pa_nil))))
      (pss_cons
      (ps_if (pt_cmpR op_eq (pv 3) pe_str (nomark _)) (pss_one
      (ps_ret (pe_tup (pa_cons pe_str (pa_cons pe_str pa_nil))))) pss_nil)
      (pss_one
      (ps_ret (pe_tup (pa_cons (pe_ifExp (pt_val (C8.pe_c C_is_reserved hr (by decide) (by rfl) (pa_cons (pv 3) pa_nil))) (pv 3) pe_str) (pa_cons (pv 3) pa_nil)))))))), ?_⟩
    have big : (10000 : Nat) ≤ sizeLine := by decide
    have hz2 : t.length ≤ sizeLine := by omega
    refine ⟨aG, rfl, ⟨_, gG.q H⟩, for_tup (K := K) (a := aG) (xs := sgnL.map V.str) (fun i σ H' => ∃ v2 : Option V, σ = [some (.str t), some (.int a), v2, none] ∧ H' = H ∧ ∀ j, j < i → ∀ u, sgnL[j]? = some u → decide ((t.cps.toList.drop a).take u.length = u.cps.toList) = false)
      ⟨_, rfl, rfl, fun j hj => absurd hj (Nat.not_lt_zero j)⟩ (fun i σ H' _ _ => gG.q H') ?_ ?_⟩
    · rintro i v σ H' hi ⟨v2, rfl, rfl, hn⟩
      obtain ⟨u, hu, rfl⟩ := mapg hi
      have hus := sgn_small u (List.mem_of_getElem? hu)
      refine ⟨_, rfl, _, rfl, _, rfl, _, rfl, _, rfl, u, rfl, by omega, _, _, rfl, rfl, _, rfl, t, rfl, hz2, _, rfl, rfl, _, rfl, ?_⟩
      rw [show ((a : Int) + (u.length : Int)) = ((a + u.length : Nat) : Int) by push_cast; rfl, cutS_mid t a u.length ha, mk_eq]
      by_cases c : (t.cps.toList.drop a).take u.length = u.cps.toList
      · rw [decide_eq_true c]
        refine iteT ⟨_, rfl, _, rfl, by show 2 ≤ sizeLine; decide, fun p hp => ?_⟩
        have e : tokOf (t.cps.toList.drop a) = (u, u) := by
          unfold tokOf
          rw [find_at hu (decide_eq_true c) hn]
        have := q p hp
        rw [e] at this
        exact this
      · rw [decide_eq_false c]
        refine iteF ⟨_, rfl, rfl, fun j hj u' hu' => ?_⟩
        by_cases z : j = i
        · subst z
          rw [hu] at hu'
          cases hu'
          exact decide_eq_false c
        · exact hn j (by omega) u' hu'
    · rintro σ H' ⟨v2, rfl, rfl, hn⟩
      rw [List.length_map] at hn
      have hnone := find_no (p := fun s : Str => decide ((t.cps.toList.drop a).take s.length = s.cps.toList)) hn
      refine ⟨_, rfl, _, rfl, t, a, rfl, hz2, ha, fun e hw => ?_⟩
      have he := wlen_at hw
      rw [he, cutS_mid t a _ ha]
      refine ⟨_, rfl, rfl, _, rfl, ?_⟩
      rw [mk_eq]
      have hle := wlen_le true (t.cps.toList.drop a)
      by_cases c : wlen true (t.cps.toList.drop a) = 0
      · rw [c, List.take_zero, decide_eq_true (show ([] : List Nat) = ("" : Str).cps.toList by decide +kernel)]
        refine iteT ⟨by show 2 ≤ sizeLine; decide, fun p hp => ?_⟩
        have e : tokOf (t.cps.toList.drop a) = (("bad" : Str), ("" : Str)) := by
          unfold tokOf
          rw [hnone]
          dsimp only
          rw [if_pos c]
        have := q p hp
        rw [e] at this
        exact this
      · have hne : ¬ (t.cps.toList.drop a).take (wlen true (t.cps.toList.drop a)) = ("" : Str).cps.toList := fun z => by
          have := congrArg List.length z
          rw [List.length_take, Nat.min_eq_left hle, show (("" : Str).cps.toList).length = 0 by decide +kernel] at this
          exact c this
        rw [decide_eq_false hne]
        refine iteF ⟨_, rfl, _, rfl, _, rfl, ?_⟩
        have e : tokOf (t.cps.toList.drop a) = (if resW (⟨((t.cps.toList.drop a).take (wlen true (t.cps.toList.drop a))).toArray⟩ : Str) = true then (⟨((t.cps.toList.drop a).take (wlen true (t.cps.toList.drop a))).toArray⟩ : Str) else ("name" : Str), (⟨((t.cps.toList.drop a).take (wlen true (t.cps.toList.drop a))).toArray⟩ : Str)) := by
          unfold tokOf
          rw [hnone]
          dsimp only
          rw [if_neg c]
        rw [e] at q
        dsimp only at q
        generalize (⟨((t.cps.toList.drop a).take (wlen true (t.cps.toList.drop a))).toArray⟩ : Str) = wd at q ⊢
        by_cases r : resW wd = true
        · rw [if_pos r] at q
          exact iteB_t r ⟨_, rfl, _, rfl, by show 2 ≤ sizeLine; decide, q⟩
        · rw [if_neg r] at q
          exact iteB_f (eq_false_of_ne_true r) ⟨_, rfl, by show 2 ≤ sizeLine; decide, q⟩
/-- tokens as they lie -/
def TkA (H : Hp) (as : List Addr) (ts : List Tk) : Prop := as.length = ts.length ∧ ∀ (i : Nat) (a : Addr), as[i]? = some a → ∃ t : Tk, ts[i]? = some t ∧ H a = some (.tup [.str t.k, .str t.c, .int (t.p : Int)])
theorem TkA.tp {H H' : Hp} {as : List Addr} {ts : List Tk} (s : ∀ b xs, H b = some (.tup xs) → H' b = some (.tup xs)) (h : TkA H as ts) : TkA H' as ts := ⟨h.1, fun i a e => by
  obtain ⟨t, h1, h2⟩ := h.2 i a e
  exact ⟨t, h1, s _ _ h2⟩⟩
theorem TkA.snoc {H : Hp} {as : List Addr} {ts : List Tk} {a : Addr} {t : Tk} (h : TkA H as ts) (e : H a = some (.tup [.str t.k, .str t.c, .int (t.p : Int)])) : TkA H (as ++ [a]) (ts ++ [t]) := by
  refine ⟨by rw [List.length_append, List.length_append, h.1]; rfl, fun i x hx => ?_⟩
  rcases snocg hx with ⟨_, y⟩ | ⟨y1, y2⟩
  · obtain ⟨t', h1, h2⟩ := h.2 i x y
    exact ⟨t', by rw [List.getElem?_append_left (lt_of_get h1)]; exact h1, h2⟩
  · subst y2
    exact ⟨t, by rw [List.getElem?_append_right (by rw [y1, h.1]; exact Nat.le_refl _), y1, h.1, Nat.sub_self]; rfl, e⟩
def spSt : Sp := fun vs H Q _ => ∃ t : Str, vs = [.str t] ∧ t.length ≤ 10000 ∧ ∀ (H' : Hp) (p : Addr) (as : List Addr) (ts : List Tk), Same H H' → H' p = some (.lst (as.map V.ref)) → TkA H' as ts → Tks t.cps.toList 0 ts → ts.length ≤ 10001 → Q (.ref p) H'
theorem one_sp {c : Nat} : (decide (V.str (⟨#[c]⟩ : Str) = V.str " ")) = decide (c = 32) := by
  have := mk_eq (l := [c]) (s := " ")
  rw [show ([c].toArray) = #[c] from rfl] at this
  rw [this, l_sp.1]
  simp
theorem cal_st (T : Txt K mg w P) : C8.Cal P w K mg base 3 "split_tokens" spSt [] := by
  have C_token_at : C8.Cal P w K mg base 2 "token_at" (spTa K) [] := cal_ta T
  obtain ⟨f, fd, F, hm, hb⟩ := T.h_split_tokens
  refine ⟨f, fd, _, [], F.ok sc_split_tokens (fun vs H Q E h => ?_) (fun cdv A outer s H vs Q E hr h => ?_), hm, F.kp, hb, .nil⟩
  · obtain ⟨t, rfl, _⟩ := h
    rfl
  · obtain ⟨t, rfl, hz, q⟩ := h
    refine ⟨_, (pss_cons
      (ps_set (i := 1) sc_split_tokens.nd rfl (Or.inl rfl) (pe_lst pa_nil))
      (pss_cons
      (ps_set (i := 2) sc_split_tokens.nd rfl (Or.inl rfl) pe_int)
      (C8.pss_cut
      (ps_while PassesOwn.never (pt_cmpR op_lt (pv 2) (pe_callB call_len_str (by rfl) T.z_len PySem.boot_len (pa_cons (pv 0) pa_nil)) (nomark _)) (pss_cons
      (ps_if (pt_cmpR op_eq (pe_ix ix_str (pv 0) (pv 2) (fun _ _ => rfl)) pe_str (nomark _)) (pss_cons
      (ps_aug (i := 2) sc_split_tokens.nd rfl (.inl rfl) pe_int ip_add)
      (pss_one
      ps_continue)) pss_nil)
      (pss_cons
      (ps_asg (C8.pe_c C_token_at hr (by decide) (by rfl) (pa_cons (pv 0) (pa_cons (pv 2) pa_nil))) (pg_tup (by rfl) (pgs_cons (pg_name (i := 3) sc_split_tokens.nd rfl (.inl rfl)) (pgs_cons (pg_name (i := 4) sc_split_tokens.nd rfl (.inl rfl)) pgs_nil))))
      (pss_cons
      (ps_expr (pe_bm PySem.F.plainAttrs_list PySem.F.slot_list_append PySem.F.type_list_append mt_append (pv 1) (pa_cons (pe_tup (pa_cons (pv 3) (pa_cons (pv 4) (pa_cons (pv 2) pa_nil)))) pa_nil)))
      (pss_cons
      (ps_if (pt_cmpR op_eq (pv 3) pe_str (nomark _)) (pss_one
      (ps_ret (pv 1))) pss_nil)
      (pss_one
      (ps_aug (i := 2) sc_split_tokens.nd rfl (.inl rfl) (pe_callB call_len_str (by rfl) T.z_len PySem.boot_len (pa_cons (pv 4) pa_nil)) ip_add)))))))
      (pss_cons
      (ps_expr (pe_bm PySem.F.plainAttrs_list PySem.F.slot_list_append PySem.F.type_list_append mt_append (pv 1) (pa_cons (pe_tup (pa_cons pe_str (pa_cons pe_str (pa_cons (pe_callB call_len_str (by rfl) T.z_len PySem.boot_len (pa_cons (pv 0) pa_nil)) pa_nil)))) pa_nil)))
      (pss_one
      (ps_ret (pv 1))))))), ?_⟩
    have big : (10001 : Nat) < sizeLine := by decide
    have hz2 : t.length ≤ sizeLine := by omega
    have htl := str_len t
    refine ⟨Nat.zero_le _, fun D nD => ?_⟩
    generalize hX : upd H D _ = H1; obtain ⟨sH1, eD⟩ := nw nD hX; clear hX
    refine ⟨fun σ H' => ∃ (v3 v4 : Option V) (as : List Addr) (ts : List Tk), σ = [some (.str t), some (.ref D), some (.int (t.length : Int)), v3, v4] ∧ Same H H' ∧ H' D = some (.lst (as.map V.ref)) ∧ TkA H' as ts ∧ ts.length ≤ t.length ∧ ∀ rem, Tks [] t.length rem → Tks t.cps.toList 0 (ts ++ rem), ?_, ?_⟩
    · refine ⟨fun m σ H' => ∃ (v3 v4 : Option V) (a : Nat) (as : List Addr) (ts : List Tk), m = t.length - a ∧ a ≤ t.length ∧ σ = [some (.str t), some (.ref D), some (.int (a : Int)), v3, v4] ∧ Same H H' ∧ H' D = some (.lst (as.map V.ref)) ∧ TkA H' as ts ∧ ts.length ≤ a ∧ ∀ rem, Tks (t.cps.toList.drop a) a rem → Tks t.cps.toList 0 (ts ++ rem),
        ⟨_, none, none, 0, [], [], rfl, Nat.zero_le _, rfl, sH1, eD, ⟨rfl, fun i a e => by (cases e)⟩, Nat.le_refl _, fun rem h => h⟩, ?_⟩
      rintro m σ H2 ⟨v3, v4, a, as, ts, rfl, ha, rfl, s2, e2, k2, l2, p2⟩
      refine ⟨_, rfl, _, rfl, t, rfl, hz2, _, _, rfl, rfl, _, rfl, ?_⟩
      by_cases hlt : a < t.length
      · rw [decide_eq_true (show (a : Int) < (t.length : Int) by omega)]
        refine iteB_t rfl ⟨_, fun _ _ h => h, ?_⟩
        obtain ⟨c, hc⟩ : ∃ c, t.cps.toList[a]? = some c := ⟨_, List.getElem?_eq_getElem (by rw [htl]; exact hlt)⟩
        have hat : atI t.cps.toList (a : Int) = some c := atI_nat hc
        have hdr : t.cps.toList.drop a = c :: t.cps.toList.drop (a + 1) := by
          rw [List.drop_eq_getElem_cons (by rw [htl]; exact hlt)]
          rw [List.getElem?_eq_getElem (by rw [htl]; exact hlt)] at hc
          rw [Option.some.inj hc]
        refine ⟨_, rfl, _, rfl, t, (a : Int), c, rfl, rfl, hz2, hat, rfl, _, rfl, ?_⟩
        rw [one_sp]
        by_cases csp : c = 32
        · rw [decide_eq_true csp]
          refine iteB_t rfl ⟨_, rfl, _, _, rfl, rfl, ?_⟩
          exact ⟨t.length - (a + 1), by omega, _, _, a + 1, as, ts, rfl, by omega, rfl, s2, e2, k2, by omega, fun rem h => p2 rem (by rw [hdr, csp]; exact .sp h)⟩
        · rw [decide_eq_false csp]
          refine iteB_f rfl ⟨_, rfl, _, rfl, t, a, rfl, hz, ha, fun p np => ?_⟩
          have hbd : (tokOf (t.cps.toList.drop a)).1 = "bad" → Tks (t.cps.toList.drop a) a [⟨"bad", (tokOf (t.cps.toList.drop a)).2, a⟩] := fun e => by
            rw [hdr] at e ⊢
            exact .bad csp e
          have hgo : (tokOf (t.cps.toList.drop a)).1 ≠ "bad" → 0 < (tokOf (t.cps.toList.drop a)).2.length ∧ a + (tokOf (t.cps.toList.drop a)).2.length ≤ t.length ∧ ∀ rem, Tks (t.cps.toList.drop (a + (tokOf (t.cps.toList.drop a)).2.length)) (a + (tokOf (t.cps.toList.drop a)).2.length) rem → Tks (t.cps.toList.drop a) a (⟨(tokOf (t.cps.toList.drop a)).1, (tokOf (t.cps.toList.drop a)).2, a⟩ :: rem) := fun e => by
            have h1 := tok_pos e
            rw [List.length_drop] at h1
            refine ⟨h1.1, by omega, fun rem h => ?_⟩
            rw [← List.drop_drop] at h
            rw [hdr] at e h ⊢
            exact .tok csp e h
          generalize (tokOf (t.cps.toList.drop a)).1 = k at hbd hgo ⊢
          generalize (tokOf (t.cps.toList.drop a)).2 = ch at hbd hgo ⊢
          generalize hX : upd H2 p _ = H3; obtain ⟨sH3, ep⟩ := nw np hX; clear hX
          refine ⟨p, _, rfl, .of ep, rfl, _, _, rfl, _, _, rfl, rfl, ?_⟩
          have e3 := sH3 _ _ e2
          refine ⟨_, rfl, .inl ⟨rfl, _, .of e3⟩, _, rfl, _, rfl, _, rfl, by show 3 ≤ sizeLine; decide, fun b nb => ?_⟩
          generalize hX : upd H3 b _ = H4; obtain ⟨sH4, eb⟩ := nw nb hX; clear hX
          have e4 := sH4 _ _ e3
          have k4 := k2.tp (H' := H4) (fun x xs e => sH4 _ _ (sH3 _ _ e))
          have s4 := (s2.trans sH3).trans sH4
          have nD4 : H D = none := nD
          refine ⟨D, _, _, rfl, rfl, e4, by rw [List.length_map, k2.1]; omega, ?_⟩
          have hkb : k = "bad" ∨ k ≠ "bad" := by
            by_cases z : k = "bad"
            · exact .inl z
            · exact .inr z
          have tpk : ∀ x xs, H4 x = some (.tup xs) → (upd H4 D (.lst (as.map V.ref ++ [.ref b]))) x = some (.tup xs) := fun x xs e => by rw [upd_ne (fun z => by rw [z, e4] at e; cases e)]; exact e
          have k5 := (k4.tp tpk).snoc (t := ⟨k, ch, a⟩) (tpk _ _ eb)
          have e5 : (upd H4 D (.lst (as.map V.ref ++ [.ref b]))) D = some (.lst ((as ++ [b]).map V.ref)) := by rw [upd_same, List.map_append]; rfl
          have s5 : Same H (upd H4 D (.lst (as.map V.ref ++ [.ref b]))) := fun x o e => by rw [upd_ne (ne_of_none e nD4)]; exact s4 _ _ e
          generalize upd H4 D (.lst (as.map V.ref ++ [.ref b])) = H5 at k5 e5 s5 ⊢
          refine ⟨_, rfl, rfl, _, rfl, ?_⟩
          rcases hkb with hk | hk
          · rw [decide_eq_true (by rw [hk])]
            refine iteB_t rfl ⟨_, rfl, q H5 D _ _ s5 e5 k5 (p2 _ (by rw [hk]; exact hbd hk)) ?_⟩
            rw [List.length_append, List.length_singleton]
            omega
          · rw [decide_eq_false (fun z => hk (V.str.inj z))]
            obtain ⟨g1, g2, g3⟩ := hgo hk
            refine iteB_f rfl ⟨_, rfl, _, rfl, ch, rfl, by omega, _, _, rfl, rfl, ?_⟩
            refine ⟨t.length - (a + ch.length), by omega, _, _, a + ch.length, as ++ [b], ts ++ [⟨k, ch, a⟩], rfl, g2, rfl, s5, e5, k5, ?_, fun rem h => ?_⟩
            · rw [List.length_append, List.length_singleton]
              omega
            · rw [List.append_assoc]
              exact p2 _ (g3 rem h)
      · rw [decide_eq_false (show ¬ (a : Int) < (t.length : Int) by omega)]
        obtain rfl : a = t.length := by omega
        refine iteB_f rfl ⟨_, _, as, ts, rfl, s2, e2, k2, l2, fun rem h => p2 rem ?_⟩
        rw [List.drop_of_length_le (by omega)]
        exact h
    · rintro σ H2 ⟨v3, v4, as, ts, rfl, s2, e2, k2, l2, p2⟩
      refine ⟨_, rfl, .inl ⟨rfl, _, .of e2⟩, _, rfl, t, rfl, hz2, by show 3 ≤ sizeLine; decide, fun b nb => ?_⟩
      generalize hX : upd H2 b _ = H3; obtain ⟨sH3, eb⟩ := nw nb hX; clear hX
      have e3 := sH3 _ _ e2
      refine ⟨D, _, _, rfl, rfl, e3, by rw [List.length_map, k2.1]; omega, ?_⟩
      have tpk : ∀ x xs, H3 x = some (.tup xs) → (upd H3 D (.lst (as.map V.ref ++ [.ref b]))) x = some (.tup xs) := fun x xs e => by rw [upd_ne (fun z => by rw [z, e3] at e; cases e)]; exact e
      have k5 := ((k2.tp (H' := H3) (fun x xs e => sH3 _ _ e)).tp tpk).snoc (t := ⟨"end", "", t.length⟩) (tpk _ _ eb)
      refine ⟨_, rfl, q _ D (as ++ [b]) (ts ++ [⟨"end", "", t.length⟩]) (fun x o e => by rw [upd_ne (ne_of_none e nD)]; exact sH3 _ _ (s2 _ _ e)) (by rw [upd_same, List.map_append]; rfl) k5 (p2 _ .nil) ?_⟩
      rw [List.length_append, List.length_singleton]
      omega
def ts (n : Int) : Str := Str.ofString (toString n)
theorem ts_len {n : Int} (h0 : 0 ≤ n) (h1 : n < 1000000000000000000) : (ts n).length ≤ 18 := toString_length_le h0 (by decide) h1
theorem log_lt {n : Int} (h0 : 0 ≤ n) (h1 : n < 1000000000000000000) : n.natAbs.log2 < 1920 := by
  have : n.natAbs < 2 ^ 1920 := by
    have : n.natAbs < 1000000000000000000 := by omega
    exact Nat.lt_of_lt_of_le this (Nat.le_trans (show 1000000000000000000 ≤ 2 ^ 60 by decide) (Nat.pow_le_pow_right (by decide) (by decide)))
  by_cases z : n.natAbs = 0
  · rw [z]; decide
  · exact (Nat.log2_lt z).mpr this
theorem join1 (s x : Str) : Txt.join s [x] = x := rfl
def spDec : Sp := fun vs H Q _ => ∃ n : Int, vs = [.int n] ∧ 0 ≤ n ∧ n < 1000000000000000000 ∧ ∀ H', Same H H' → Q (.str (ts n)) H'
theorem cal_dec {tk : Tok} (T : Txt K mg w P) (gPC : mg "PIECE" = some (.int 1000000000000000000 tk)) : C8.Cal P w K mg base 1 "decimal" spDec [] := by
  obtain ⟨f, fd, F, hm, hb⟩ := T.h_decimal
  refine ⟨f, fd, _, [], F.ok sc_decimal (fun vs H Q E h => ?_) (fun cdv A outer s H vs Q E hr h => ?_), hm, F.kp, hb, .nil⟩
  · obtain ⟨n, rfl, _⟩ := h
    rfl
  · obtain ⟨n, rfl, n0, n1, q⟩ := h
    refine ⟨_, (pss_cons
      (ps_set (i := 1) sc_decimal.nd rfl (Or.inl rfl) (pe_callB call_abs (by rfl) T.z_abs (by decide +kernel) (pa_cons (pv 0) pa_nil)))
      (pss_cons
      (ps_set (i := 2) sc_decimal.nd rfl (Or.inl rfl) (pe_lst pa_nil))
      (C8.pss_cut
      (ps_while PassesOwn.never (pt_cmpR op_ge (pv 1) (pe_glob (v := .int 1000000000000000000) (by rfl) gPC ⟨_, rfl⟩) (nomark _)) (pss_cons ps_never (pss_one ps_never)))
      (pss_cons
      (ps_expr (pe_bm PySem.F.plainAttrs_list PySem.F.slot_list_append PySem.F.type_list_append mt_append (pv 2) (pa_cons (pe_callTy call_str_int (by rfl) T.z_str (by decide +kernel) (pa_cons (pv 1) pa_nil)) pa_nil)))
      (C8.pss_cut
      (ps_if (pt_cmpR op_lt (pv 0) pe_int (nomark _)) (pss_one
      (ps_expr (pe_bm PySem.F.plainAttrs_list PySem.F.slot_list_append PySem.F.type_list_append mt_append (pv 2) (pa_cons pe_str pa_nil)))) pss_nil)
      (pss_one
      (ps_ret (pe_join pe_str (pe_revLK (K := K) rfl (pv 2)))))))))), ?_⟩
    refine ⟨_, rfl, n, rfl, ?_⟩
    rw [if_neg (by omega)]
    refine ⟨Nat.zero_le _, fun p hp => ?_⟩
    have s1 := same_new (o := .lst []) hp
    have e1 := upd_same (H := H) (a := p) (o := .lst [])
    generalize upd H p (.lst []) = H1 at s1 e1 ⊢
    refine ⟨fun σ H' => σ = [some (.int n), some (.int n), some (.ref p), none] ∧ H' = H1, ?_, ?_⟩
    · refine ⟨fun _ σ H' => σ = [some (.int n), some (.int n), some (.ref p), none] ∧ H' = H1, ⟨0, rfl, rfl⟩, ?_⟩
      rintro m σ H' ⟨rfl, rfl⟩
      refine ⟨_, rfl, _, _, rfl, rfl, _, rfl, ite2 (fun k => absurd (of_decide_eq_true k) (by omega)) (fun _ => ⟨rfl, rfl⟩)⟩
    rintro σ H' ⟨rfl, rfl⟩
    refine ⟨_, rfl, .inl ⟨rfl, _, .of e1⟩, _, rfl, n, rfl, log_lt n0 n1, p, _, _, rfl, rfl, e1, by decide, ?_⟩
    refine ⟨fun σ H2 => σ = [some (.int n), some (.int n), some (.ref p), none] ∧ H2 = upd H' p (.lst [.str (ts n)]), ?_, ?_⟩
    · refine ⟨_, rfl, _, _, rfl, rfl, _, rfl, ite2 (fun k => absurd (of_decide_eq_true k) (by omega)) (fun _ => ⟨rfl, rfl⟩)⟩
    rintro σ H2 ⟨rfl, rfl⟩
    refine ⟨⟨_, rfl⟩, _, rfl, p, _, rfl, .of upd_same, fun r hr' => ⟨_, r, [ts n], rfl, rfl, .inl (.of upd_same), ?_, ?_⟩⟩
    · have := ts_len n0 n1
      show (ts n).length + 0 + (0 + 1) * _ ≤ 16777216
      have e : (Str.ofString "").length = 0 := by decide +kernel
      rw [e]
      omega
    · refine q _ fun b o hb => ?_
      have hpb : b ≠ p := ne_of_none hb hp
      have hrb : b ≠ r := fun z => by rw [← z, upd_ne hpb, s1 _ _ hb] at hr'; cases hr'
      rw [upd_ne hrb, upd_ne hpb]
      exact s1 _ _ hb
structure Rd7 (K : PySem.W.Frag) (mg : Str → Option Value) (C fI fP fT fA fH fF fU fO : Addr) (fdI fdP fdT fdA fdH fdF fdU fdO : FuncData) : Prop where
  PC : RdrC K C
  MR : Mk K C fI
  gC : mg "Reader" = some (.ref C)
  gI : L2.Fun K "__init__" "Reader.__init__" s_Reader_init fI fdI
  bI : Binds K fdI ["self", "text"] []
  MP : Meth K C "peek" fP
  gP : L2.Fun K "peek" "Reader.peek" s_Reader_peek fP fdP
  bP : Binds K fdP ["self"] []
  MT : Meth K C "take" fT
  gT : L2.Fun K "take" "Reader.take" s_Reader_take fT fdT
  bT : Binds K fdT ["self", "kind"] []
  MA : Meth K C "read_all" fA
  gA : L2.Fun K "read_all" "Reader.read_all" s_Reader_read_all fA fdA
  bA : Binds K fdA ["self"] []
  MH : Meth K C "read_hidden" fH
  gH : L2.Fun K "read_hidden" "Reader.read_hidden" s_Reader_read_hidden fH fdH
  bH : Binds K fdH ["self"] []
  MF : Meth K C "read_formula" fF
  gF : L2.Fun K "read_formula" "Reader.read_formula" s_Reader_read_formula fF fdF
  bF : Binds K fdF ["self", "level"] []
  MU : Meth K C "read_unary" fU
  gU : L2.Fun K "read_unary" "Reader.read_unary" s_Reader_read_unary fU fdU
  bU : Binds K fdU ["self"] []
  MO : Meth K C "read_atom" fO
  gO : L2.Fun K "read_atom" "Reader.read_atom" s_Reader_read_atom fO fdO
  bO : Binds K fdO ["self"] []
theorem gloR (T : Txt K mg w P) : ∃ (C fI fP fT fA fH fF fU fO : Addr) (fdI fdP fdT fdA fdH fdF fdU fdO : FuncData), Rd7 K mg C fI fP fT fA fH fF fU fO fdI fdP fdT fdA fdH fdF fdU fdO := by
  obtain ⟨C, fI, fP, fT, fA, fH, fF, fU, fO, fdI, fdP, fdT, fdA, fdH, fdF, fdU, fdO, a1, a2, a3, a4, a5, a6, a7, a8, a9, a10, a11, a12, a13, a14, a15, a16, a17, a18, a19, a20, a21, a22, a23, a24, a25, a26⟩ := T.er.2.2.1
  exact ⟨C, fI, fP, fT, fA, fH, fF, fU, fO, fdI, fdP, fdT, fdA, fdH, fdF, fdU, fdO, a1, a2, a3, a4, a5, a6, a7, a8, a9, a10, a11, a12, a13, a14, a15, a16, a17, a18, a19, a20, a21, a22, a23, a24, a25, a26⟩
/-! tuples stay -/
theorem fm_tq {K : PySem.W.Frag} {H H' : Hp} (s : ∀ a xs, SqT K H a xs → SqT K H' a xs) : ∀ {f : Fm} {v : V}, FmAt K H v f → FmAt K H' v f
  | .c0 _, _, ⟨a, h1, h2⟩ => ⟨a, h1, s _ _ h2⟩
  | .sg _, _, ⟨a, h1, h2⟩ => ⟨a, h1, s _ _ h2⟩
  | .un _ _, _, ⟨a, x, h1, h2, h3⟩ => ⟨a, x, h1, s _ _ h2, fm_tq s h3⟩
  | .bin _ _ _, _, ⟨a, x, y, h1, h2, h3, h4⟩ => ⟨a, x, y, h1, s _ _ h2, fm_tq s h3, fm_tq s h4⟩
theorem fms_tq {K : PySem.W.Frag} {H H' : Hp} (s : ∀ a xs, SqT K H a xs → SqT K H' a xs) : ∀ {vs : List V} {fs : List Fm}, FmsAt K H vs fs → FmsAt K H' vs fs
  | [], [], _ => trivial
  | _ :: _, _ :: _, h => ⟨fm_tq s h.1, fms_tq s h.2⟩
theorem tq_kp {H H' : Hp} {x C dx : Addr} {fs : List (Str × V)} (hx : H x = some (.ins C dx fs)) (k : Kp x H H') : ∀ a xs, SqT K H a xs → SqT K H' a xs := fun a xs h => by
  have ne : ∀ {o : HO}, H a = some o → (∀ (c d : Addr) (f : List (Str × V)), o ≠ .ins c d f) → a ≠ x := fun e n z => by
    rw [z, hx] at e
    exact n _ _ _ (Option.some.inj e).symm
  rcases h with (h | ⟨o, h⟩) | h
  · exact .inl (.inl (k _ _ (ne h (fun _ _ _ z => by cases z)) h))
  · exact .inl (.inr ⟨o, k _ _ (ne h (fun _ _ _ z => by cases z)) h⟩)
  · exact .inr h
theorem tq_same {H H' : Hp} (s : Same H H') : ∀ a xs, SqT K H a xs → SqT K H' a xs := fun _ _ h => sqt_same s h
theorem tq_l {H H' : Hp} {d : Addr} {ys : List V} (hd : H d = some (.lst ys)) (k : Kp d H H') : ∀ a xs, SqT K H a xs → SqT K H' a xs := fun _ _ h => sqt_kp hd k h
/-- a reader at token i -/
structure Rs (C : Addr) (H : Hp) (x dx ta pa : Addr) (ts : List Tk) (i : Nat) : Prop where
  hx : H x = some (.ins C dx (rf ta (i : Int) pa))
  ht : ∃ as : List Addr, H ta = some (.lst (as.map V.ref)) ∧ TkA H as ts
  hp : H pa = some (.dK (preL.map fun p => ((Sum.inr p.2 : L2.Key), V.str p.1)))
theorem Rs.next {C x dx ta pa : Addr} {H H' : Hp} {ts : List Tk} {i j : Nat} (r : Rs C H x dx ta pa ts i) (k : Kp x H H') (e : H' x = some (.ins C dx (rf ta (j : Int) pa))) : Rs C H' x dx ta pa ts j := by
  obtain ⟨as, h1, h2⟩ := r.ht
  refine ⟨e, ⟨as, k _ _ (fun z => by rw [z, r.hx] at h1; cases h1) h1, h2.1, fun i a ha => ?_⟩, k _ _ (fun z => by have := r.hp; rw [z, r.hx] at this; cases this) r.hp⟩
  obtain ⟨t, q1, q2⟩ := h2.2 i a ha
  exact ⟨t, q1, k _ _ (fun z => by rw [z, r.hx] at q2; cases q2) q2⟩
theorem Rs.same {C x dx ta pa : Addr} {H H' : Hp} {ts : List Tk} {i : Nat} (r : Rs C H x dx ta pa ts i) (s : Same H H') : Rs C H' x dx ta pa ts i := r.next (Same.kp s) (s _ _ r.hx)
theorem Rs.lst {C x dx ta pa d : Addr} {H H' : Hp} {ts : List Tk} {i : Nat} (r : Rs C H x dx ta pa ts i) {ys : List V} (hd : H d = some (.lst ys)) (n : d ≠ ta) (k : Kp d H H') : Rs C H' x dx ta pa ts i := by
  obtain ⟨as, h1, h2⟩ := r.ht
  refine ⟨k _ _ (fun z => by have := r.hx; rw [z, hd] at this; cases this) r.hx, ⟨as, k _ _ n.symm h1, h2.1, fun i a ha => ?_⟩, k _ _ (fun z => by have := r.hp; rw [z, hd] at this; cases this) r.hp⟩
  obtain ⟨t, q1, q2⟩ := h2.2 i a ha
  exact ⟨t, q1, k _ _ (fun z => by rw [z, hd] at q2; cases q2) q2⟩
theorem drop_get {α : Type} {ts : List α} {i : Nat} {t : α} {r : List α} (h : ts.drop i = t :: r) : ts[i]? = some t ∧ ts.drop (i + 1) = r := by
  constructor
  · have : (ts.drop i)[0]? = some t := by rw [h]; rfl
    rwa [List.getElem?_drop, Nat.add_zero] at this
  · rw [← List.drop_drop, h]
    rfl
section
variable {C fI fP fT fA fH fF fU fO : Addr} {fdI fdP fdT fdA fdH fdF fdU fdO : FuncData}
def spPeek (C : Addr) : Sp := fun vs H Q _ => ∃ (x dx ta pa : Addr) (ts : List Tk) (i : Nat) (t : Tk), vs = [.ref x] ∧ Rs C H x dx ta pa ts i ∧ ts[i]? = some t ∧ Q (.str t.k) H
theorem ok_peek (R : Rd7 K mg C fI fP fT fA fH fF fU fO fdI fdP fdT fdA fdH fdF fdU fdO) : FnOk P w K mg base CX0 1 fP fdP ["self"] (spPeek C) := by
  have PC := R.PC
  refine R.gP.ok sc_Reader_peek (fun vs H Q E h => ?_) (fun cdv A outer s H vs Q E hr h => ?_)
  · obtain ⟨x, dx, ta, pa, ts, i, t, rfl, _⟩ := h
    rfl
  · obtain ⟨x, dx, ta, pa, ts, i, t, rfl, r, ht, q⟩ := h
    refine ⟨_, (pss_one
      (ps_ret (pe_ix (ix_tupK (K := K) rfl) (pe_ix (ix_listK (K := K) rfl) (pe_fld (pv 0) rfl) (pe_fld (pv 0) rfl) (fun _ _ => rfl)) pe_int (fun _ _ => rfl)))), ?_⟩
    obtain ⟨as, h1, h2⟩ := r.ht
    obtain ⟨a, ha⟩ : ∃ a, as[i]? = some a := ⟨_, List.getElem?_eq_getElem (by rw [h2.1]; exact lt_of_get ht)⟩
    obtain ⟨t', q1, q2⟩ := h2.2 i a ha
    rw [ht] at q1
    obtain rfl := Option.some.inj q1
    exact ⟨_, rfl, x, C, dx, _, _, rfl, r.hx, PC.cl, PC.nt, rl_t _ _ _, _, rfl, x, C, dx, _, _, rfl, r.hx, PC.cl, PC.na, rl_a _ _ _, ta, _, _, _, rfl, rfl, .of h1, atN ha, a, _, _, _, rfl, rfl, .of q2, rfl, q⟩
/-- the error with this position leaves -/
def XP (c : Addr) (p : Nat) (x : Addr) (H : Hp) (E : XK) : Prop := ∀ (H' : Hp) (d : Addr), Kp x H H' → H' d = some (.xd [("position", .int (p : Int))]) → E (.ref c) (some d) H'
theorem XP.mono {c : Addr} {p : Nat} {x : Addr} {H H1 : Hp} {E : XK} (q : XP c p x H E) (k : Kp x H H1) : XP c p x H1 E := fun H' d k' => q H' d (k.trans k')
def spZf (C : Addr) : Sp := fun vs H Q _ => ∃ (a : Addr) (p : Nat), vs = [.ref a, .int (p : Int)] ∧ p ≤ 1000000 ∧ H a = some (exo a C none) ∧ ∀ H1 d, Same H H1 → H1 d = none → d ≠ a → Q .non (upd (upd H1 d (exd d [("position", .int (p : Int))])) a (exo a C (some d)))
abbrev FSE (P : Program) (K : PySem.W.Frag) (mg : Str → Option Value) (cF f : Addr) (fd : FuncData) : Prop := Sup.InitK P K mg "FormulaSyntaxError" cF f "__init__" "FormulaSyntaxError.__init__" (defArgs s_FormulaSyntaxError_init) (defBody s_FormulaSyntaxError_init) (defScope s_FormulaSyntaxError_init) fd
/-- all about this error -/
structure FsE (P : Program) (K : PySem.W.Frag) (mg : Str → Option Value) (cF f : Addr) (fd : FuncData) : Prop where
  I : FSE P K mg cF f fd
  no : PySem.W.findIn K (.ref cF) "position" = some none
  pc : ∃ tk : Tok, mg "PIECE" = some (.int 1000000000000000000 tk)
theorem ok_zf {cF f : Addr} {fd : FuncData} (T : Txt K mg w P) (Z : FsE P K mg cF f fd) : FnOk P w K mg base CX0 3 f fd ["self", "position"] (spZf cF) := by
  obtain ⟨tk, hpc⟩ := Z.pc
  have C_decimal : C8.Cal P w K mg base 1 "decimal" spDec [] := cal_dec T hpc
  refine Z.I.ok sc_FormulaSyntaxError_init rfl rfl (fun en => rfl) (fun en => rfl) (fun en => rfl) (fun vs H Q E h => ?_) (fun cda cc A outer s H vs Q E hr h => ?_)
  · obtain ⟨a, p, rfl, _⟩ := h
    rfl
  · obtain ⟨a, p, rfl, hl, ha, q⟩ := h
    refine ⟨_, _, a, (pe_op op_add_str pe_str (C8.pe_c C_decimal hr (by decide) (by rfl) (pa_cons (pv 1) pa_nil))), (pss_one (ps_ost (pv 0) (pv 1))), rfl, ha, ?_⟩
    have big : (100000 : Nat) ≤ sizeLine := by decide
    have hw : (Str.ofString "no property goes on at position ").length = 32 := by decide +kernel
    refine ⟨_, rfl, (p : Int), rfl, by omega, by omega, fun H1 s1 => ?_⟩
    have h1 := ts_len (n := (p : Int)) (by omega) (by omega)
    refine ⟨_, _, rfl, rfl, by rw [hw]; omega, ?_⟩
    have ha1 := s1 _ _ ha
    exact ⟨ha1, _, rfl, _, rfl, a, cF, rfl, Z.I.T, Z.no, .inl ⟨ha1, fun d hd hne => q H1 d s1 hd hne⟩⟩
theorem mk_xp {C : Addr} {p : Nat} {x : Addr} {H1 : Hp} {E : XK} (hl : p ≤ 1000000) (q : XP C p x H1 E) : ∀ a, H1 a = none → spZf C (.ref a :: ([.int (p : Int)] ++ [])) (upd H1 a (exo a C none))
    (fun v H2 => v = .non ∧ ∃ (d : Addr) (fs : List (Str × V)), H2 a = some (exo a C (some d)) ∧ H2 d = some (exd d fs) ∧ H1 d = none ∧ E (.ref C) (some d) (upd (del H2 a) d (.xd fs))) (fun _ _ _ => False) := fun a na => by
  refine ⟨a, p, rfl, hl, upd_same, fun H2 d s2 hd hne => ?_⟩
  have hd1 := Same_fr s2 hd
  rw [upd_ne hne] at hd1
  refine ⟨rfl, d, [("position", .int (p : Int))], upd_same, by rw [upd_ne hne, upd_same], hd1, q _ d (fun b o _ hb => ?_) upd_same⟩
  have h1 := s2 b o (by rw [upd_ne (ne_of_none hb na)]; exact hb)
  rw [upd_ne (ne_of_none hb hd1), del_ne (ne_of_none hb na), upd_ne (ne_of_none hb na), upd_ne (ne_of_none hb hd1)]
  exact h1
def spTkX (C cF : Addr) : Sp := fun vs H Q E => ∃ (x dx ta pa : Addr) (ts : List Tk) (i : Nat) (t : Tk) (k : Str), vs = [.ref x, .str k] ∧ Rs C H x dx ta pa ts i ∧ ts[i]? = some t ∧ (t.k = k → ∀ H', Kp x H H' → Rs C H' x dx ta pa ts (i + 1) → Q (.str t.c) H') ∧ (t.k ≠ k → t.p ≤ 1000000 ∧ XP cF t.p x H E)
theorem ok_take {cF fE : Addr} {fdE : FuncData} (T : Txt K mg w P) (Z : FsE P K mg cF fE fdE) (R : Rd7 K mg C fI fP fT fA fH fF fU fO fdI fdP fdT fdA fdH fdF fdU fdO) : FnOk P w K mg base (L2.CX P w) 5 fT fdT ["self", "kind"] (spTkX C cF) := by
  have PC := R.PC
  have IF := Z.I
  have FF : FnOk P w K mg base CX0 3 fE fdE ["self", "position"] (spZf cF) := ok_zf T Z
  have bF : Binds K fdE ["self", "position"] [] := IF.binds fun _ _ _ _ _ _ _ us hl => match us, hl with | [_, _], _ => rfl
  refine R.gT.okX sc_Reader_take (fun vs H Q E h => ?_) (fun cdv A outer s H vs Q E hr h => ?_)
  · obtain ⟨x, dx, ta, pa, ts, i, t, k, rfl, _⟩ := h
    rfl
  · obtain ⟨x, dx, ta, pa, ts, i, t, k, rfl, r, ht, q, qe⟩ := h
    refine ⟨_, (pss_cons
      (ps_asg (pe_ix (ix_listK (K := K) rfl) (pe_fld (pv 0) rfl) (pe_fld (pv 0) rfl) (fun _ _ => rfl)) (pg_tup (by rfl) (pgs_cons (pg_name (i := 2) sc_Reader_take.nd rfl (.inl rfl)) (pgs_cons (pg_name (i := 3) sc_Reader_take.nd rfl (.inl rfl)) (pgs_cons (pg_name (i := 4) sc_Reader_take.nd rfl (.inl rfl)) pgs_nil)))))
      (pss_cons
      (ps_if (pt_cmpR op_ne (pv 2) (pv 1) (nomark _)) (pss_one
      (ps_raise rfl (takes_of rfl rfl rfl rfl) (pmk_oex IF.T IF.iC IF.tI FF (hr.mono (by omega)) bF .nil pass0 (by rfl) IF.gC (pa_cons (pv 4) pa_nil)))) pss_nil)
      (pss_cons
      (ps_fldaug (pv 0) pe_int in_add)
      (pss_one
      (ps_ret (pv 3)))))), ?_⟩
    obtain ⟨as, h1, h2⟩ := r.ht
    obtain ⟨a, ha⟩ : ∃ a, as[i]? = some a := ⟨_, List.getElem?_eq_getElem (by rw [h2.1]; exact lt_of_get ht)⟩
    obtain ⟨t', q1, q2⟩ := h2.2 i a ha
    rw [ht] at q1
    obtain rfl := Option.some.inj q1
    refine ⟨_, rfl, x, C, dx, _, _, rfl, r.hx, PC.cl, PC.nt, rl_t _ _ _, _, rfl, x, C, dx, _, _, rfl, r.hx, PC.cl, PC.na, rl_a _ _ _, ta, _, _, _, rfl, rfl, .of h1, atN ha, a, _, rfl, .of q2, rfl, _, _, rfl, _, _, rfl, _, _, rfl, rfl, ?_⟩
    refine ⟨_, rfl, _, rfl, rfl, _, rfl, ?_⟩
    by_cases c : t.k = k
    · rw [decide_eq_true (show V.str t.k = V.str k by rw [c])]
      refine iteB_f rfl ?_
      refine ⟨_, rfl, x, C, dx, _, _, rfl, r.hx, PC.cl, PC.na, rl_a _ _ _, _, _, rfl, rfl, dx, _, r.hx, by show 3 < 1000; decide, _, rfl, q c _ Kp.own (r.next Kp.own ?_)⟩
      rw [upd_same, rf_at]
      rfl
    · rw [decide_eq_false (fun z => c (V.str.inj z))]
      refine iteB_t rfl ?_
      exact ⟨_, rfl, by show 1 ≤ 1000; decide, mk_xp (qe c).1 (qe c).2⟩
def spRI (C : Addr) : Sp := fun vs H Q _ => ∃ (x dx : Addr) (t : Str), vs = [.ref x, .str t] ∧ H x = some (.ins C dx []) ∧ t.length ≤ 10000 ∧ ∀ (H' : Hp) (ta pa : Addr) (ts : List Tk), Kp x H H' → Rs C H' x dx ta pa ts 0 → Tks t.cps.toList 0 ts → ts.length ≤ 10001 → Q .non H'
theorem knd_nd : (preL.map (·.2)).Nodup ∧ (infL.map (·.2)).Nodup := by decide +kernel
abbrev swp (p : Str × Str) : L2.Key × V := (Sum.inr p.2, V.str p.1)
theorem val_swp {s : Str} : ∀ {kvs : List (Str × Str)}, valV (kvs.map swp) (Sum.inr s) = (knd kvs s).map V.str
  | [] => rfl
  | p :: r => by
    by_cases c : p.2 = s
    · subst c
      rw [List.map_cons, valV_pos rfl]
      unfold knd
      rw [List.find?_cons, decide_eq_true rfl]
      rfl
    · rw [List.map_cons, valV_neg (fun z => c (Sum.inr.inj z)), val_swp]
      unfold knd
      rw [List.find?_cons, decide_eq_false c]
theorem put_swp {kvs : List (Str × Str)} (hn : (kvs.map (·.2)).Nodup) {i : Nat} {k v : Str} (h : kvs[i]? = some (k, v)) : putK ((kvs.take i).map swp) (Sum.inr v) (V.str k) = (kvs.take (i + 1)).map swp := by
  have e : kvs.take (i + 1) = kvs.take i ++ [(k, v)] := by rw [List.take_add_one, h]; rfl
  have hno : knd (kvs.take i) v = none := by
    unfold knd
    rw [List.find?_eq_none.mpr]
    · rfl
    · intro p hp
      have hd : ((kvs.take i ++ [(k, v)]).map (·.2)).Nodup := by
        rw [← e]
        exact (List.Sublist.map _ (List.take_sublist _ _)).nodup hn
      rw [List.map_append, List.nodup_append] at hd
      have := hd.2.2 p.2 (List.mem_map_of_mem hp) v (by simp)
      simpa using this
  rw [putK_new _ (by rw [val_swp, hno]; rfl), e, List.map_append]
  rfl
theorem ok_rinit (T : Txt K mg w P) (R : Rd7 K mg C fI fP fT fA fH fF fU fO fdI fdP fdT fdA fdH fdF fdU fdO) : FnOk P w K mg base CX0 4 fI fdI ["self", "text"] (spRI C) := by
  have PC := R.PC
  have C_split_tokens : C8.Cal P w K mg base 3 "split_tokens" spSt [] := cal_st T
  obtain ⟨aR, gRg, gPR⟩ := gloP T
  refine R.gI.ok sc_Reader_init (fun vs H Q E h => ?_) (fun cdv A outer s H vs Q E hr h => ?_)
  · obtain ⟨x, dx, t, rfl, _⟩ := h
    rfl
  · obtain ⟨x, dx, t, rfl, hx, hz, q⟩ := h
    refine ⟨_, (pss_cons
      (ps_fld (pv 0) (C8.pe_c C_split_tokens hr (by decide) (by rfl) (pa_cons (pv 1) pa_nil)) rfl)
      (pss_cons
      (ps_fld (pv 0) pe_int rfl)
      (pss_one
      (ps_fld (pv 0) (pe_dc (own := [("kind", 2), ("sign", 3)]) (g := gTup K 2 (gCons (gName 2) (gCons (gName 3) gNil))) (tt := tYes) rfl sc_Reader_init.nd (Kt7.pi_kit (pe_glob (v := .ref aR) (by rfl) gRg rfl)) (blkOk_by (N := N_Reader_init) (sc := defScope s_Reader_init) (by decide +kernel)) (fun _ _ _ _ _ => (pg_tup (by rfl) (pgs_cons (pg_name (i := 2) sc_Reader_init.nd rfl (Or.inl rfl)) (pgs_cons (pg_name (i := 3) sc_Reader_init.nd rfl (Or.inl rfl)) pgs_nil)))) (fun _ _ _ _ _ => pts_nil) (fun _ _ _ _ _ => (pv 3)) (fun _ _ _ _ _ => (pv 2))) rfl)))), ?_⟩
    refine ⟨_, rfl, t, rfl, hz, fun H1 ta as ts s1 et hk htk hl => ?_⟩
    refine ⟨_, rfl, x, C, dx, _, rfl, s1 _ _ hx, PC.cl, PC.nt, by decide, ?_⟩
    refine ⟨_, rfl, x, C, dx, _, rfl, upd_same, PC.cl, PC.na, by show 1 < 1000; decide, ?_⟩
    have kB : Kp x H (upd (upd H1 x (.ins C dx (putF "tokens" (.ref ta) []))) x (.ins C dx (putF "at" (.int 0) (putF "tokens" (.ref ta) [])))) := ((Same.kp s1).trans Kp.own).trans Kp.own
    have kB1 : Kp x H1 (upd (upd H1 x (.ins C dx (putF "tokens" (.ref ta) []))) x (.ins C dx (putF "at" (.int 0) (putF "tokens" (.ref ta) [])))) := Kp.own.trans Kp.own
    have xB := upd_same (H := upd H1 x (.ins C dx (putF "tokens" (.ref ta) []))) (a := x) (o := .ins C dx (putF "at" (.int 0) (putF "tokens" (.ref ta) [])))
    generalize upd (upd H1 x (.ins C dx (putF "tokens" (.ref ta) []))) x (.ins C dx (putF "at" (.int 0) (putF "tokens" (.ref ta) []))) = HB at kB kB1 xB ⊢
    have etB := kB1 _ _ (fun z => by rw [z, s1 _ _ hx] at et; cases et) et
    have hkB : TkA HB as ts := hk.tp fun b xs e => kB1 _ _ (fun z => by rw [z, s1 _ _ hx] at e; cases e) e
    refine ⟨aR, preL, rfl, gPR, fun D nD => ⟨fun i m H' => m = 8 - i ∧ i ≤ 8 ∧ Same HB H' ∧ H' D = some (.dK ((preL.take i).map swp)), ⟨8, rfl, Nat.zero_le _, same_new nD, upd_same⟩, ?_⟩⟩
    rintro i m H2 ⟨rfl, hi, s2, e2⟩
    by_cases c : i < 8
    · refine .inr ⟨c, fun H' => Same HB H' ∧ H' D = some (.dK ((preL.take (i + 1)).map swp)), fun H' ⟨a, b⟩ => ⟨8 - (i + 1), by omega, rfl, by omega, a, b⟩, ?_⟩
      rintro _ _ ⟨p, k, v, hkv, rfl, np, rfl⟩
      generalize hX : upd H2 p _ = H3; obtain ⟨sH3, ep⟩ := nw np hX; clear hX
      have e3 := sH3 _ _ e2
      refine ⟨p, _, rfl, .of ep, rfl, _, _, rfl, _, _, rfl, rfl, rfl, ?_⟩
      dsimp only [tYes]
      rw [if_pos rfl]
      refine ⟨_, rfl, _, rfl, _, Sum.inr v, rfl, e3, ?_, ?_, ?_⟩
      · rw [List.length_map, List.length_take]
        exact Nat.lt_of_le_of_lt (show min i preL.length ≤ 8 by omega) (by decide)
      · exact fun b o e => by rw [upd_ne (ne_of_none e nD)]; exact sH3 _ _ (s2 _ _ e)
      · rw [upd_same, put_swp knd_nd.1 hkv]
    · obtain rfl : i = 8 := by omega
      refine .inl ⟨Nat.le_refl 8, ?_⟩
      refine ⟨_, rfl, x, C, dx, _, rfl, s2 _ _ xB, PC.cl, PC.np, by show 2 < 1000; decide, ?_⟩
      have kC : Kp x HB (upd H2 x (.ins C dx (putF "prefixes" (.ref D) (putF "at" (.int 0) (putF "tokens" (.ref ta) []))))) := (Same.kp s2).trans Kp.own
      have nDx : D ≠ x := fun z => by rw [z, xB] at nD; cases nD
      refine q _ ta D ts (kB.trans kC) ⟨upd_same, ⟨as, kC _ _ (fun z => by rw [z, xB] at etB; cases etB) etB, hkB.tp fun b xs e => kC _ _ (fun z => by rw [z, xB] at e; cases e) e⟩, ?_⟩ htk hl
      rw [upd_ne nDx, e2]
      rfl
end
/-! own rule: a dict comprehension given to a local name, on one line -/
theorem sw_dict {k v : Expr} {gens : List Comprehension} {sc : Scope} {p q : Pos} {x : Str} {ln : Nat} {en : Env} (a : en.scope.kind = .function) (b : en.scope.names.lookup x = some .local) (c : (q.line == p.line) = true)
    (d : (sc.names.any fun (m, kd) => m == x && (kd == .local || kd == .cell)) = false) : swapsWith (.DictComp k v gens sc p) (some (.Name x q)) ln en = pure true := by
  have e1 : en.kindOf x = some .local := b
  have e2 : en.blockKind = .function := by
    unfold Env.blockKind
    rw [a]
    rfl
  simp only [swapsWith, e1, e2, d, Expr.pos, c]
  rfl
theorem ps_setDc {X : Cx} {n : Nat} {x : Str} {q p sp : Pos} {kx vx tg iter : Expr} {ifs : List Expr} {sc : Scope} {own : List (Str × Nat)} {wi : TI} {g : TG} {tt : TT} {tk tv : TE} (hc : X.calm = true) (nd : X.N.Nodup) (hx : X.N[n]? = some x) (hl : X.env.scope.names.lookup x = some .local)
    (sw : swapsWith (.DictComp kx vx [⟨tg, iter, ifs, 0⟩] sc p) (some (.Name x q)) sp.line X.env = pure true) (hi : PI X tg iter wi) (ok : BlkOk X.N X.env.scope sc own)
    (hg : ∀ (s1 : Shared) (Hh : Hp) (Cc : Addr) (cs : List (Str × Addr)) (fs : List Addr), PG (X.blk s1 Hh sc (compEnvC sc cs Cc X.env) fs) tg g)
    (ht : ∀ (s1 : Shared) (Hh : Hp) (Cc : Addr) (cs : List (Str × Addr)) (fs : List Addr), PTs (X.blk s1 Hh sc (compEnvC sc cs Cc X.env) fs) ifs tt)
    (hk : ∀ (s1 : Shared) (Hh : Hp) (Cc : Addr) (cs : List (Str × Addr)) (fs : List Addr), PE (X.blk s1 Hh sc (compEnvC sc cs Cc X.env) fs) kx tk)
    (hv : ∀ (s1 : Shared) (Hh : Hp) (Cc : Addr) (cs : List (Str × Addr)) (fs : List Addr), PE (X.blk s1 Hh sc (compEnvC sc cs Cc X.env) fs) vx tv) (hs : ∀ z, foldedSetIterable iter X.env z = pure z := by intro _; rfl) :
    PS X (.Assign [.Name x q] (.DictComp kx vx [⟨tg, iter, ifs, 0⟩] sc p) sp) (tAsg (tDc wi g tt tk tv (own.map (·.2))) (gName n)) := by
  refine ⟨fun pins s σ H D I hh => ?_⟩
  rw [exec_Assign_Name_used (hs := sw)]
  refine wpAny_bind (wpAny_standAt (wpAny_bind ?_))
  show wpAny _ X.A (do let _ ← comprehension (.DictComp kx vx [⟨tg, iter, ifs, 0⟩] sc p) sc X.env (firstIterPos [⟨tg, iter, ifs, 0⟩] p) newDict false (eval iter X.env) (some (assign (.Name x q) X.env))) _ _ s
  have hh : tDc wi g tt tk tv (own.map (·.2)) σ H (fun y H1 => gName n y σ H1 D.nx) := hh
  refine wpAny_bind (thn (dc_core (Qf := fun _ r => SP X pins D .next r) hc nd I hi ok hg ht hk hv hs hh fun L C r m H' J w ns f => ?_) fun _ r hr => wpAny_pure (wpAny_pure hr))
  show wpAny _ _ (assign (.Name x q) X.env (.ref L)) _ _ _
  refine wpAny_assign_Name (store_ok2 (v := V.ref L) J nd hx (.inl hl) rfl (fun r2 J2 ⟨a, sb, ha⟩ => ?_) (.inr hl))
  have hCa : C ≠ a := ha.elim (fun z => z ▸ f.2.1) fun z e => f.2.2.2.2.1 x a z e.symm
  exact ⟨m, ns.sameBut sb hCa, fun h3 sb3 => ⟨_, H', J2.turned (t' := r2.toks) (fun b o hb e => (sb3.2 b hb).trans e) f.1 f.2.1 f.2.2.2.1 f.2.2.2.2.1 f.2.2.2.2.2, w⟩⟩
def spFl (K : PySem.W.Frag) (g : List Str → Fm → List Fm → Fm) : Sp := fun vs H Q _ => ∃ (o p : Addr) (ops : List Str) (us : List V) (f : Fm) (fs : List Fm), vs = [.ref o, .ref p] ∧ H o = some (.lst (ops.map V.str)) ∧ H p = some (.lst us) ∧ FmsAt K H us (f :: fs) ∧ ops.length = fs.length ∧ 0 < ops.length ∧ ops.length ≤ 1000 ∧ (∀ s ∈ ops, (knd infL s).isSome = true) ∧
  ∀ (H' : Hp) (v : V), Same H H' → FmAt K H' v (g ops f fs) → Q v H'
theorem kndI_of {s : Str} (h : (knd infL s).isSome = true) : knd infL s = some (kndI s) := by
  unfold kndI
  cases e : knd infL s with
  | none => rw [e] at h; cases h
  | some k => rfl
theorem cutV_one (x : V) (l : List V) : cutV (x :: l) (some 1) none = l := by
  unfold cutV
  rw [show (1 : Int) = ((1 : Nat) : Int) from rfl, HT.sIx_nat, HT.sIx_none, Nat.min_eq_left (show 1 ≤ (x :: l).length by simp)]
  simp
theorem cal_fl (T : Txt K mg w P) : C8.Cal P w K mg base 1 "fold_left" (spFl K fun ops f fs => fldL ops fs f) [] := by
  obtain ⟨aI, gIg, gIN⟩ := gloI T
  obtain ⟨fa, fd, F, hm, hb⟩ := T.h_fold_left
  refine ⟨fa, fd, _, [], F.ok sc_fold_left (fun vs H Q E h => ?_) (fun cdv A outer s H vs Q E hr h => ?_), hm, F.kp, hb, .nil⟩
  · obtain ⟨o, p, ops, us, f, fs, rfl, _⟩ := h
    rfl
  · obtain ⟨o, p, ops, us, f, fs, rfl, ho, hp, hf, hl, hl0, hl2, hk, q⟩ := h
    refine ⟨_, (pss_cons
      (ps_setDc (n := 2) (own := [("kind", 6), ("sign", 4)]) (g := gTup K 2 (gCons (gName 6) (gCons (gName 4) gNil))) (tt := tYes) rfl sc_fold_left.nd rfl rfl (sw_dict rfl rfl rfl (by decide +kernel)) (Kt7.pi_kit (pe_glob (v := .ref aI) (by rfl) gIg rfl)) (blkOk_by (N := N_fold_left) (sc := defScope s_fold_left) (by decide +kernel)) (fun _ _ _ _ _ => (pg_tup (by rfl) (pgs_cons (pg_name (i := 6) sc_fold_left.nd rfl (Or.inl rfl)) (pgs_cons (pg_name (i := 4) sc_fold_left.nd rfl (Or.inl rfl)) pgs_nil)))) (fun _ _ _ _ _ => pts_nil) (fun _ _ _ _ _ => (pv 4)) (fun _ _ _ _ _ => (pv 6)))
      (pss_cons
      (ps_set (i := 3) sc_fold_left.nd rfl (Or.inl rfl) (pe_ix (ix_listK (K := K) rfl) (pv 1) pe_int (fun _ _ => rfl)))
      (pss_cons
      (ps_for PassesOwn.never rfl (pi_zip (by rfl) T.z_zip (pa_cons (pv 0) (pa_cons (pe_slice (sl_listK (K := K) rfl) (pv 1) (po_some pe_int) po_none) pa_nil))) (pg_tup (by rfl) (pgs_cons (pg_name (i := 4) sc_fold_left.nd rfl (.inl rfl)) (pgs_cons (pg_name (i := 5) sc_fold_left.nd rfl (.inl rfl)) pgs_nil))) (pss_one
      (ps_set (i := 3) sc_fold_left.nd rfl (Or.inl rfl) (pe_tup (pa_cons (pe_dget (hu_of hr) (pv 2) (pv 4) (fun _ _ => rfl)) (pa_cons (pv 3) (pa_cons (pv 5) pa_nil)))))))
      (pss_one
      (ps_ret (pv 3)))))), ?_⟩
    refine ⟨aI, infL, rfl, gIN, fun D nD => ⟨fun i m H' => m = 9 - i ∧ i ≤ 9 ∧ Same H H' ∧ H' D = some (.dK ((infL.take i).map swp)), ⟨9, rfl, Nat.zero_le _, same_new nD, upd_same⟩, ?_⟩⟩
    rintro i m H2 ⟨rfl, hi, s2, e2⟩
    by_cases c : i < 9
    · refine .inr ⟨c, fun H' => Same H H' ∧ H' D = some (.dK ((infL.take (i + 1)).map swp)), fun H' ⟨a, b⟩ => ⟨9 - (i + 1), by omega, rfl, by omega, a, b⟩, ?_⟩
      rintro _ _ ⟨t, k, v, hkv, rfl, nt, rfl⟩
      generalize hX : upd H2 t _ = H3; obtain ⟨sH3, et⟩ := nw nt hX; clear hX
      have e3 := sH3 _ _ e2
      refine ⟨t, _, rfl, .of et, rfl, _, _, rfl, _, _, rfl, rfl, rfl, ?_⟩
      dsimp only [tYes]
      rw [if_pos rfl]
      refine ⟨_, rfl, _, rfl, _, Sum.inr v, rfl, e3, ?_, ?_, ?_⟩
      · rw [List.length_map, List.length_take]
        exact Nat.lt_of_le_of_lt (show min i infL.length ≤ 9 by omega) (by decide)
      · exact fun b o e => by rw [upd_ne (ne_of_none e nD)]; exact sH3 _ _ (s2 _ _ e)
      · rw [upd_same, put_swp knd_nd.2 hkv]
    obtain rfl : i = 9 := by omega
    refine .inl ⟨Nat.le_refl 9, ?_⟩
    have ho2 := s2 _ _ ho
    have hp2 := s2 _ _ hp
    have hf2 := hf.same s2
    have e2 : H2 D = some (.dK (infL.map swp)) := e2
    obtain ⟨u0, us', rfl⟩ : ∃ u0 us', us = u0 :: us' := by
      cases us with
      | nil => exact absurd hf (by simp [FmsAt])
      | cons a b => exact ⟨a, b, rfl⟩
    have hul := hf2.2.len
    refine ⟨_, rfl, p, _, _, u0, rfl, rfl, .of hp2, atI_nat (j := 0) rfl, ?_⟩
    refine ⟨_, rfl, _, rfl, _, rfl, p, _, rfl, .of hp2, fun z nz => ?_⟩
    rw [cutV_one]
    generalize hX : upd H2 z _ = H3; obtain ⟨sH3, ez⟩ := nw nz hX; clear hX
    have ho3 := sH3 _ _ ho2
    have hul2 : us'.length = ops.length := by rw [hul, hl]
    refine ⟨o, z, _, _, rfl, .of ho3, .of ez, ?_⟩
    refine for_it (walk_zip (K := K) (a := o) (b := z) (xs := ops.map V.str) (ys := us') (n := ops.length) (by rw [List.length_map, hul2, Nat.min_self])) (fun i σ H' => ∃ (v4 v5 : Option V) (w3 : V) (g : Fm), σ = [some (.ref o), some (.ref p), some (.ref D), some w3, v4, v5, none] ∧ Same H3 H' ∧ FmAt K H' w3 g ∧ fldL (ops.drop i) (fs.drop i) g = fldL ops fs f)
      ⟨none, none, u0, f, rfl, Same.refl _, hf2.1.same sH3, rfl⟩ (fun i σ H' _ ⟨_, _, _, _, _, x, _⟩ => ⟨.of (x _ _ ho3), .of (x _ _ ez)⟩) ?_ ?_
    · rintro i v σ H5 H6 hi ⟨v4, v5, w3, g, rfl, s5, hg, hfl⟩ ⟨t, x, y, rfl, nt, rfl, hx, hy⟩
      obtain ⟨sg, hsg, rfl⟩ := mapg hx
      obtain ⟨h, hh, hy2⟩ := FmsAt.get hf2.2 hy
      have hy6 := hy2.same (sH3.trans s5)
      generalize hX : upd H5 t _ = H6; obtain ⟨sH6, et⟩ := nw nt hX; clear hX
      have s6 := s5.trans sH6
      have eD6 := s6 _ _ (sH3 _ _ e2)
      refine ⟨t, _, rfl, .of et, rfl, _, _, rfl, _, _, rfl, rfl, ?_⟩
      have hkk := hk sg (List.mem_of_getElem? hsg)
      have dg := DGet.k (k := Sum.inr sg) eD6
      rw [val_swp, kndI_of hkk] at dg
      refine ⟨_, rfl, _, rfl, D, _, rfl, dg, _, rfl, _, rfl, by show 3 ≤ sizeLine; decide, fun b nb => ?_⟩
      generalize hX : upd H6 b _ = H7; obtain ⟨sH7, eb⟩ := nw nb hX; clear hX
      refine ⟨_, _, .ref b, .bin (kndI sg) g h, rfl, s6.trans sH7, ⟨b, w3, y, rfl, .of eb, (hg.same sH6).same sH7, (hy6.same sH6).same sH7⟩, ?_⟩
      rw [← hfl, List.drop_eq_getElem_cons (lt_of_get hsg), List.drop_eq_getElem_cons (lt_of_get hh)]
      rw [List.getElem?_eq_getElem (lt_of_get hsg)] at hsg
      rw [List.getElem?_eq_getElem (lt_of_get hh)] at hh
      rw [Option.some.inj hsg, Option.some.inj hh]
      rfl
    · rintro σ H5 ⟨v4, v5, w3, g, rfl, s5, hg, hfl⟩
      rw [List.drop_length, hl, List.drop_length] at hfl
      refine ⟨_, rfl, q H5 w3 ((s2.trans sH3).trans s5) ?_⟩
      show FmAt K H5 w3 (fldL ops fs f)
      rw [← hfl]
      exact hg
theorem at_m1 {α : Type} {us : List α} (h : 0 < us.length) : atI us (-1) = us[us.length - 1]? := by
  have e : ixN us.length (-1) = some (us.length - 1) := by
    unfold ixN
    rw [if_neg (by decide)]
    have : ((us.length : Int) + -1).toNat = us.length - 1 := by omega
    simp
    omega
  unfold atI
  rw [e]
  rfl
def suf (ops : List Str) (F : List Fm) (k : Nat) : Fm := match F.drop k with
  | g :: gs => fldR (ops.drop k) g gs
  | [] => .c0 ""
theorem suf_top {ops : List Str} {F : List Fm} {g : Fm} (hl : F.length = ops.length + 1) (hg : F[ops.length]? = some g) : suf ops F ops.length = g := by
  have e : F.drop ops.length = [g] := by
    rw [List.drop_eq_getElem_cons (lt_of_get hg), List.drop_of_length_le (show F.length ≤ ops.length + 1 by omega)]
    rw [List.getElem?_eq_getElem (lt_of_get hg)] at hg
    rw [Option.some.inj hg]
  unfold suf
  rw [e, List.drop_length]
  rfl
theorem suf_step {ops : List Str} {F : List Fm} {k : Nat} {sg : Str} {h : Fm} (hs : ops[k]? = some sg) (hh : F[k]? = some h) (hl : k + 1 < F.length) : suf ops F k = .bin (kndI sg) h (suf ops F (k + 1)) := by
  have e1 : F.drop k = h :: F.drop (k + 1) := by
    rw [List.drop_eq_getElem_cons (lt_of_get hh)]
    rw [List.getElem?_eq_getElem (lt_of_get hh)] at hh
    rw [Option.some.inj hh]
  have e2 : ops.drop k = sg :: ops.drop (k + 1) := by
    rw [List.drop_eq_getElem_cons (lt_of_get hs)]
    rw [List.getElem?_eq_getElem (lt_of_get hs)] at hs
    rw [Option.some.inj hs]
  unfold suf
  rw [e1, e2, List.drop_eq_getElem_cons hl]
  rfl
theorem cal_fr (T : Txt K mg w P) : C8.Cal P w K mg base 1 "fold_right" (spFl K fldR) [] := by
  obtain ⟨aI, gIg, gIN⟩ := gloI T
  obtain ⟨fa, fd, F, hm, hb⟩ := T.h_fold_right
  refine ⟨fa, fd, _, [], F.ok sc_fold_right (fun vs H Q E h => ?_) (fun cdv A outer s H vs Q E hr h => ?_), hm, F.kp, hb, .nil⟩
  · obtain ⟨o, p, ops, us, f, fs, rfl, _⟩ := h
    rfl
  · obtain ⟨o, p, ops, us, f, fs, rfl, ho, hp, hf, hl, hl0, hl2, hk, q⟩ := h
    refine ⟨_, (pss_cons
      (ps_setDc (n := 2) (own := [("kind", 6), ("sign", 4)]) (g := gTup K 2 (gCons (gName 6) (gCons (gName 4) gNil))) (tt := tYes) rfl sc_fold_right.nd rfl rfl (sw_dict rfl rfl rfl (by decide +kernel)) (Kt7.pi_kit (pe_glob (v := .ref aI) (by rfl) gIg rfl)) (blkOk_by (N := N_fold_right) (sc := defScope s_fold_right) (by decide +kernel)) (fun _ _ _ _ _ => (pg_tup (by rfl) (pgs_cons (pg_name (i := 6) sc_fold_right.nd rfl (Or.inl rfl)) (pgs_cons (pg_name (i := 4) sc_fold_right.nd rfl (Or.inl rfl)) pgs_nil)))) (fun _ _ _ _ _ => pts_nil) (fun _ _ _ _ _ => (pv 4)) (fun _ _ _ _ _ => (pv 6)))
      (pss_cons
      (ps_set (i := 3) sc_fold_right.nd rfl (Or.inl rfl) (pe_ix (ix_listK (K := K) rfl) (pv 1) (pe_un un_neg pe_int) (fun _ _ => rfl)))
      (pss_cons
      (ps_for PassesOwn.never rfl (pi_zip (by rfl) T.z_zip (pa_cons (pe_revLK (K := K) rfl (pv 0)) (pa_cons (Kt7.pe_dlr (K := K) rfl (pv 1)) pa_nil))) (pg_tup (by rfl) (pgs_cons (pg_name (i := 4) sc_fold_right.nd rfl (.inl rfl)) (pgs_cons (pg_name (i := 5) sc_fold_right.nd rfl (.inl rfl)) pgs_nil))) (pss_one
      (ps_set (i := 3) sc_fold_right.nd rfl (Or.inl rfl) (pe_tup (pa_cons (pe_dget (hu_of hr) (pv 2) (pv 4) (fun _ _ => rfl)) (pa_cons (pv 5) (pa_cons (pv 3) pa_nil)))))))
      (pss_one
      (ps_ret (pv 3)))))), ?_⟩
    refine ⟨aI, infL, rfl, gIN, fun D nD => ⟨fun i m H' => m = 9 - i ∧ i ≤ 9 ∧ Same H H' ∧ H' D = some (.dK ((infL.take i).map swp)), ⟨9, rfl, Nat.zero_le _, same_new nD, upd_same⟩, ?_⟩⟩
    rintro i m H2 ⟨rfl, hi, s2, e2⟩
    by_cases c : i < 9
    · refine .inr ⟨c, fun H' => Same H H' ∧ H' D = some (.dK ((infL.take (i + 1)).map swp)), fun H' ⟨a, b⟩ => ⟨9 - (i + 1), by omega, rfl, by omega, a, b⟩, ?_⟩
      rintro _ _ ⟨t, k, v, hkv, rfl, nt, rfl⟩
      generalize hX : upd H2 t _ = H3; obtain ⟨sH3, et⟩ := nw nt hX; clear hX
      have e3 := sH3 _ _ e2
      refine ⟨t, _, rfl, .of et, rfl, _, _, rfl, _, _, rfl, rfl, rfl, ?_⟩
      dsimp only [tYes]
      rw [if_pos rfl]
      refine ⟨_, rfl, _, rfl, _, Sum.inr v, rfl, e3, ?_, ?_, ?_⟩
      · rw [List.length_map, List.length_take]
        exact Nat.lt_of_le_of_lt (show min i infL.length ≤ 9 by omega) (by decide)
      · exact fun b o e => by rw [upd_ne (ne_of_none e nD)]; exact sH3 _ _ (s2 _ _ e)
      · rw [upd_same, put_swp knd_nd.2 hkv]
    obtain rfl : i = 9 := by omega
    refine .inl ⟨Nat.le_refl 9, ?_⟩
    have ho2 := s2 _ _ ho
    have hp2 := s2 _ _ hp
    have hf2 := hf.same s2
    have e2 : H2 D = some (.dK (infL.map swp)) := e2
    have hul := hf2.len
    rw [List.length_cons] at hul
    have hn0 : 0 < us.length := by omega
    have hlast : atI us (-1) = some (us[us.length - 1]'(by omega)) := by rw [at_m1 hn0]; exact List.getElem?_eq_getElem _
    refine ⟨_, rfl, _, rfl, p, _, _, _, rfl, rfl, .of hp2, hlast, ?_⟩
    refine ⟨_, rfl, o, _, rfl, .of ho2, fun z nz => ?_⟩
    generalize hX : upd H2 z _ = H3; obtain ⟨sH3, ez⟩ := nw nz hX; clear hX
    have hp3 := sH3 _ _ hp2
    refine ⟨_, rfl, p, _, rfl, .of hp3, by omega, fun y ny => ?_⟩
    generalize hX : upd H3 y _ = H4; obtain ⟨sH4, ey⟩ := nw ny hX; clear hX
    have s24 := sH3.trans sH4
    have ez4 := sH4 _ _ ez
    have hdl : us.dropLast.reverse.length = ops.length := by rw [List.length_reverse, List.length_dropLast]; omega
    refine ⟨z, y, _, _, rfl, .of ez4, .of ey, ?_⟩
    refine for_it (walk_zip (K := K) (a := z) (b := y) (xs := (ops.map V.str).reverse) (ys := us.dropLast.reverse) (n := ops.length) (by rw [List.length_reverse, List.length_map, hdl, Nat.min_self])) (fun i σ H' => ∃ (v4 v5 : Option V) (w3 : V), σ = [some (.ref o), some (.ref p), some (.ref D), some w3, v4, v5, none] ∧ Same H4 H' ∧ FmAt K H' w3 (suf ops (f :: fs) (ops.length - i)))
      ⟨none, none, _, rfl, Same.refl _, ?_⟩ (fun i σ H' _ ⟨_, _, _, _, x, _⟩ => ⟨.of (x _ _ ez4), .of (x _ _ ey)⟩) ?_ ?_
    · obtain ⟨g, hg, hx⟩ := FmsAt.get hf2 (i := us.length - 1) (List.getElem?_eq_getElem (by omega))
      have hn : us.length - 1 = ops.length - 0 := by omega
      rw [hn] at hg
      rw [Nat.sub_zero] at hg ⊢
      rw [suf_top (by rw [List.length_cons, hl]) hg]
      exact hx.same s24
    · rintro i v σ H5 H6 hi ⟨v4, v5, w3, rfl, s5, hg⟩ ⟨t, x, y2, rfl, nt, rfl, hx, hy⟩
      have hx : ((ops.map V.str).reverse)[i]? = some x := hx
      have hy : (us.dropLast.reverse)[i]? = some y2 := hy
      rw [List.getElem?_reverse (by rw [List.length_map]; omega), List.length_map] at hx
      obtain ⟨sg, hsg, rfl⟩ := mapg hx
      rw [List.getElem?_reverse (by rw [List.length_dropLast]; omega), List.length_dropLast] at hy
      have hy2 : us[ops.length - 1 - i]? = some y2 := by
        rw [List.getElem?_dropLast] at hy
        split at hy
        · rw [← hy]
          congr 1
          omega
        · cases hy
      obtain ⟨h, hh, hy3⟩ := FmsAt.get hf2 hy2
      have hy6 := hy3.same (s24.trans s5)
      generalize hX : upd H5 t _ = H6; obtain ⟨sH6, et⟩ := nw nt hX; clear hX
      have s6 := s5.trans sH6
      have eD6 := s6 _ _ (s24 _ _ e2)
      refine ⟨t, _, rfl, .of et, rfl, _, _, rfl, _, _, rfl, rfl, ?_⟩
      have hkk := hk sg (List.mem_of_getElem? hsg)
      have dg := DGet.k (k := Sum.inr sg) eD6
      rw [val_swp, kndI_of hkk] at dg
      refine ⟨_, rfl, _, rfl, D, _, rfl, dg, _, rfl, _, rfl, by show 3 ≤ sizeLine; decide, fun b nb => ?_⟩
      generalize hX : upd H6 b _ = H7; obtain ⟨sH7, eb⟩ := nw nb hX; clear hX
      refine ⟨_, _, .ref b, rfl, s6.trans sH7, ?_⟩
      have hsuf : suf ops (f :: fs) (ops.length - (i + 1)) = .bin (kndI sg) h (suf ops (f :: fs) (ops.length - i)) := by
        have ei : ops.length - (i + 1) = ops.length - 1 - i := by omega
        have ej : ops.length - i = ops.length - 1 - i + 1 := by omega
        have hlt2 : ops.length - 1 - i + 1 < (f :: fs).length := by rw [List.length_cons]; omega
        rw [ei, ej]
        exact suf_step hsg hh hlt2
      rw [hsuf]
      exact ⟨b, y2, w3, rfl, .of eb, (hy6.same sH6).same sH7, (hg.same sH6).same sH7⟩
    · rintro σ H5 ⟨v4, v5, w3, rfl, s5, hg⟩
      rw [Nat.sub_self] at hg
      exact ⟨_, rfl, q H5 w3 ((s2.trans s24).trans s5) hg⟩
def spFd (K : PySem.W.Frag) : Sp := fun vs H Q _ => ∃ (o p : Addr) (ops : List Str) (us : List V) (f : Fm) (fs : List Fm), vs = [.ref o, .ref p] ∧ H o = some (.lst (ops.map V.str)) ∧ H p = some (.lst us) ∧ FmsAt K H us (f :: fs) ∧ ops.length = fs.length ∧ ops.length ≤ 1000 ∧ (∀ s ∈ ops, (knd infL s).isSome = true) ∧
  ∀ (H' : Hp) (v : V), Same H H' → FmAt K H' v (fld ops f fs) → Q v H'
theorem gloA (T : Txt K mg w P) : ∃ aA : Addr, GloT K mg "ASSOCIATE_TO_THE_LEFT" ["|", "&"] aA := by
  obtain ⟨⟨aQ, aN, aF, aP, aG, aA, _, _, _, _, _, g⟩, _⟩ := T.er
  exact ⟨aA, g⟩
theorem cal_fold (T : Txt K mg w P) : C8.Cal P w K mg base 2 "fold" (spFd K) [] := by
  have C_fold_left : C8.Cal P w K mg base 1 "fold_left" (spFl K fun ops f fs => fldL ops fs f) [] := cal_fl T
  have C_fold_right : C8.Cal P w K mg base 1 "fold_right" (spFl K fldR) [] := cal_fr T
  obtain ⟨aA, gA⟩ := gloA T
  obtain ⟨fa, fd, F, hm, hb⟩ := T.h_fold
  refine ⟨fa, fd, _, [], F.ok sc_fold (fun vs H Q E h => ?_) (fun cdv A outer s H vs Q E hr h => ?_), hm, F.kp, hb, .nil⟩
  · obtain ⟨o, p, ops, us, f, fs, rfl, _⟩ := h
    rfl
  · obtain ⟨o, p, ops, us, f, fs, rfl, ho, hp, hf, hl, hl2, hk, q⟩ := h
    refine ⟨_, (pss_cons
      (ps_if (pt_cmpR op_eq (pe_callB (call_lenK (K := K) rfl) (by rfl) T.z_len PySem.boot_len (pa_cons (pv 0) pa_nil)) pe_int (nomark _)) (pss_one
      (ps_ret (pe_ix (ix_listK (K := K) rfl) (pv 1) pe_int (fun _ _ => rfl)))) pss_nil)
      (pss_cons
      (ps_if (pt_cmpR (op_inK (K := K) rfl) (pe_ix (ix_listK (K := K) rfl) (pv 0) pe_int (fun _ _ => rfl)) (pe_glob (v := .ref aA) (by rfl) gA.g rfl) (by rfl)) (pss_one
      (ps_ret (C8.pe_c C_fold_left hr (by decide) (by rfl) (pa_cons (pv 0) (pa_cons (pv 1) pa_nil))))) pss_nil)
      (pss_one
      (ps_ret (C8.pe_c C_fold_right hr (by decide) (by rfl) (pa_cons (pv 0) (pa_cons (pv 1) pa_nil))))))), ?_⟩
    refine ⟨_, rfl, o, _, rfl, .inl (.of ho), rfl, _, rfl, ?_⟩
    rw [List.length_map]
    cases ops with
    | nil =>
      refine iteB_t (by rfl) ?_
      obtain ⟨u0, us', rfl⟩ : ∃ u0 us', us = u0 :: us' := by
        cases us with
        | nil => exact absurd hf (by simp [FmsAt])
        | cons a b => exact ⟨a, b, rfl⟩
      exact ⟨_, rfl, p, _, _, u0, rfl, rfl, .of hp, atI_nat (j := 0) rfl, q H u0 (Same.refl _) hf.1⟩
    | cons a ops =>
      refine iteB_f (decide_eq_false fun z => by have := V.int.inj z; rw [List.length_cons] at this; omega) ?_
      refine ⟨_, rfl, o, _, _, .str a, rfl, rfl, .of ho, atI_nat (j := 0) rfl, inC (gA.q H) ⟨_, rfl, ?_⟩⟩
      by_cases c : a ∈ (["|", "&"] : List Str)
      · refine iteB_t (decide_eq_true c) ⟨_, rfl, _, rfl, o, p, a :: ops, us, f, fs, rfl, ho, hp, hf, hl, Nat.succ_pos _, hl2, hk, fun H' v s' h' => q H' v s' ?_⟩
        show FmAt K H' v (if a ∈ (["|", "&"] : List Str) then _ else _)
        rw [if_pos c]
        exact h'
      · refine iteB_f (decide_eq_false c) ⟨_, rfl, _, rfl, o, p, a :: ops, us, f, fs, rfl, ho, hp, hf, hl, Nat.succ_pos _, hl2, hk, fun H' v s' h' => q H' v s' ?_⟩
        show FmAt K H' v (if a ∈ (["|", "&"] : List Str) then _ else _)
        rw [if_neg c]
        exact h'
section
variable {C fI fP fT fA fH fF fU fO : Addr} {fdI fdP fdT fdA fdH fdF fdU fdO : FuncData}
theorem peekq {x dx ta pa : Addr} {ts : List Tk} {i : Nat} {t : Tk} {σ : L2.St} {H : Hp} {Q : VK} {E : XK} (hσ : σ[0]? = some (some (.ref x))) (r : Rs C H x dx ta pa ts i) (ht : ts[i]? = some t) (q : Q (.str t.k) H) : tMeth C "peek" (spPeek C) [] E (tVar 0) tNil σ H Q :=
  ⟨_, hσ, x, dx, _, rfl, r.hx, rfl, x, dx, ta, pa, ts, i, t, rfl, r, ht, q⟩
theorem takeq {x dx ta pa cF : Addr} {ts : List Tk} {i : Nat} {t : Tk} {k : Str} {σ : L2.St} {H : Hp} {Q : VK} {W : WX} (hσ : σ[0]? = some (some (.ref x))) (r : Rs C H x dx ta pa ts i) (ht : ts[i]? = some t) (hk : t.k = k) (q : ∀ H', Kp x H H' → Rs C H' x dx ta pa ts (i + 1) → Q (.str t.c) H') : Mx.tMethX C "take" (spTkX C cF) (WE W) (tVar 0) (tCons (tC (.str k)) tNil) σ H Q :=
  ⟨_, hσ, x, dx, _, rfl, r.hx, rfl, x, dx, ta, pa, ts, i, t, k, rfl, r, ht, fun _ => q, fun z => absurd hk z⟩
theorem takee {x dx ta pa cF : Addr} {ts : List Tk} {i : Nat} {t : Tk} {k : Str} {σ : L2.St} {H : Hp} {Q : VK} {W : WX} (hσ : σ[0]? = some (some (.ref x))) (r : Rs C H x dx ta pa ts i) (ht : ts[i]? = some t) (hk : t.k ≠ k) (hp : t.p ≤ 1000000) (q : XP cF t.p x H (WE W σ)) : Mx.tMethX C "take" (spTkX C cF) (WE W) (tVar 0) (tCons (tC (.str k)) tNil) σ H Q :=
  ⟨_, hσ, x, dx, _, rfl, r.hx, rfl, x, dx, ta, pa, ts, i, t, k, rfl, r, ht, fun z => absurd z hk, fun _ => ⟨hp, q⟩⟩
theorem takep {x dx ta pa cF : Addr} {ts : List Tk} {i : Nat} {t : Tk} {σ : L2.St} {H : Hp} {Q : VK} {W : WX} {E' : XK} (hσ : σ[0]? = some (some (.ref x))) (r : Rs C H x dx ta pa ts i) (ht : ts[i]? = some t) (q : ∀ H', Kp x H H' → Rs C H' x dx ta pa ts (i + 1) → Q (.str t.c) H') : Mx.tMethX C "take" (spTkX C cF) (WE W) (tVar 0) (tCons (tMeth C "peek" (spPeek C) [] E' (tVar 0) tNil) tNil) σ H Q :=
  ⟨_, hσ, x, dx, _, rfl, r.hx, rfl, _, hσ, x, dx, _, rfl, r.hx, rfl, x, dx, ta, pa, ts, i, t, rfl, r, ht, x, dx, ta, pa, ts, i, t, t.k, rfl, r, ht, fun _ => q, fun z => absurd rfl z⟩
/-- positions are small -/
abbrev Ps (ts : List Tk) : Prop := ts.length ≤ 1000 ∧ ∀ t ∈ ts, t.p ≤ 1000000
def spRf (K : PySem.W.Frag) (C cF : Addr) (n l : Nat) : Sp := fun vs H Q E => ∃ (x dx ta pa : Addr) (ts : List Tk) (i : Nat), vs = [.ref x, .int (l : Int)] ∧ Rs C H x dx ta pa ts i ∧ Ps ts ∧
  ((∃ f r, RdF n l (ts.drop i) f r ∧ ∀ (H' : Hp) (v : V) (j : Nat), Kp x H H' → Rs C H' x dx ta pa ts j → ts.drop j = r → FmAt K H' v f → Q v H') ∨ (∃ p, RdE n l (ts.drop i) p ∧ XP cF p x H E))
def spAt (K : PySem.W.Frag) (C cF : Addr) (n : Nat) : Sp := fun vs H Q E => ∃ (x dx ta pa : Addr) (ts : List Tk) (i : Nat), vs = [.ref x] ∧ Rs C H x dx ta pa ts i ∧ Ps ts ∧
  ((∃ f r, Atm (RdF n 0) (ts.drop i) f r ∧ ∀ (H' : Hp) (v : V) (j : Nat), Kp x H H' → Rs C H' x dx ta pa ts j → ts.drop j = r → FmAt K H' v f → Q v H') ∨ (∃ p, AtE (RdF n 0) (RdE n 0) (ts.drop i) p ∧ XP cF p x H E))
def Lv (n l : Nat) : Nat := 6 + n + 2 * ((n + l) / 6)
theorem ok_atom {n : Nat} {cF fE : Addr} {fdE : FuncData} (T : Txt K mg w P) (Z : FsE P K mg cF fE fdE) (R : Rd7 K mg C fI fP fT fA fH fF fU fO fdI fdP fdT fdA fdH fdF fdU fdO) (FF : FnOk P w K mg base (L2.CX P w) (Lv n 0) fF fdF ["self", "level"] (spRf K C cF n 0)) : FnOk P w K mg base (L2.CX P w) (Lv n 0 + 1) fO fdO ["self"] (spAt K C cF n) := by
  have PC := R.PC
  have MP := R.MP
  have bP := R.bP
  have MT := R.MT
  have bT := R.bT
  have MF := R.MF
  have bF := R.bF
  have hLv : 6 ≤ Lv n 0 := by unfold Lv; omega
  have FP : FnOk P w K mg base CX0 1 fP fdP ["self"] (spPeek C) := ok_peek R
  have FT : FnOk P w K mg base (L2.CX P w) 5 fT fdT ["self", "kind"] (spTkX C cF) := ok_take T Z R
  obtain ⟨aQ, aN, gQ, gN⟩ := gloQ T
  refine R.gO.okX sc_Reader_read_atom (fun vs H Q E h => ?_) (fun cdv A outer s H vs Q E hr h => ?_)
  · obtain ⟨x, dx, ta, pa, ts, i, rfl, _⟩ := h
    rfl
  · obtain ⟨x, dx, ta, pa, ts, i, rfl, rs, hl, hq⟩ := h
    refine ⟨_, (pss_cons
      (ps_if (pt_cmpR op_eq (pe_meth0 (pv 0) PC.cl MP FP (hr.mono (by omega)) bP .nil pass0) pe_str (nomark _)) (pss_cons
      (ps_expr (Mx.pe_methX (pv 0) PC.cl MT FT (hr.mono (by omega)) bT (takes_of rfl rfl rfl rfl) (pa_cons pe_str pa_nil)))
      (pss_cons
      (ps_set (i := 1) sc_Reader_read_atom.nd rfl (Or.inl rfl) (Mx.pe_methX (pv 0) PC.cl MF FF (hr.mono (by omega)) bF (takes_of rfl rfl rfl rfl) (pa_cons pe_int pa_nil)))
      (pss_cons
      (ps_expr (Mx.pe_methX (pv 0) PC.cl MT FT (hr.mono (by omega)) bT (takes_of rfl rfl rfl rfl) (pa_cons pe_str pa_nil)))
      (pss_one
      (ps_ret (pv 1)))))) pss_nil)
      (pss_cons
      (ps_if (pt_cmpR (op_inK (K := K) rfl) (pe_meth0 (pv 0) PC.cl MP FP (hr.mono (by omega)) bP .nil pass0) (pe_glob (v := .ref aN) (by rfl) gN.g rfl) (by rfl)) (pss_one
      (ps_ret (pe_tup (pa_cons (Mx.pe_methX (pv 0) PC.cl MT FT (hr.mono (by omega)) bT (takes_of rfl rfl rfl rfl) (pa_cons (pe_meth0 (pv 0) PC.cl MP FP (hr.mono (by omega)) bP .nil pass0) pa_nil)) pa_nil)))) pss_nil)
      (pss_one
      (ps_ret (pe_tup (pa_cons pe_str (pa_cons (Mx.pe_methX (pv 0) PC.cl MT FT (hr.mono (by omega)) bT (takes_of rfl rfl rfl rfl) (pa_cons pe_str pa_nil)) pa_nil))))))), ?_⟩
    rcases hq with ⟨f, r, ha, q⟩ | ⟨p, ha, q⟩
    · cases hd : ts.drop i with
      | nil => rw [hd] at ha; exact ha.elim
      | cons t r1 =>
        rw [hd] at ha
        obtain ⟨ht, hd1⟩ := drop_get hd
        refine peekq rfl rs ht ?_
        rcases ha with ⟨h1, u, h2, h3⟩ | ⟨h1, h2, rfl, rfl⟩ | ⟨h1, h2, h3, rfl, rfl⟩
        · refine ⟨rfl, _, rfl, iteB_t (decide_eq_true (by rw [h1])) ?_⟩
          refine takeq rfl rs ht h1 fun H1 k1 r1' => ?_
          refine ⟨_, rfl, x, dx, _, rfl, r1'.hx, rfl, x, dx, ta, pa, ts, i + 1, rfl, r1', hl, .inl ⟨f, u :: r, by rw [hd1]; exact h2, fun H2 v j k2 r2 hj hv => ?_⟩⟩
          obtain ⟨hu, hj1⟩ := drop_get hj
          refine takeq rfl r2 hu h3 fun H3 k3 r3 => ?_
          exact ⟨_, rfl, q H3 v (j + 1) ((k1.trans k2).trans k3) r3 hj1 (fm_tq (tq_kp r2.hx k3) hv)⟩
        · refine ⟨rfl, _, rfl, iteB_f (decide_eq_false fun z => h1 (V.str.inj z)) ?_⟩
          refine peekq rfl rs ht (inC (gN.q H) ⟨_, rfl, iteB_t (decide_eq_true h2) ?_⟩)
          refine takep rfl rs ht fun H1 k1 r1' => ?_
          refine ⟨by show 1 ≤ sizeLine; decide, fun b nb => ?_⟩
          generalize hX : upd H1 b _ = H2; obtain ⟨sH2, eb⟩ := nw nb hX; clear hX
          exact q H2 (.ref b) (i + 1) (k1.trans (Same.kp sH2)) (r1'.same sH2) hd1 ⟨b, rfl, .of eb⟩
        · refine ⟨rfl, _, rfl, iteB_f (decide_eq_false fun z => h1 (V.str.inj z)) ?_⟩
          refine peekq rfl rs ht (inC (gN.q H) ⟨_, rfl, iteB_f (decide_eq_false h2) ?_⟩)
          refine takeq rfl rs ht h3 fun H1 k1 r1' => ?_
          refine ⟨by show 2 ≤ sizeLine; decide, fun b nb => ?_⟩
          generalize hX : upd H1 b _ = H2; obtain ⟨sH2, eb⟩ := nw nb hX; clear hX
          exact q H2 (.ref b) (i + 1) (k1.trans (Same.kp sH2)) (r1'.same sH2) hd1 ⟨b, rfl, .of eb⟩
    · cases hd : ts.drop i with
      | nil => rw [hd] at ha; exact ha.elim
      | cons t r1 =>
        rw [hd] at ha
        obtain ⟨ht, hd1⟩ := drop_get hd
        have hpt : t.p ≤ 1000000 := hl.2 t (List.mem_of_getElem? ht)
        refine peekq rfl rs ht ?_
        rcases ha with ⟨h1, h2⟩ | ⟨h1, h2, h3, rfl⟩
        · refine ⟨rfl, _, rfl, iteB_t (decide_eq_true (by rw [h1])) ?_⟩
          refine takeq rfl rs ht h1 fun H1 k1 r1' => ?_
          refine ⟨_, rfl, x, dx, _, rfl, r1'.hx, rfl, x, dx, ta, pa, ts, i + 1, rfl, r1', hl, ?_⟩
          rcases h2 with h2 | ⟨f, u, r, h2, h3, rfl⟩
          · exact .inr ⟨p, by rw [hd1]; exact h2, q.mono k1⟩
          · refine .inl ⟨f, u :: r, by rw [hd1]; exact h2, fun H2 v j k2 r2 hj hv => ?_⟩
            obtain ⟨hu, hj1⟩ := drop_get hj
            exact takee rfl r2 hu h3 (hl.2 u (List.mem_of_getElem? hu)) (q.mono (k1.trans k2))
        · refine ⟨rfl, _, rfl, iteB_f (decide_eq_false fun z => h1 (V.str.inj z)) ?_⟩
          refine peekq rfl rs ht (inC (gN.q H) ⟨_, rfl, iteB_f (decide_eq_false h2) ?_⟩)
          exact takee rfl rs ht h3 hpt q
def spUn (K : PySem.W.Frag) (C cF : Addr) (n : Nat) : Sp := fun vs H Q E => ∃ (x dx ta pa : Addr) (ts : List Tk) (i : Nat), vs = [.ref x] ∧ Rs C H x dx ta pa ts i ∧ Ps ts ∧
  ((∃ ss g r, Una (RdF n 0) (ts.drop i) ss g r ∧ ∀ (H' : Hp) (v : V) (j : Nat), Kp x H H' → Rs C H' x dx ta pa ts j → ts.drop j = r → FmAt K H' v (wrp ss g) → Q v H') ∨ (∃ p, UnE (AtE (RdF n 0) (RdE n 0)) (ts.drop i) p ∧ XP cF p x H E))
theorem ok_unary {n : Nat} {cF fE : Addr} {fdE : FuncData} (T : Txt K mg w P) (Z : FsE P K mg cF fE fdE) (R : Rd7 K mg C fI fP fT fA fH fF fU fO fdI fdP fdT fdA fdH fdF fdU fdO) (FF : FnOk P w K mg base (L2.CX P w) (Lv n 0) fF fdF ["self", "level"] (spRf K C cF n 0)) : FnOk P w K mg base (L2.CX P w) (Lv n 0 + 2) fU fdU ["self"] (spUn K C cF n) := by
  have PC := R.PC
  have MP := R.MP
  have bP := R.bP
  have MT := R.MT
  have bT := R.bT
  have MO := R.MO
  have bO := R.bO
  have FP : FnOk P w K mg base CX0 1 fP fdP ["self"] (spPeek C) := ok_peek R
  have hLv : 6 ≤ Lv n 0 := by unfold Lv; omega
  have FT : FnOk P w K mg base (L2.CX P w) 5 fT fdT ["self", "kind"] (spTkX C cF) := ok_take T Z R
  have FO := ok_atom T Z R FF
  refine R.gU.okX sc_Reader_read_unary (fun vs H Q E h => ?_) (fun cdv A outer s H vs Q E hr h => ?_)
  · obtain ⟨x, dx, ta, pa, ts, i, rfl, _⟩ := h
    rfl
  · obtain ⟨x, dx, ta, pa, ts, i, rfl, rs, hl, hq⟩ := h
    refine ⟨_, (pss_cons
      (ps_set (i := 1) sc_Reader_read_unary.nd rfl (Or.inl rfl) (pe_lst pa_nil))
      (C8.pss_cut
      (ps_while (passes_of rfl) (pt_cmp (pc_din (hu_of hr) (pe_meth0 (pv 0) PC.cl MP FP (hr.mono (by omega)) bP .nil pass0) (pe_fld (pv 0) rfl))) (pss_one
      (ps_expr (pe_bm PySem.F.plainAttrs_list PySem.F.slot_list_append PySem.F.type_list_append mt_append (pv 1) (pa_cons (Mx.pe_methX (pv 0) PC.cl MT FT (hr.mono (by omega)) bT (takes_of rfl rfl rfl rfl) (pa_cons (pe_meth0 (pv 0) PC.cl MP FP (hr.mono (by omega)) bP .nil pass0) pa_nil)) pa_nil)))))
      (pss_cons
      (ps_set (i := 2) sc_Reader_read_unary.nd rfl (Or.inl rfl) (Mx.pe_methX0 (pv 0) PC.cl MO FO (hr.mono (by omega)) bO (takes_of rfl rfl rfl rfl)))
      (pss_cons
      (ps_for (passes_of rfl) rfl (pi_list (pe_revLK (K := K) rfl (pv 1))) (pg_name (i := 3) sc_Reader_read_unary.nd rfl (.inl rfl)) (pss_one
      (ps_set (i := 2) sc_Reader_read_unary.nd rfl (Or.inl rfl) (pe_tup (pa_cons (pe_dget (hu_of hr) (pe_fld (pv 0) rfl) (pv 3) (fun _ _ => rfl)) (pa_cons (pv 2) pa_nil))))))
      (pss_one
      (ps_ret (pv 2))))))), ?_⟩
    rcases hq with ⟨ss, g, r, hu, q⟩ | ⟨p, hu, q⟩
    case inr =>
      refine ⟨Nat.zero_le _, fun D nD => ?_⟩
      generalize hX : upd H D _ = H1; obtain ⟨sH1, eD⟩ := nw nD hX; clear hX
      have nDx : D ≠ x := fun z => by rw [z, rs.hx] at nD; cases nD
      have nDt : D ≠ ta := fun z => by
        obtain ⟨as, q1, _⟩ := rs.ht
        rw [← z] at q1
        rw [nD] at q1
        cases q1
      have hl1 := hl.1
      refine ⟨fun σ H' => ∃ (j : Nat), σ = [some (.ref x), some (.ref D), none, none] ∧ Rs C H' x dx ta pa ts j ∧ AtE (RdF n 0) (RdE n 0) (ts.drop j) p ∧ Kp x H H', ?_, ?_⟩
      · refine ⟨fun m σ H' => ∃ (j : Nat) (sd : List Str), m = ts.length - j ∧ σ = [some (.ref x), some (.ref D), none, none] ∧ Rs C H' x dx ta pa ts j ∧ H' D = some (.lst (sd.map V.str)) ∧ sd.length ≤ j ∧ UnE (AtE (RdF n 0) (RdE n 0)) (ts.drop j) p ∧ Kp x H H',
          ⟨_, i, [], rfl, rfl, rs.same sH1, eD, Nat.zero_le _, hu, Same.kp sH1⟩, ?_⟩
        rintro m σ H2 ⟨j, sd, rfl, rfl, r2, e2, l2, u2, kk⟩
        cases hd : ts.drop j with
        | nil => rw [hd] at u2; cases u2
        | cons t rr =>
          rw [hd] at u2
          obtain ⟨ht, hd1⟩ := drop_get hd
          have hjl := lt_of_get ht
          refine peekq rfl r2 ht ?_
          refine ⟨_, rfl, x, C, dx, _, _, rfl, r2.hx, PC.cl, PC.np, rl_p _ _ _, pa, _, rfl, DGet.k (k := Sum.inr t.k) r2.hp, _, rfl, ?_⟩
          have hval : (valV (preL.map fun p => ((Sum.inr p.2 : L2.Key), V.str p.1)) (Sum.inr t.k)).isSome = isPre t.k := by
            have e := val_swp (s := t.k) (kvs := preL)
            show (valV (preL.map swp) (Sum.inr t.k)).isSome = _
            rw [e]
            unfold isPre
            cases knd preL t.k <;> rfl
          cases u2 with
          | nil h1 h2 => exact iteB_f (hval.trans h1) ⟨j, rfl, r2, by rw [hd]; exact h2, kk⟩
          | cons h1 h3 =>
            refine iteB_t (hval.trans h1) ⟨_, fun _ _ h => h, ?_⟩
            refine ⟨_, rfl, .inl ⟨rfl, _, .of e2⟩, takep rfl r2 ht fun H3 k3 r3 => ?_⟩
            have e3 := k3 _ _ nDx e2
            refine ⟨D, _, _, rfl, rfl, e3, by rw [List.length_map]; exact Nat.lt_of_le_of_lt (show sd.length ≤ 1000 by omega) (by decide), ?_⟩
            exact ⟨ts.length - (j + 1), by omega, j + 1, sd ++ [t.c], rfl, rfl, r3.lst e3 nDt Kp.own, by rw [upd_same, List.map_append]; rfl, by rw [List.length_append, List.length_singleton]; omega, by rw [hd1]; exact h3, fun b o nb e => by rw [upd_ne (ne_of_none e nD)]; exact k3 _ _ nb (kk _ _ nb e)⟩
      · rintro σ H2 ⟨j, rfl, r2, u2, kk⟩
        exact ⟨_, rfl, x, dx, _, rfl, r2.hx, rfl, x, dx, ta, pa, ts, j, rfl, r2, hl, .inr ⟨p, u2, q.mono kk⟩⟩
    have hl1 := hl.1
    have hsl : ss.length < 1000 := by
      have := una_len hu
      rw [List.length_drop] at this
      omega
    have hpre := una_ss hu
    refine ⟨Nat.zero_le _, fun D nD => ?_⟩
    generalize hX : upd H D _ = H1; obtain ⟨sH1, eD⟩ := nw nD hX; clear hX
    refine ⟨fun σ H' => ∃ (j : Nat), σ = [some (.ref x), some (.ref D), none, none] ∧ (∀ b o, b ≠ x → H b = some o → H' b = some o) ∧ Rs C H' x dx ta pa ts j ∧ H' D = some (.lst (ss.map V.str)) ∧ Una (RdF n 0) (ts.drop j) [] g r, ?_, ?_⟩
    · refine ⟨fun m σ H' => ∃ (j : Nat) (sd sr : List Str), m = sr.length ∧ ss = sd ++ sr ∧ σ = [some (.ref x), some (.ref D), none, none] ∧ (∀ b o, b ≠ x → H b = some o → H' b = some o) ∧ Rs C H' x dx ta pa ts j ∧ H' D = some (.lst (sd.map V.str)) ∧ Una (RdF n 0) (ts.drop j) sr g r,
        ⟨_, i, [], ss, rfl, rfl, rfl, fun b o _ e => sH1 _ _ e, rs.same sH1, eD, hu⟩, ?_⟩
      rintro m σ H2 ⟨j, sd, sr, rfl, hss, rfl, k2, r2, e2, u2⟩
      cases hd : ts.drop j with
      | nil => rw [hd] at u2; cases u2
      | cons t rr =>
        rw [hd] at u2
        obtain ⟨ht, hd1⟩ := drop_get hd
        refine peekq rfl r2 ht ?_
        refine ⟨_, rfl, x, C, dx, _, _, rfl, r2.hx, PC.cl, PC.np, rl_p _ _ _, pa, _, rfl, DGet.k (k := Sum.inr t.k) r2.hp, _, rfl, ?_⟩
        have hval : (valV (preL.map fun p => ((Sum.inr p.2 : L2.Key), V.str p.1)) (Sum.inr t.k)).isSome = isPre t.k := by
          have e := val_swp (s := t.k) (kvs := preL)
          show (valV (preL.map swp) (Sum.inr t.k)).isSome = _
          rw [e]
          unfold isPre
          cases knd preL t.k <;> rfl
        cases u2 with
        | nil h1 h2 =>
          refine iteB_f (hval.trans h1) ⟨j, rfl, k2, r2, ?_, by rw [hd]; exact .nil h1 h2⟩
          rw [e2, hss, List.append_nil]
        | cons h1 h2 h3 =>
          rename_i ss'
          refine iteB_t (hval.trans h1) ⟨_, fun _ _ h => h, ?_⟩
          refine ⟨_, rfl, .inl ⟨rfl, _, .of e2⟩, takep rfl r2 ht fun H3 k3 r3 => ?_⟩
          have nDx : D ≠ x := fun z => by have := r2.hx; rw [z] at e2; rw [e2] at this; cases this
          have e3 := k3 _ _ nDx e2
          have nDt : D ≠ ta := fun z => by
            obtain ⟨as, q1, _⟩ := rs.ht
            rw [← z] at q1
            rw [nD] at q1
            cases q1
          have hsd : sd.length < 1000 := by
            have := congrArg List.length hss
            rw [List.length_append] at this
            omega
          refine ⟨D, _, _, rfl, rfl, e3, by rw [List.length_map]; exact Nat.lt_of_lt_of_le hsd (by decide), ?_⟩
          refine ⟨ss'.length, Nat.lt_succ_self _, j + 1, sd ++ [t.c], ss', rfl, by rw [hss]; simp, rfl, fun b o nb e => ?_, r3.lst e3 nDt Kp.own, by rw [upd_same, List.map_append]; rfl, by rw [hd1]; exact h3⟩
          rw [upd_ne (ne_of_none e nD)]
          exact k3 _ _ nb (k2 _ _ nb e)
    · rintro σ H2 ⟨j, rfl, k2, r2, e2, u2⟩
      have u2' : Atm (RdF n 0) (ts.drop j) g r := by
        cases hd : ts.drop j with
        | nil => rw [hd] at u2; cases u2
        | cons t rr =>
          rw [hd] at u2
          cases u2 with
          | nil _ h2 => exact h2
      refine ⟨_, rfl, x, dx, _, rfl, r2.hx, rfl, x, dx, ta, pa, ts, j, rfl, r2, hl, .inl ⟨g, r, u2', fun H3 v j3 k3 r3 hj3 hv => ?_⟩⟩
      have nDx : D ≠ x := fun z => by have := r2.hx; rw [z] at e2; rw [e2] at this; cases this
      have e3 := k3 _ _ nDx e2
      refine ⟨_, rfl, D, _, rfl, .of e3, fun z nz => ?_⟩
      generalize hX : upd H3 z _ = H4; obtain ⟨sH4, ez⟩ := nw nz hX; clear hX
      refine ⟨z, rfl, ⟨_, .of ez⟩, for_list (K := K) (a := z) (xs := (ss.map V.str).reverse) (fun i σ H' => ∃ (v3 : Option V) (fv : V), σ = [some (.ref x), some (.ref D), some fv, v3] ∧ Same H4 H' ∧ FmAt K H' fv (wrp (ss.drop (ss.length - i)) g))
        ⟨none, v, rfl, Same.refl _, by rw [Nat.sub_zero, List.drop_length]; exact hv.same sH4⟩ (fun i σ H' _ ⟨_, _, _, x, _⟩ => .of (x _ _ ez)) ?_ ?_⟩
      · rintro i v' σ H5 hi ⟨v3, fv, rfl, s5, hfv⟩
        have hlt : i < ss.length := by
          have := lt_of_get hi
          rwa [List.length_reverse, List.length_map] at this
        rw [List.getElem?_reverse (by rw [List.length_map]; exact hlt), List.length_map] at hi
        obtain ⟨sg, hsg, rfl⟩ := mapg hi
        have hp := hpre sg (List.mem_of_getElem? hsg)
        have r5 := (r3.same sH4).same s5
        have dg := DGet.k (k := Sum.inr sg) r5.hp
        have hkp : knd preL sg = some (kndP sg) := by
          unfold isPre at hp
          unfold kndP
          cases e : knd preL sg with
          | none => rw [e] at hp; cases hp
          | some k => rfl
        have ev : valV (preL.map fun p => ((Sum.inr p.2 : L2.Key), V.str p.1)) (Sum.inr sg) = some (.str (kndP sg)) := by
          have e := val_swp (s := sg) (kvs := preL)
          show valV (preL.map swp) (Sum.inr sg) = _
          rw [e, hkp]
          rfl
        rw [ev] at dg
        refine ⟨_, rfl, x, C, dx, _, _, rfl, r5.hx, PC.cl, PC.np, rl_p _ _ _, _, rfl, pa, _, rfl, dg, _, rfl, by show 2 ≤ sizeLine; decide, fun b nb => ?_⟩
        generalize hX : upd H5 b _ = H6; obtain ⟨sH6, eb⟩ := nw nb hX; clear hX
        refine ⟨_, .ref b, rfl, s5.trans sH6, ?_⟩
        have ew : ss.drop (ss.length - (i + 1)) = sg :: ss.drop (ss.length - i) := by
          rw [show ss.length - (i + 1) = ss.length - 1 - i by omega, List.drop_eq_getElem_cons (lt_of_get hsg), show ss.length - 1 - i + 1 = ss.length - i by omega]
          rw [List.getElem?_eq_getElem (lt_of_get hsg)] at hsg
          rw [Option.some.inj hsg]
        rw [ew]
        exact ⟨b, fv, rfl, .of eb, hfv.same sH6⟩
      · rintro σ H5 ⟨v3, fv, rfl, s5, hfv⟩
        rw [List.length_reverse, List.length_map, Nat.sub_self] at hfv
        have k5 : Kp x H H5 := fun b o nb e => s5 _ _ (sH4 _ _ (k3 _ _ nb (k2 _ _ nb e)))
        exact ⟨_, rfl, q H5 fv j3 k5 ((r3.same sH4).same s5) hj3 hfv⟩
end
section
variable {C fI fP fT fA fH fF fU fO : Addr} {fdI fdP fdT fdA fdH fdF fdU fdO : FuncData}
theorem gloL (T : Txt K mg w P) : ∃ aL : Addr, mg "LEVELS" = some (.ref aL) ∧ ∃ bs : List Addr, bs.length = 5 ∧ (∀ H, SqT K H aL (bs.map V.ref)) ∧ ∀ l, l < 5 → ∃ b, bs[l]? = some b ∧ ∀ H, SqT K H b ((levL.getD l []).map V.str) := T.er.2.2.2.2.2.1
theorem ok_formL {n l : Nat} {cF fE : Addr} {fdE : FuncData} (hl5 : l < 5) (T : Txt K mg w P) (Z : FsE P K mg cF fE fdE) (R : Rd7 K mg C fI fP fT fA fH fF fU fO fdI fdP fdT fdA fdH fdF fdU fdO) (FF : FnOk P w K mg base (L2.CX P w) (Lv n (l + 1)) fF fdF ["self", "level"] (spRf K C cF n (l + 1))) : FnOk P w K mg base (L2.CX P w) (Lv (n + 1) l) fF fdF ["self", "level"] (spRf K C cF (n + 1) l) := by
  have PC := R.PC
  have MP := R.MP
  have bP := R.bP
  have MT := R.MT
  have bT := R.bT
  have MU := R.MU
  have bU := R.bU
  have MF := R.MF
  have bF := R.bF
  have hLv : 6 ≤ Lv n (l + 1) := by unfold Lv; omega
  have hLs : Lv (n + 1) l = Lv n (l + 1) + 1 := by unfold Lv; rw [show n + 1 + l = n + (l + 1) by omega]; omega
  rw [hLs]
  have FP : FnOk P w K mg base CX0 1 fP fdP ["self"] (spPeek C) := ok_peek R
  have FT : FnOk P w K mg base (L2.CX P w) 5 fT fdT ["self", "kind"] (spTkX C cF) := ok_take T Z R
  have FU : FnOk P w K mg base (L2.CX P w) 1 fU fdU ["self"] (fun _ _ _ _ => False) := R.gU.okX sc_Reader_read_unary (fun vs H Q E h => h.elim) (fun cdv A outer s H vs Q E hr h => h.elim)
  have C_fold : C8.Cal P w K mg base 2 "fold" (spFd K) [] := cal_fold T
  obtain ⟨aL, gLV, bs, hb5, hbs, hbl⟩ := gloL T
  refine R.gF.okX sc_Reader_read_formula (fun vs H Q E h => ?_) (fun cdv A outer s H vs Q E hr h => ?_)
  · obtain ⟨x, dx, ta, pa, ts, i, rfl, _⟩ := h
    rfl
  · obtain ⟨x, dx, ta, pa, ts, i, rfl, rs, hlen, hq⟩ := h
    refine ⟨_, (pss_cons
      (ps_if (pt_cmpR op_eq (pv 1) (pe_callB (call_lenK (K := K) rfl) (by rfl) T.z_len PySem.boot_len (pa_cons (pe_glob (v := .ref aL) (by rfl) gLV rfl) pa_nil)) (nomark _)) (pss_one
      (ps_ret (Mx.pe_methX0 (pv 0) PC.cl MU FU (hr.mono (by omega)) bU (takes_of rfl rfl rfl rfl)))) pss_nil)
      (pss_cons
      (ps_set (i := 2) sc_Reader_read_formula.nd rfl (Or.inl rfl) (pe_lst (pa_cons (Mx.pe_methX (pv 0) PC.cl MF FF (hr.mono (by omega)) bF (takes_of rfl rfl rfl rfl) (pa_cons (pe_op op_add (pv 1) pe_int) pa_nil)) pa_nil)))
      (pss_cons
      (ps_set (i := 3) sc_Reader_read_formula.nd rfl (Or.inl rfl) (pe_lst pa_nil))
      (C8.pss_cut
      (ps_while (passes_of rfl) (pt_cmpR (op_inK (K := K) rfl) (pe_meth0 (pv 0) PC.cl MP FP (hr.mono (by omega)) bP .nil pass0) (pe_ix (ix_tupK (K := K) rfl) (pe_glob (v := .ref aL) (by rfl) gLV rfl) (pv 1) (fun _ _ => rfl)) (by rfl)) (pss_cons
      (ps_expr (pe_bm PySem.F.plainAttrs_list PySem.F.slot_list_append PySem.F.type_list_append mt_append (pv 3) (pa_cons (Mx.pe_methX (pv 0) PC.cl MT FT (hr.mono (by omega)) bT (takes_of rfl rfl rfl rfl) (pa_cons (pe_meth0 (pv 0) PC.cl MP FP (hr.mono (by omega)) bP .nil pass0) pa_nil)) pa_nil)))
      (pss_one
      (ps_expr (pe_bm PySem.F.plainAttrs_list PySem.F.slot_list_append PySem.F.type_list_append mt_append (pv 2) (pa_cons (Mx.pe_methX (pv 0) PC.cl MF FF (hr.mono (by omega)) bF (takes_of rfl rfl rfl rfl) (pa_cons (pe_op op_add (pv 1) pe_int) pa_nil)) pa_nil))))))
      (pss_one
      (ps_ret (C8.pe_c C_fold hr (by omega) (by rfl) (pa_cons (pv 3) (pa_cons (pv 2) pa_nil))))))))), ?_⟩
    refine ⟨_, rfl, aL, _, rfl, .inr (hbs H), rfl, _, rfl, ?_⟩
    rw [List.length_map, hb5]
    refine iteB_f (decide_eq_false fun z => by have := V.int.inj z; omega) ?_
    have hlen1 := hlen.1
    rcases hq with ⟨f, r, hrd, q⟩ | ⟨p, hrd, q⟩
    case inr =>
      rcases hrd with ⟨z, _⟩ | ⟨_, h1 | ⟨f1, r1, h1, hch⟩⟩
      · omega
      · exact ⟨_, rfl, x, dx, _, rfl, rs.hx, rfl, _, rfl, _, _, rfl, rfl, x, dx, ta, pa, ts, i, rfl, rs, hlen, .inr ⟨p, h1, q⟩⟩
      refine ⟨_, rfl, x, dx, _, rfl, rs.hx, rfl, _, rfl, _, _, rfl, rfl, x, dx, ta, pa, ts, i, rfl, rs, hlen, .inl ⟨f1, r1, h1, fun H1 v1 j1 k1 rs1 hj1 hv1 => ?_⟩⟩
      rw [← hj1] at hch
      refine ⟨by show 1 ≤ sizeLine; decide, fun PL nPL => ?_⟩
      generalize hX : upd H1 PL _ = H2; obtain ⟨sH2, ePL⟩ := nw nPL hX; clear hX
      refine ⟨Nat.zero_le _, fun OL nOL => ?_⟩
      generalize hX : upd H2 OL _ = H3; obtain ⟨sH3, eOL⟩ := nw nOL hX; clear hX
      have nOP : OL ≠ PL := fun z => by rw [z, ePL] at nOL; cases nOL
      have rs3 := (rs1.same sH2).same sH3
      have ePL3 := sH3 _ _ ePL
      have nPx : PL ≠ x := fun z => by rw [z, rs1.hx] at nPL; cases nPL
      have nOx : OL ≠ x := fun z => by have := (rs1.same sH2).hx; rw [z, this] at nOL; cases nOL
      obtain ⟨asT, q1, q2⟩ := id rs1.ht
      have nPt : PL ≠ ta := fun z => by rw [z, q1] at nPL; cases nPL
      have nOt : OL ≠ ta := fun z => by rw [z, sH2 _ _ q1] at nOL; cases nOL
      refine ⟨fun σ H' => False, ?_, fun σ H' h => h.elim⟩
      refine ⟨fun m σ H' => ∃ (j : Nat) (us : List V) (od : List Str), m = (ts.drop j).length ∧ σ = [some (.ref x), some (.int (l : Int)), some (.ref PL), some (.ref OL)] ∧ Rs C H' x dx ta pa ts j ∧ H' PL = some (.lst us) ∧ H' OL = some (.lst (od.map V.str)) ∧ us.length + (ts.drop j).length ≤ 1001 ∧ od.length + (ts.drop j).length ≤ 1000 ∧ ChE (RdF n (l + 1)) (RdE n (l + 1)) l (ts.drop j) p ∧ Kp x H H',
        ⟨_, j1, [v1], [], rfl, rfl, rs3, ePL3, eOL, by rw [List.length_drop, List.length_singleton]; omega, by rw [List.length_drop, List.length_nil]; omega, hch, (k1.trans (Same.kp sH2)).trans (Same.kp sH3)⟩, ?_⟩
      have frP : ∀ b o, b ≠ x → H b = some o → b ≠ PL := fun b o nb e z => by
        have := k1 _ _ nb e
        rw [z, nPL] at this
        cases this
      have frO : ∀ b o, b ≠ x → H b = some o → b ≠ OL := fun b o nb e z => by
        have := sH2 _ _ (k1 _ _ nb e)
        rw [z, nOL] at this
        cases this
      clear hv1 ePL3 eOL rs3 hch rs1 k1 nPL nOL ePL q1 q2
      rintro m σ H4 ⟨j, us, od, rfl, rfl, r4, e4, o4, l4, m4, c4, kk⟩
      obtain ⟨b, hb, hbq⟩ := hbl l hl5
      cases hd : ts.drop j with
      | nil => rw [hd] at c4; cases c4
      | cons t rr =>
        rw [hd, List.length_cons] at l4 m4
        rw [hd] at c4
        obtain ⟨ht, hd1⟩ := drop_get hd
        refine peekq rfl r4 ht ?_
        refine ⟨_, rfl, aL, _, _, _, rfl, rfl, hbs H4, atN hb, inq (hbq H4) ⟨_, rfl, ?_⟩⟩
        have hin : t.k ∈ levL.getD l [] := by cases c4 <;> assumption
        refine iteB_t (decide_eq_true hin) ⟨_, fun _ _ h => h, ?_⟩
        refine ⟨_, rfl, .inl ⟨rfl, _, .of o4⟩, takep rfl r4 ht fun H5 k5 r5 => ?_⟩
        have o5 := k5 _ _ nOx o4
        have e5 := k5 _ _ nPx e4
        refine ⟨OL, _, _, rfl, rfl, o5, by rw [List.length_map]; exact Nat.lt_of_le_of_lt (show od.length ≤ 1000 by omega) (by decide), ?_⟩
        have k6 : Kp OL H5 (upd H5 OL (.lst (od.map V.str ++ [.str t.c]))) := Kp.own
        have o6 : (upd H5 OL (.lst (od.map V.str ++ [.str t.c]))) OL = some (.lst ((od ++ [t.c]).map V.str)) := by rw [upd_same, List.map_append]; rfl
        generalize upd H5 OL (.lst (od.map V.str ++ [.str t.c])) = H6 at k6 o6 ⊢
        have r6 := r5.lst o5 nOt k6
        have e6 := k6 _ _ nOP.symm e5
        refine ⟨_, rfl, .inl ⟨rfl, _, .of e6⟩, _, rfl, x, dx, _, rfl, r6.hx, rfl, _, rfl, _, _, rfl, rfl, x, dx, ta, pa, ts, j + 1, rfl, r6, hlen, ?_⟩
        cases c4 with
        | here _ h2 => exact .inr ⟨p, by rw [hd1]; exact h2, q.mono fun b o nb e => k6 _ _ (frO b o nb e) (k5 _ _ nb (kk _ _ nb e))⟩
        | more hx h2 h3 =>
          rename_i r2 f'
          refine .inl ⟨f', r2, by rw [hd1]; exact h2, fun H7 v7 j7 k7 r7 hj7 hv7 => ?_⟩
          have o7 := k7 _ _ nOx o6
          have e7 := k7 _ _ nPx e6
          have hsh := rd_sh h2
          refine ⟨PL, _, _, rfl, rfl, e7, Nat.lt_of_le_of_lt (show us.length ≤ 1000 by omega) (by decide), ?_⟩
          have k8 : Kp PL H7 (upd H7 PL (.lst (us ++ [v7]))) := Kp.own
          exact ⟨(ts.drop j7).length, by rw [hj7, List.length_cons]; omega, j7, us ++ [v7], od ++ [t.c], rfl, rfl, r7.lst e7 nPt k8, upd_same, k8 _ _ nOP o7, by rw [hj7, List.length_append, List.length_singleton]; omega, by rw [hj7, List.length_append, List.length_singleton]; omega, by rw [hj7]; exact h3, fun b o nb e => k8 _ _ (frP b o nb e) (k7 _ _ nb (k6 _ _ (frO b o nb e) (k5 _ _ nb (kk _ _ nb e))))⟩
    rcases hrd with ⟨z, _⟩ | ⟨_, f1, r1, ops, fs, h1, hch, rfl⟩
    · omega
    refine ⟨_, rfl, x, dx, _, rfl, rs.hx, rfl, _, rfl, _, _, rfl, rfl, x, dx, ta, pa, ts, i, rfl, rs, hlen, .inl ⟨f1, r1, h1, fun H1 v1 j1 k1 rs1 hj1 hv1 => ?_⟩⟩
    have hops := chn_sh hch
    have hol := chn_len hch
    have hkn := chn_kn hl5 hch
    have hj1l : (ts.drop j1).length ≤ ts.length := by rw [List.length_drop]; omega
    rw [← hj1] at hch hops
    refine ⟨by show 1 ≤ sizeLine; decide, fun PL nPL => ?_⟩
    generalize hX : upd H1 PL _ = H2; obtain ⟨sH2, ePL⟩ := nw nPL hX; clear hX
    refine ⟨Nat.zero_le _, fun OL nOL => ?_⟩
    generalize hX : upd H2 OL _ = H3; obtain ⟨sH3, eOL⟩ := nw nOL hX; clear hX
    have nOP : OL ≠ PL := fun z => by rw [z, ePL] at nOL; cases nOL
    have rs3 := (rs1.same sH2).same sH3
    have ePL3 := sH3 _ _ ePL
    have nPx : PL ≠ x := fun z => by rw [z, rs1.hx] at nPL; cases nPL
    have nOx : OL ≠ x := fun z => by have := (rs1.same sH2).hx; rw [z, this] at nOL; cases nOL
    obtain ⟨asT, q1, q2⟩ := id rs1.ht
    have nPt : PL ≠ ta := fun z => by rw [z, q1] at nPL; cases nPL
    have nOt : OL ≠ ta := fun z => by rw [z, sH2 _ _ q1] at nOL; cases nOL
    have frP : ∀ b o, b ≠ x → H b = some o → b ≠ PL := fun b o nb e z => by
      have := k1 _ _ nb e
      rw [z, nPL] at this
      cases this
    have frO : ∀ b o, b ≠ x → H b = some o → b ≠ OL := fun b o nb e z => by
      have := sH2 _ _ (k1 _ _ nb e)
      rw [z, nOL] at this
      cases this
    have kk : ∀ b o, b ≠ x → H b = some o → H3 b = some o := fun b o nb e => sH3 _ _ (sH2 _ _ (k1 _ _ nb e))
    have hv3 : FmsAt K H3 [v1] [f1] := ⟨(hv1.same sH2).same sH3, trivial⟩
    clear k1 rs1 hv1 sH2 sH3 ePL q1 q2 nPL nOL
    refine ⟨fun σ H' => ∃ (j : Nat) (us : List V), σ = [some (.ref x), some (.int (l : Int)), some (.ref PL), some (.ref OL)] ∧ (∀ b o, b ≠ x → H b = some o → H' b = some o) ∧ Rs C H' x dx ta pa ts j ∧ H' PL = some (.lst us) ∧ H' OL = some (.lst (ops.map V.str)) ∧ FmsAt K H' us (f1 :: fs) ∧ ts.drop j = r, ?_, ?_⟩
    · refine ⟨fun m σ H' => ∃ (j : Nat) (us : List V) (od or : List Str) (gd gr : List Fm), m = or.length ∧ ops = od ++ or ∧ fs = gd ++ gr ∧ σ = [some (.ref x), some (.int (l : Int)), some (.ref PL), some (.ref OL)] ∧ (∀ b o, b ≠ x → H b = some o → H' b = some o) ∧ Rs C H' x dx ta pa ts j ∧ H' PL = some (.lst us) ∧ H' OL = some (.lst (od.map V.str)) ∧ FmsAt K H' us (f1 :: gd) ∧ Chn (RdF n (l + 1)) l (ts.drop j) or gr r,
        ⟨_, j1, [v1], [], ops, [], fs, rfl, rfl, rfl, rfl, kk, rs3, ePL3, eOL, hv3, hch⟩, ?_⟩
      clear hv3 ePL3 eOL rs3 kk hch
      rintro m σ H4 ⟨j, us, od, or, gd, gr, rfl, hod, hgd, rfl, k4, r4, e4, o4, f4, c4⟩
      obtain ⟨b, hb, hbq⟩ := hbl l hl5
      cases hd : ts.drop j with
      | nil => rw [hd] at c4; cases c4
      | cons t rr =>
        rw [hd] at c4
        obtain ⟨ht, hd1⟩ := drop_get hd
        refine peekq rfl r4 ht ?_
        refine ⟨_, rfl, aL, _, _, _, rfl, rfl, hbs H4, atN hb, inq (hbq H4) ⟨_, rfl, ?_⟩⟩
        cases c4 with
        | nil h1 =>
          refine iteB_f (decide_eq_false h1) ⟨j, us, rfl, k4, r4, e4, ?_, ?_, hd⟩
          · rw [o4, hod, List.append_nil]
          · rw [hgd, List.append_nil]
            exact f4
        | cons h1 h2 h3 h4 =>
          rename_i r2 f' or' gr'
          refine iteB_t (decide_eq_true h1) ⟨_, fun _ _ h => h, ?_⟩
          have hodl : od.length < 1000 := by
            have := congrArg List.length hod
            rw [List.length_append, List.length_cons] at this
            omega
          have hgdl : gd.length < 1000 := by
            have := congrArg List.length hgd
            rw [List.length_append, List.length_cons] at this
            omega
          refine ⟨_, rfl, .inl ⟨rfl, _, .of o4⟩, takep rfl r4 ht fun H5 k5 r5 => ?_⟩
          have o5 := k5 _ _ nOx o4
          have e5 := k5 _ _ nPx e4
          have f5 := fms_tq (tq_kp r4.hx k5) f4
          refine ⟨OL, _, _, rfl, rfl, o5, by rw [List.length_map]; exact Nat.lt_of_lt_of_le hodl (by decide), ?_⟩
          have k6 : Kp OL H5 (upd H5 OL (.lst (od.map V.str ++ [.str t.c]))) := Kp.own
          have o6 : (upd H5 OL (.lst (od.map V.str ++ [.str t.c]))) OL = some (.lst ((od ++ [t.c]).map V.str)) := by rw [upd_same, List.map_append]; rfl
          generalize upd H5 OL (.lst (od.map V.str ++ [.str t.c])) = H6 at k6 o6 ⊢
          have r6 := r5.lst o5 nOt k6
          have e6 := k6 _ _ nOP.symm e5
          have f6 := fms_tq (tq_l o5 k6) f5
          refine ⟨_, rfl, .inl ⟨rfl, _, .of e6⟩, _, rfl, x, dx, _, rfl, r6.hx, rfl, _, rfl, _, _, rfl, rfl, x, dx, ta, pa, ts, j + 1, rfl, r6, hlen, .inl ⟨f', r2, by rw [hd1]; exact h3, fun H7 v7 j7 k7 r7 hj7 hv7 => ?_⟩⟩
          have o7 := k7 _ _ nOx o6
          have e7 := k7 _ _ nPx e6
          have f7 := fms_tq (tq_kp r6.hx k7) f6
          have hul := f7.len
          rw [List.length_cons] at hul
          refine ⟨PL, _, _, rfl, rfl, e7, by rw [hul]; exact Nat.lt_of_le_of_lt (show gd.length + 1 ≤ 1000 by omega) (by decide), ?_⟩
          have k8 : Kp PL H7 (upd H7 PL (.lst (us ++ [v7]))) := Kp.own
          refine ⟨or'.length, Nat.lt_succ_self _, j7, us ++ [v7], od ++ [t.c], or', gd ++ [f'], gr', rfl, by rw [hod]; simp, by rw [hgd]; simp, rfl, fun b o nb e => ?_, r7.lst e7 nPt k8, upd_same, k8 _ _ nOP o7, ?_, by rw [hj7]; exact h4⟩
          · exact k8 _ _ (frP b o nb e) (k7 _ _ nb (k6 _ _ (frO b o nb e) (k5 _ _ nb (k4 _ _ nb e))))
          · have := (fms_tq (tq_l e7 k8) f7).app (us := [v7]) (gs := [f']) ⟨fm_tq (tq_l e7 k8) hv7, trivial⟩
            simpa using this
    · clear hv3 ePL3 eOL rs3 kk hch
      rintro σ H4 ⟨j, us, rfl, k4, r4, e4, o4, f4, hj⟩
      exact ⟨_, rfl, _, rfl, OL, PL, ops, us, f1, fs, rfl, o4, e4, f4, hol, by omega, hkn, fun H5 v s5 hv => q H5 v j (fun b o nb e => s5 _ _ (k4 _ _ nb e)) (r4.same s5) hj hv⟩
theorem ok_form5 {n : Nat} {cF fE : Addr} {fdE : FuncData} (T : Txt K mg w P) (Z : FsE P K mg cF fE fdE) (R : Rd7 K mg C fI fP fT fA fH fF fU fO fdI fdP fdT fdA fdH fdF fdU fdO) (FF : FnOk P w K mg base (L2.CX P w) (Lv n 0) fF fdF ["self", "level"] (spRf K C cF n 0)) : FnOk P w K mg base (L2.CX P w) (Lv (n + 1) 5) fF fdF ["self", "level"] (spRf K C cF (n + 1) 5) := by
  have PC := R.PC
  have MP := R.MP
  have bP := R.bP
  have MT := R.MT
  have bT := R.bT
  have MU := R.MU
  have bU := R.bU
  have MF := R.MF
  have bF := R.bF
  have hLv : 6 ≤ Lv n 0 := by unfold Lv; omega
  have hLs : Lv (n + 1) 5 = Lv n 0 + 3 := by unfold Lv; omega
  rw [hLs]
  have FP : FnOk P w K mg base CX0 1 fP fdP ["self"] (spPeek C) := ok_peek R
  have FT : FnOk P w K mg base (L2.CX P w) 5 fT fdT ["self", "kind"] (spTkX C cF) := ok_take T Z R
  have FU := ok_unary T Z R FF
  have C_fold : C8.Cal P w K mg base 2 "fold" (spFd K) [] := cal_fold T
  obtain ⟨aL, gLV, bs, hb5, hbs, hbl⟩ := gloL T
  refine R.gF.okX sc_Reader_read_formula (fun vs H Q E h => ?_) (fun cdv A outer s H vs Q E hr h => ?_)
  · obtain ⟨x, dx, ta, pa, ts, i, rfl, _⟩ := h
    rfl
  · obtain ⟨x, dx, ta, pa, ts, i, rfl, rs, hlen, hq⟩ := h
    refine ⟨_, (pss_cons
      (ps_if (pt_cmpR op_eq (pv 1) (pe_callB (call_lenK (K := K) rfl) (by rfl) T.z_len PySem.boot_len (pa_cons (pe_glob (v := .ref aL) (by rfl) gLV rfl) pa_nil)) (nomark _)) (pss_one
      (ps_ret (Mx.pe_methX0 (pv 0) PC.cl MU FU (hr.mono (by omega)) bU (takes_of rfl rfl rfl rfl)))) pss_nil)
      (pss_cons
      (ps_set (i := 2) sc_Reader_read_formula.nd rfl (Or.inl rfl) (pe_lst (pa_cons (Mx.pe_methX (pv 0) PC.cl MF FF (hr.mono (by omega)) bF (takes_of rfl rfl rfl rfl) (pa_cons (pe_op op_add (pv 1) pe_int) pa_nil)) pa_nil)))
      (pss_cons
      (ps_set (i := 3) sc_Reader_read_formula.nd rfl (Or.inl rfl) (pe_lst pa_nil))
      (C8.pss_cut
      (ps_while (passes_of rfl) (pt_cmpR (op_inK (K := K) rfl) (pe_meth0 (pv 0) PC.cl MP FP (hr.mono (by omega)) bP .nil pass0) (pe_ix (ix_tupK (K := K) rfl) (pe_glob (v := .ref aL) (by rfl) gLV rfl) (pv 1) (fun _ _ => rfl)) (by rfl)) (pss_cons
      (ps_expr (pe_bm PySem.F.plainAttrs_list PySem.F.slot_list_append PySem.F.type_list_append mt_append (pv 3) (pa_cons (Mx.pe_methX (pv 0) PC.cl MT FT (hr.mono (by omega)) bT (takes_of rfl rfl rfl rfl) (pa_cons (pe_meth0 (pv 0) PC.cl MP FP (hr.mono (by omega)) bP .nil pass0) pa_nil)) pa_nil)))
      (pss_one
      (ps_expr (pe_bm PySem.F.plainAttrs_list PySem.F.slot_list_append PySem.F.type_list_append mt_append (pv 2) (pa_cons (Mx.pe_methX (pv 0) PC.cl MF FF (hr.mono (by omega)) bF (takes_of rfl rfl rfl rfl) (pa_cons (pe_op op_add (pv 1) pe_int) pa_nil)) pa_nil))))))
      (pss_one
      (ps_ret (C8.pe_c C_fold hr (by omega) (by rfl) (pa_cons (pv 3) (pa_cons (pv 2) pa_nil))))))))), ?_⟩
    refine ⟨_, rfl, aL, _, rfl, .inr (hbs H), rfl, _, rfl, ?_⟩
    rw [List.length_map, hb5]
    refine iteB_t (by rfl) ?_
    refine ⟨_, rfl, x, dx, _, rfl, rs.hx, rfl, x, dx, ta, pa, ts, i, rfl, rs, hlen, ?_⟩
    rcases hq with ⟨f, r, ⟨_, ss, g, hu, rfl⟩ | ⟨z, _⟩, q⟩ | ⟨p, ⟨_, hu⟩ | ⟨z, _⟩, q⟩
    · exact .inl ⟨ss, g, r, hu, q⟩
    · omega
    · exact .inr ⟨p, hu, q⟩
    · omega
theorem ok_formula {cF fE : Addr} {fdE : FuncData} (T : Txt K mg w P) (Z : FsE P K mg cF fE fdE) (R : Rd7 K mg C fI fP fT fA fH fF fU fO fdI fdP fdT fdA fdH fdF fdU fdO) : ∀ n l, l ≤ 5 → FnOk P w K mg base (L2.CX P w) (Lv n l) fF fdF ["self", "level"] (spRf K C cF n l)
  | 0, l, _ => by
    rw [show Lv 0 l = 5 + 2 * ((0 + l) / 6) + 1 by unfold Lv; omega]
    refine R.gF.okX sc_Reader_read_formula (fun vs H Q E h => ?_) (fun cdv A outer s H vs Q E hr h => ?_)
    · obtain ⟨x, dx, ta, pa, ts, i, rfl, _⟩ := h
      rfl
    · exfalso
      obtain ⟨x, dx, ta, pa, ts, i, rfl, rs, hlen, ⟨f, r, h, _⟩ | ⟨p, h, _⟩⟩ := h
      · exact h.elim
      · exact h.elim
  | n + 1, l, hl => by
    by_cases c : l = 5
    · subst c
      exact ok_form5 T Z R (ok_formula T Z R n 0 (Nat.zero_le _))
    · exact ok_formL (by omega) T Z R (ok_formula T Z R n (l + 1) (by omega))
end
section
variable {C fI fP fT fA fH fF fU fO : Addr} {fdI fdP fdT fdA fdH fdF fdU fdO : FuncData}
theorem hid_len {ts r : List Tk} {hs : List Str} (h : Hid ts hs r) : hs.length ≤ ts.length := by
  induction h with
  | one _ _ => simp
  | more _ _ _ ih => rw [List.length_cons, List.length_cons, List.length_cons]; omega
theorem kc_ne : ("," : Str) ≠ ":" := by decide +kernel
def spHd (C cF : Addr) : Sp := fun vs H Q E => ∃ (x dx ta pa : Addr) (ts : List Tk) (i : Nat), vs = [.ref x] ∧ Rs C H x dx ta pa ts i ∧ Ps ts ∧
  ((∃ hs r, Hid (ts.drop i) hs r ∧ ∀ (H' : Hp) (p : Addr) (j : Nat), Kp x H H' → Rs C H' x dx ta pa ts j → ts.drop j = r → p ≠ x → H' p = some (.lst (hs.map V.str)) → Q (.ref p) H') ∨ (∃ p, HiE (ts.drop i) p ∧ XP cF p x H E))
theorem ok_hidden {cF fE : Addr} {fdE : FuncData} (T : Txt K mg w P) (Z : FsE P K mg cF fE fdE) (R : Rd7 K mg C fI fP fT fA fH fF fU fO fdI fdP fdT fdA fdH fdF fdU fdO) : FnOk P w K mg base (L2.CX P w) 6 fH fdH ["self"] (spHd C cF) := by
  have PC := R.PC
  have MP := R.MP
  have bP := R.bP
  have MT := R.MT
  have bT := R.bT
  have FP : FnOk P w K mg base CX0 1 fP fdP ["self"] (spPeek C) := ok_peek R
  have FT : FnOk P w K mg base (L2.CX P w) 5 fT fdT ["self", "kind"] (spTkX C cF) := ok_take T Z R
  refine R.gH.okX sc_Reader_read_hidden (fun vs H Q E h => ?_) (fun cdv A outer s H vs Q E hr h => ?_)
  · obtain ⟨x, dx, ta, pa, ts, i, rfl, _⟩ := h
    rfl
  · obtain ⟨x, dx, ta, pa, ts, i, rfl, rs, hl2, hq⟩ := h
    refine ⟨_, (pss_cons
      (ps_set (i := 1) sc_Reader_read_hidden.nd rfl (Or.inl rfl) (pe_lst (pa_cons (Mx.pe_methX (pv 0) PC.cl MT FT (hr.mono (by omega)) bT (takes_of rfl rfl rfl rfl) (pa_cons pe_str pa_nil)) pa_nil)))
      (C8.pss_cut
      (ps_while (passes_of rfl) (pt_cmpR op_eq (pe_meth0 (pv 0) PC.cl MP FP (hr.mono (by omega)) bP .nil pass0) pe_str (nomark _)) (pss_cons
      (ps_expr (Mx.pe_methX (pv 0) PC.cl MT FT (hr.mono (by omega)) bT (takes_of rfl rfl rfl rfl) (pa_cons pe_str pa_nil)))
      (pss_one
      (ps_expr (pe_bm PySem.F.plainAttrs_list PySem.F.slot_list_append PySem.F.type_list_append mt_append (pv 1) (pa_cons (Mx.pe_methX (pv 0) PC.cl MT FT (hr.mono (by omega)) bT (takes_of rfl rfl rfl rfl) (pa_cons pe_str pa_nil)) pa_nil))))))
      (pss_cons
      (ps_expr (Mx.pe_methX (pv 0) PC.cl MT FT (hr.mono (by omega)) bT (takes_of rfl rfl rfl rfl) (pa_cons pe_str pa_nil)))
      (pss_one
      (ps_ret (pv 1)))))), ?_⟩
    have hl := hl2.1
    rcases hq with ⟨hs, r, hh, q⟩ | ⟨p, hh, q⟩
    case inr =>
      have bd : ∀ {i : Nat} {t : Tk}, ts[i]? = some t → t.p ≤ 1000000 := fun h => hl2.2 _ (List.mem_of_getElem? h)
      cases hd : ts.drop i with
      | nil => rw [hd] at hh; cases hh
      | cons t tl =>
        rw [hd] at hh
        obtain ⟨ht, hd1⟩ := drop_get hd
        by_cases hn : t.k = "name"
        case neg =>
          cases hh with
          | nm h1 => exact takee rfl rs ht hn (bd ht) q
          | sep h1 _ _ => exact absurd h1 hn
          | more h1 _ _ => exact absurd h1 hn
        obtain ⟨u, rr, rfl, hor⟩ : ∃ u rr, tl = u :: rr ∧ ((u.k ≠ "," ∧ u.k ≠ ":" ∧ p = u.p) ∨ (u.k = "," ∧ HiE rr p)) := by
          cases hh with
          | nm h1 => exact absurd hn h1
          | sep h1 h2 h3 => exact ⟨_, _, rfl, .inl ⟨h2, h3, rfl⟩⟩
          | more h1 h2 h3 => exact ⟨_, _, rfl, .inr ⟨h2, h3⟩⟩
        refine takeq rfl rs ht hn fun H1 k1 r1 => ?_
        refine ⟨by show 1 ≤ sizeLine; decide, fun D nD => ?_⟩
        have nDx : D ≠ x := fun z => by rw [z, r1.hx] at nD; cases nD
        have frD : ∀ b o, b ≠ x → H b = some o → b ≠ D := fun b o nb e z => by
          have := k1 _ _ nb e
          rw [z, nD] at this
          cases this
        have nDt : D ≠ ta := fun z => by
          obtain ⟨as, q1, _⟩ := r1.ht
          rw [← z] at q1
          rw [nD] at q1
          cases q1
        generalize hX : upd H1 D _ = H2; obtain ⟨sH2, eD⟩ := nw nD hX; clear hX
        refine ⟨fun σ H' => ∃ (j : Nat) (u : Tk) (rr : List Tk), σ = [some (.ref x), some (.ref D)] ∧ Rs C H' x dx ta pa ts j ∧ ts.drop j = u :: rr ∧ u.k ≠ ":" ∧ p = u.p ∧ Kp x H H', ?_, ?_⟩
        · refine ⟨fun m σ H' => ∃ (j : Nat) (u : Tk) (rr : List Tk) (hd : List Str), m = ts.length - j ∧ ts.drop j = u :: rr ∧ ((u.k ≠ "," ∧ u.k ≠ ":" ∧ p = u.p) ∨ (u.k = "," ∧ HiE rr p)) ∧ σ = [some (.ref x), some (.ref D)] ∧ Rs C H' x dx ta pa ts j ∧ H' D = some (.lst (hd.map V.str)) ∧ hd.length ≤ j ∧ Kp x H H',
            ⟨_, i + 1, u, rr, [t.c], rfl, hd1, hor, rfl, r1.same sH2, eD, by simp, k1.trans (Same.kp sH2)⟩, ?_⟩
          clear hor hd1 ht hd hn hh
          rintro m σ H3 ⟨j, u, rr, hdn, rfl, hd, hor, rfl, r3, e3, l3, kk⟩
          obtain ⟨ht, hd1⟩ := drop_get hd
          have hjl := lt_of_get ht
          refine peekq rfl r3 ht ⟨rfl, _, rfl, ?_⟩
          rcases hor with ⟨h1, h2, h3⟩ | ⟨hu, hid⟩
          · exact iteB_f (decide_eq_false fun z => h1 (V.str.inj z)) ⟨j, u, rr, rfl, r3, hd, h2, h3, kk⟩
          · refine iteB_t (decide_eq_true (by rw [hu])) ⟨_, fun _ _ h => h, ?_⟩
            refine takeq rfl r3 ht hu fun H4 k4 r4 => ?_
            have e4 := k4 _ _ nDx e3
            refine ⟨_, rfl, .inl ⟨rfl, _, .of e4⟩, ?_⟩
            cases rr with
            | nil => cases hid
            | cons t' tl' =>
              obtain ⟨ht', hd2⟩ := drop_get hd1
              by_cases hn : t'.k = "name"
              case neg =>
                cases hid with
                | nm h1 => exact takee rfl r4 ht' hn (bd ht') (q.mono (kk.trans k4))
                | sep h1 _ _ => exact absurd h1 hn
                | more h1 _ _ => exact absurd h1 hn
              obtain ⟨u', rr', rfl, hor'⟩ : ∃ u rr, tl' = u :: rr ∧ ((u.k ≠ "," ∧ u.k ≠ ":" ∧ p = u.p) ∨ (u.k = "," ∧ HiE rr p)) := by
                cases hid with
                | nm h1 => exact absurd hn h1
                | sep h1 h2 h3 => exact ⟨_, _, rfl, .inl ⟨h2, h3, rfl⟩⟩
                | more h1 h2 h3 => exact ⟨_, _, rfl, .inr ⟨h2, h3⟩⟩
              refine takeq rfl r4 ht' hn fun H5 k5 r5 => ?_
              have e5 := k5 _ _ nDx e4
              refine ⟨D, _, _, rfl, rfl, e5, by rw [List.length_map]; exact Nat.lt_of_le_of_lt (show hdn.length ≤ 1000 by omega) (by decide), ?_⟩
              exact ⟨ts.length - (j + 1 + 1), by omega, j + 1 + 1, u', rr', hdn ++ [t'.c], rfl, hd2, hor', rfl, r5.lst e5 nDt Kp.own, by rw [upd_same, List.map_append]; rfl, by rw [List.length_append, List.length_singleton]; omega, fun b o nb e => by rw [upd_ne (frD b o nb e)]; exact k5 _ _ nb (k4 _ _ nb (kk _ _ nb e))⟩
        · rintro σ H3 ⟨j, u, rr, rfl, r3, hd, h2, rfl, kk⟩
          obtain ⟨ht, hd1⟩ := drop_get hd
          exact takee rfl r3 ht h2 (bd ht) (q.mono kk)
    have hlen : hs.length ≤ 1000 := by
      have := hid_len hh
      rw [List.length_drop] at this
      omega
    obtain ⟨t, u, rr, hr, hd, hn, hs1, hor⟩ : ∃ (t u : Tk) (rr : List Tk) (hr : List Str), ts.drop i = t :: u :: rr ∧ t.k = "name" ∧ hs = [t.c] ++ hr ∧ ((hr = [] ∧ u.k = ":" ∧ rr = r) ∨ (u.k = "," ∧ Hid rr hr r)) := by
      cases e : ts.drop i with
      | nil => rw [e] at hh; cases hh
      | cons t tl =>
        rw [e] at hh
        cases hh with
        | one h1 h2 => exact ⟨t, _, _, [], rfl, h1, rfl, .inl ⟨rfl, h2, rfl⟩⟩
        | more h1 h2 h3 => exact ⟨t, _, _, _, rfl, h1, rfl, .inr ⟨h2, h3⟩⟩
    obtain ⟨ht, hd1⟩ := drop_get hd
    refine takeq rfl rs ht hn fun H1 k1 r1 => ?_
    refine ⟨by show 1 ≤ sizeLine; decide, fun D nD => ?_⟩
    have nDx : D ≠ x := fun z => by rw [z, r1.hx] at nD; cases nD
    have frD : ∀ b o, b ≠ x → H b = some o → b ≠ D := fun b o nb e z => by
      have := k1 _ _ nb e
      rw [z, nD] at this
      cases this
    have nDt : D ≠ ta := fun z => by
      obtain ⟨as, q1, _⟩ := r1.ht
      rw [← z] at q1
      rw [nD] at q1
      cases q1
    generalize hX : upd H1 D _ = H2; obtain ⟨sH2, eD⟩ := nw nD hX; clear hX
    refine ⟨fun σ H' => ∃ (j : Nat) (u : Tk), σ = [some (.ref x), some (.ref D)] ∧ (∀ b o, b ≠ x → H b = some o → H' b = some o) ∧ Rs C H' x dx ta pa ts j ∧ H' D = some (.lst (hs.map V.str)) ∧ ts.drop j = u :: r ∧ u.k = ":", ?_, ?_⟩
    · refine ⟨fun m σ H' => ∃ (j : Nat) (u : Tk) (rr : List Tk) (hd hr : List Str), m = hr.length ∧ ts.drop j = u :: rr ∧ hs = hd ++ hr ∧ ((hr = [] ∧ u.k = ":" ∧ rr = r) ∨ (u.k = "," ∧ Hid rr hr r)) ∧ σ = [some (.ref x), some (.ref D)] ∧ (∀ b o, b ≠ x → H b = some o → H' b = some o) ∧ Rs C H' x dx ta pa ts j ∧ H' D = some (.lst (hd.map V.str)),
        ⟨_, i + 1, u, rr, [t.c], hr, rfl, hd1, hs1, hor, rfl, fun b o nb e => sH2 _ _ (k1 _ _ nb e), r1.same sH2, eD⟩, ?_⟩
      clear hor hd1 ht hd hs1 hn
      rintro m σ H3 ⟨j, u, rr, hdn, hr, rfl, hd, hs1, hor, rfl, k3, r3, e3⟩
      obtain ⟨ht, hd1⟩ := drop_get hd
      refine peekq rfl r3 ht ⟨rfl, _, rfl, ?_⟩
      rcases hor with ⟨rfl, hu, rfl⟩ | ⟨hu, hid⟩
      · refine iteB_f (decide_eq_false fun z => kc_ne ((V.str.inj z).symm.trans hu)) ⟨j, u, rfl, k3, r3, ?_, hd, hu⟩
        rw [e3, hs1, List.append_nil]
      · refine iteB_t (decide_eq_true (by rw [hu])) ⟨_, fun _ _ h => h, ?_⟩
        refine takeq rfl r3 ht hu fun H4 k4 r4 => ?_
        have e4 := k4 _ _ nDx e3
        obtain ⟨t', u', rr', hr', hd', hn', hs', hor'⟩ : ∃ (t u : Tk) (r2 : List Tk) (h2 : List Str), rr = t :: u :: r2 ∧ t.k = "name" ∧ hr = [t.c] ++ h2 ∧ ((h2 = [] ∧ u.k = ":" ∧ r2 = r) ∨ (u.k = "," ∧ Hid r2 h2 r)) := by
          cases hid with
          | one h1 h2 => exact ⟨_, _, _, [], rfl, h1, rfl, .inl ⟨rfl, h2, rfl⟩⟩
          | more h1 h2 h3 => exact ⟨_, _, _, _, rfl, h1, rfl, .inr ⟨h2, h3⟩⟩
        rw [hd'] at hd1
        obtain ⟨ht', hd2⟩ := drop_get hd1
        refine ⟨_, rfl, .inl ⟨rfl, _, .of e4⟩, takeq rfl r4 ht' hn' fun H5 k5 r5 => ?_⟩
        have e5 := k5 _ _ nDx e4
        have hdl : hdn.length < 1000 := by
          have := congrArg List.length hs1
          rw [hs', List.length_append, List.length_append, List.length_singleton] at this
          omega
        refine ⟨D, _, _, rfl, rfl, e5, by rw [List.length_map]; exact Nat.lt_of_lt_of_le hdl (by decide), ?_⟩
        refine ⟨hr'.length, by rw [hs', List.length_append, List.length_singleton]; omega, j + 1 + 1, u', rr', hdn ++ [t'.c], hr', rfl, hd2, by rw [hs1, hs']; simp, hor', rfl, fun b o nb e => ?_, r5.lst e5 nDt Kp.own, by rw [upd_same, List.map_append]; rfl⟩
        rw [upd_ne (frD b o nb e)]
        exact k5 _ _ nb (k4 _ _ nb (k3 _ _ nb e))
    · rintro σ H3 ⟨j, u, rfl, k3, r3, e3, hd, hu⟩
      obtain ⟨ht, hd1⟩ := drop_get hd
      refine takeq rfl r3 ht hu fun H4 k4 r4 => ?_
      exact ⟨_, rfl, q H4 D (j + 1) (fun b o nb e => k4 _ _ nb (k3 _ _ nb e)) r4 hd1 nDx (k4 _ _ nDx e3)⟩
def spRa (K : PySem.W.Frag) (C cF : Addr) (n : Nat) : Sp := fun vs H Q E => ∃ (x dx ta pa : Addr) (ts : List Tk), vs = [.ref x] ∧ Rs C H x dx ta pa ts 0 ∧ Ps ts ∧
  ((∃ qu hs f, Rda n ts qu hs f ∧ ∀ (H' : Hp) (p hp : Addr) (v : V), Kp x H H' → H' p = some (.tup [.str qu, .ref hp, v]) → H' hp = some (.lst (hs.map V.str)) → FmAt K H' v f → Q (.ref p) H') ∨ (∃ p, RaE n ts p ∧ XP cF p x H E))
theorem ok_all {n : Nat} {cF fE : Addr} {fdE : FuncData} (T : Txt K mg w P) (Z : FsE P K mg cF fE fdE) (R : Rd7 K mg C fI fP fT fA fH fF fU fO fdI fdP fdT fdA fdH fdF fdU fdO) : FnOk P w K mg base (L2.CX P w) (Lv n 0 + 1) fA fdA ["self"] (spRa K C cF n) := by
  have PC := R.PC
  have MP := R.MP
  have bP := R.bP
  have MT := R.MT
  have bT := R.bT
  have MH := R.MH
  have bH := R.bH
  have MF := R.MF
  have bF := R.bF
  have hLv : 6 ≤ Lv n 0 := by unfold Lv; omega
  have FP : FnOk P w K mg base CX0 1 fP fdP ["self"] (spPeek C) := ok_peek R
  have FT : FnOk P w K mg base (L2.CX P w) 5 fT fdT ["self", "kind"] (spTkX C cF) := ok_take T Z R
  have FH : FnOk P w K mg base (L2.CX P w) 6 fH fdH ["self"] (spHd C cF) := ok_hidden T Z R
  have FF := ok_formula (P := P) (w := w) (base := base) T Z R n 0 (Nat.zero_le _)
  obtain ⟨aQ, aN, gQ, gN⟩ := gloQ T
  refine R.gA.okX sc_Reader_read_all (fun vs H Q E h => ?_) (fun cdv A outer s H vs Q E hr h => ?_)
  · obtain ⟨x, dx, ta, pa, ts, rfl, _⟩ := h
    rfl
  · obtain ⟨x, dx, ta, pa, ts, rfl, rs, hl, hq⟩ := h
    refine ⟨_, (pss_cons
      (ps_set (i := 1) sc_Reader_read_all.nd rfl (Or.inl rfl) pe_str)
      (pss_cons
      (ps_set (i := 2) sc_Reader_read_all.nd rfl (Or.inl rfl) (pe_lst pa_nil))
      (C8.pss_cut
      (ps_if (pt_cmpR (op_inK (K := K) rfl) (pe_meth0 (pv 0) PC.cl MP FP (hr.mono (by omega)) bP .nil pass0) (pe_glob (v := .ref aQ) (by rfl) gQ.g rfl) (by rfl)) (pss_cons
      (ps_set (i := 1) sc_Reader_read_all.nd rfl (Or.inl rfl) (Mx.pe_methX (pv 0) PC.cl MT FT (hr.mono (by omega)) bT (takes_of rfl rfl rfl rfl) (pa_cons (pe_meth0 (pv 0) PC.cl MP FP (hr.mono (by omega)) bP .nil pass0) pa_nil)))
      (pss_one
      (ps_set (i := 2) sc_Reader_read_all.nd rfl (Or.inl rfl) (Mx.pe_methX0 (pv 0) PC.cl MH FH (hr.mono (by omega)) bH (takes_of rfl rfl rfl rfl))))) pss_nil)
      (pss_cons
      (ps_set (i := 3) sc_Reader_read_all.nd rfl (Or.inl rfl) (Mx.pe_methX (pv 0) PC.cl MF FF (hr.mono (by omega)) bF (takes_of rfl rfl rfl rfl) (pa_cons pe_int pa_nil)))
      (pss_cons
      (ps_expr (Mx.pe_methX (pv 0) PC.cl MT FT (hr.mono (by omega)) bT (takes_of rfl rfl rfl rfl) (pa_cons pe_str pa_nil)))
      (pss_one
      (ps_ret (pe_tup (pa_cons (pv 1) (pa_cons (pv 2) (pa_cons (pv 3) pa_nil))))))))))), ?_⟩
    rcases hq with ⟨qu, hs, f, hrd, q⟩ | ⟨p, hrd, q⟩
    case inr =>
      obtain ⟨t, r, ets, hor⟩ := hrd
      have hd : ts.drop 0 = t :: r := ets
      obtain ⟨ht, hd1⟩ := drop_get hd
      refine ⟨Nat.zero_le _, fun D nD => ?_⟩
      generalize hX : upd H D _ = H1; obtain ⟨sH1, eD⟩ := nw nD hX; clear hX
      have r1 := rs.same sH1
      refine ⟨fun σ H' => ∃ (hp : Addr) (j : Nat) (qv : V), σ = [some (.ref x), some qv, some (.ref hp), none] ∧ Rs C H' x dx ta pa ts j ∧ RlE n (ts.drop j) p ∧ Kp x H H', ?_, ?_⟩
      · refine peekq rfl r1 ht (inC (gQ.q H1) ⟨_, rfl, ?_⟩)
        rcases hor with ⟨h1, h2⟩ | ⟨h1, h2⟩
        · exact iteB_f (decide_eq_false h1) ⟨D, 0, _, rfl, r1, h2, Same.kp sH1⟩
        · refine iteB_t (decide_eq_true h1) (takep rfl r1 ht fun H2 k2 rs2 => ?_)
          refine ⟨_, rfl, x, dx, _, rfl, rs2.hx, rfl, x, dx, ta, pa, ts, 1, rfl, rs2, hl, ?_⟩
          rcases h2 with h2 | ⟨hs, r3, h2, h3⟩
          · exact .inr ⟨p, by rw [hd1]; exact h2, q.mono ((Same.kp sH1).trans k2)⟩
          · exact .inl ⟨hs, r3, by rw [hd1]; exact h2, fun H3 p' j k3 rs3 hj np ep => ⟨p', j, _, rfl, rs3, by rw [hj]; exact h3, (Same.kp sH1).trans (k2.trans k3)⟩⟩
      · rintro σ H2 ⟨hp, j, qv, rfl, rs2, h2, kk⟩
        refine ⟨_, rfl, x, dx, _, rfl, rs2.hx, rfl, x, dx, ta, pa, ts, j, rfl, rs2, hl, ?_⟩
        rcases h2 with h2 | ⟨f, u, r2, h2, h3, rfl⟩
        · exact .inr ⟨p, h2, q.mono kk⟩
        · refine .inl ⟨f, u :: r2, h2, fun H3 v j3 k3 rs3 hj3 hv => ?_⟩
          obtain ⟨ht3, hd3⟩ := drop_get hj3
          exact takee rfl rs3 ht3 h3 (hl.2 u (List.mem_of_getElem? ht3)) (q.mono (kk.trans k3))
    obtain ⟨t, u, r, ets, hu, hor⟩ := hrd
    have hd : ts.drop 0 = t :: r := ets
    obtain ⟨ht, hd1⟩ := drop_get hd
    refine ⟨Nat.zero_le _, fun D nD => ?_⟩
    generalize hX : upd H D _ = H1; obtain ⟨sH1, eD⟩ := nw nD hX; clear hX
    have r1 := rs.same sH1
    have nDx : D ≠ x := fun z => by rw [z, rs.hx] at nD; cases nD
    refine ⟨fun σ H' => ∃ (hp : Addr) (j : Nat) (r2 : List Tk), σ = [some (.ref x), some (.str qu), some (.ref hp), none] ∧ Kp x H H' ∧ Rs C H' x dx ta pa ts j ∧ hp ≠ x ∧ H' hp = some (.lst (hs.map V.str)) ∧ RdF n 0 (ts.drop j) f (u :: r2), ?_, ?_⟩
    · refine peekq rfl r1 ht (inC (gQ.q H1) ⟨_, rfl, ?_⟩)
      rcases hor with ⟨h1, rfl, rfl, r2, h2⟩ | ⟨h1, rfl, r3, r2, h2, h3⟩
      · exact iteB_f (decide_eq_false h1) ⟨D, 0, r2, rfl, Same.kp sH1, r1, nDx, eD, h2⟩
      · refine iteB_t (decide_eq_true h1) (takep rfl r1 ht fun H2 k2 rs2 => ?_)
        refine ⟨_, rfl, x, dx, _, rfl, rs2.hx, rfl, x, dx, ta, pa, ts, 1, rfl, rs2, hl, .inl ⟨hs, r3, by rw [hd1]; exact h2, fun H3 p j k3 rs3 hj np ep => ?_⟩⟩
        exact ⟨p, j, r2, rfl, (Same.kp sH1).trans (k2.trans k3), rs3, np, ep, by rw [hj]; exact h3⟩
    · rintro σ H2 ⟨hp, j, r2, rfl, k2, rs2, np, ep, h2⟩
      refine ⟨_, rfl, x, dx, _, rfl, rs2.hx, rfl, x, dx, ta, pa, ts, j, rfl, rs2, hl, .inl ⟨f, u :: r2, h2, fun H3 v j3 k3 rs3 hj3 hv => ?_⟩⟩
      obtain ⟨ht3, hd3⟩ := drop_get hj3
      refine takeq rfl rs3 ht3 hu fun H4 k4 rs4 => ?_
      have ep4 := k4 _ _ np (k3 _ _ np ep)
      have hv4 := fm_tq (tq_kp rs3.hx k4) hv
      refine ⟨_, rfl, _, rfl, _, rfl, by show 3 ≤ sizeLine; decide, fun b nb => ?_⟩
      generalize hX : upd H4 b _ = H5; obtain ⟨sH5, eb⟩ := nw nb hX; clear hX
      exact q H5 b hp v (((k2.trans k3).trans k4).trans (Same.kp sH5)) eb (sH5 _ _ ep4) (hv4.same sH5)
end
theorem cal_opers (T : Txt K mg w P) : C8.Cal P w K mg base 1 "operands" (spOpers K) [] := by
  obtain ⟨f, fd, F, hm, hb⟩ := T.h_operands
  refine ⟨f, fd, _, [], F.ok sc_operands (fun vs H Q E h => ?_) (fun cdv A outer s H vs Q E hr h => ?_), hm, F.kp, hb, .nil⟩
  · obtain ⟨v, f, nm, rfl, _⟩ := h
    rfl
  · obtain ⟨v, f, nm, rfl, hf, hw, q⟩ := h
    refine ⟨_, (pss_cons
      (ps_if (pt_cmpR op_eq (pe_ix (ix_tupK (K := K) rfl) (pv 0) pe_int (fun _ _ => rfl)) pe_str (nomark _)) (pss_one
      (ps_ret (pe_tup pa_nil))) pss_nil)
      (pss_one
      (ps_ret (pe_slice (sl_tupK (K := K) rfl) (pv 0) (po_some pe_int) po_none)))), ?_⟩
    have nz : ∀ {k : Str}, k ≠ sSig → (decide (V.str k = V.str "signal")) = false := fun hk => decide_eq_false fun z => hk (V.str.inj z)
    cases f with
    | sg s =>
      obtain ⟨a, rfl, ha⟩ := hf
      refine ⟨_, rfl, a, _, _, _, rfl, rfl, ha, rfl, rfl, _, rfl, iteT ?_⟩
      exact ⟨by show 0 ≤ sizeLine; decide, fun p hp => q _ p [] (same_new hp) upd_same trivial⟩
    | c0 k =>
      obtain ⟨a, rfl, ha⟩ := hf
      refine ⟨_, rfl, a, _, _, _, rfl, rfl, ha, rfl, rfl, _, rfl, ?_⟩
      rw [nz hw]
      refine iteF ?_
      refine ⟨_, rfl, _, rfl, a, _, rfl, ha, (fun z => absurd z.1 (by show ¬ HT.sIx 1 0 (some 1) = 0; decide)), fun _ p hp => q _ p [] (same_new hp) upd_same trivial⟩
    | un k f =>
      obtain ⟨a, x, rfl, ha, hx⟩ := hf
      refine ⟨_, rfl, a, _, _, _, rfl, rfl, ha, rfl, rfl, _, rfl, ?_⟩
      rw [nz hw.1]
      refine iteF ?_
      refine ⟨_, rfl, _, rfl, a, _, rfl, ha, (fun z => absurd z.1 (by show ¬ HT.sIx 2 0 (some 1) = 0; decide)), fun _ p hp => q _ p [x] (same_new hp) upd_same ⟨hx.same (same_new hp), trivial⟩⟩
    | bin k f g =>
      obtain ⟨a, x, y, rfl, ha, hx, hy⟩ := hf
      refine ⟨_, rfl, a, _, _, _, rfl, rfl, ha, rfl, rfl, _, rfl, ?_⟩
      rw [nz hw.1]
      refine iteF ?_
      refine ⟨_, rfl, _, rfl, a, _, rfl, ha, (fun z => absurd z.1 (by show ¬ HT.sIx 3 0 (some 1) = 0; decide)), fun _ p hp => q _ p [x, y] (same_new hp) upd_same ⟨hx.same (same_new hp), hy.same (same_new hp), trivial⟩⟩
theorem flat_ge (gs : List Fm) : gs.length ≤ (gs.reverse.map pre).flatten.length := by
  induction gs with
  | nil => exact Nat.zero_le _
  | cons a l ih =>
    have : 0 < (pre a).length := by rw [pre_len]; exact sz_pos a
    rw [List.reverse_cons, List.map_append, List.flatten_append, List.length_append]
    simp
    simp at ih
    omega
theorem unsnoc {K : PySem.W.Frag} {H : Hp} {ws : List V} {x : V} {gs : List Fm} {g : Fm} (h : FmsAt K H (ws ++ [x]) (gs ++ [g])) : FmsAt K H ws gs ∧ FmAt K H x g := by
  have r := h.rev
  rw [List.reverse_append, List.reverse_append] at r
  have r2 : FmsAt K H ws.reverse gs.reverse := r.2
  have r3 := r2.rev
  rw [List.reverse_reverse, List.reverse_reverse] at r3
  exact ⟨r3, r.1⟩
theorem wf_kids {nm : List Str} {g z : Fm} (h : Wf nm g) (m : z ∈ kids g) : Wf nm z := by
  cases g with
  | c0 k => cases m
  | sg s => cases m
  | un k f => rw [List.mem_singleton.mp m]; exact h.2
  | bin k f g =>
    rcases List.mem_cons.mp m with e | e
    · rw [e]; exact h.2.1
    · rw [List.mem_singleton.mp e]; exact h.2.2
theorem revs {K : PySem.W.Frag} {H : Hp} {xs : List V} {g : Fm} (h : FmsAt K H xs (kids g)) : pk3 xs none none (-1) = xs.reverse ∧ xs.length ≤ 2 := by
  have e := h.len
  match xs, e with
  | [], _ => exact ⟨rev0, by decide⟩
  | [x], _ => exact ⟨rev1 x, Nat.le_succ 1⟩
  | [x, y], _ => exact ⟨rev2 x y, Nat.le_refl 2⟩
  | _ :: _ :: _ :: _, e => cases g <;> simp [kids] at e
theorem cal_subs (T : Txt K mg w P) : C8.Cal P w K mg base 2 "subformulas" (spSubs K) [] := by
  have C_operands : C8.Cal P w K mg base 1 "operands" (spOpers K) [] := cal_opers T
  obtain ⟨f, fd, F, hm, hb⟩ := T.h_subformulas
  refine ⟨f, fd, _, [], F.ok sc_subformulas (fun vs H Q E h => ?_) (fun cdv A outer s H vs Q E hr h => ?_), hm, F.kp, hb, .nil⟩
  · obtain ⟨v, f, nm, rfl, _⟩ := h
    rfl
  · obtain ⟨v, f, nm, rfl, hf, hw, hz, q⟩ := h
    refine ⟨_, (pss_cons
      (ps_set (i := 1) sc_subformulas.nd rfl (Or.inl rfl) (pe_lst pa_nil))
      (pss_cons
      (ps_set (i := 2) sc_subformulas.nd rfl (Or.inl rfl) (pe_lst (pa_cons (pv 0) pa_nil)))
      (C8.pss_cut
      (ps_while PassesOwn.never (pt_cmpR op_gt (pe_callB (call_lenK (K := K) rfl) (by rfl) T.z_len PySem.boot_len (pa_cons (pv 2) pa_nil)) pe_int (nomark _)) (pss_cons
      (ps_set (i := 3) sc_subformulas.nd rfl (Or.inl rfl) (pe_bm0 PySem.F.plainAttrs_list PySem.F.slot_list_pop PySem.F.type_list_pop mt_pop (pv 2)))
      (pss_cons
      (ps_expr (pe_bm PySem.F.plainAttrs_list PySem.F.slot_list_append PySem.F.type_list_append mt_append (pv 1) (pa_cons (pv 3) pa_nil)))
      (pss_one
      (ps_expr (pe_bm PySem.F.plainAttrs_list PySem.F.slot_list_extend PySem.F.type_list_extend (mt_extT (K := K) rfl) (pv 2) (pa_cons (pe_sl3 (K := K) rfl (C8.pe_c C_operands hr (by decide) (by rfl) (pa_cons (pv 3) pa_nil)) po_none po_none (po_some (pe_un un_neg pe_int))) pa_nil)))))))
      (pss_one
      (ps_ret (pv 1)))))), ?_⟩
    refine ⟨by show 0 ≤ sizeLine; decide, fun o ho => ?_⟩
    refine ⟨_, rfl, by show 1 ≤ sizeLine; decide, fun wt hwt => ?_⟩
    have hwo : wt ≠ o := fun z => by rw [z, upd_same] at hwt; cases hwt
    have hwt0 : H wt = none := by rwa [upd_ne hwo] at hwt
    have s0 : Same H (upd (upd H o (.lst [])) wt (.lst [v])) := (same_new ho).trans (same_new hwt)
    refine ⟨fun σ H2 => ∃ (fs : List V) (v3 : Option V), σ = [some v, some (.ref o), some (.ref wt), v3] ∧ Same H H2 ∧ H2 o = some (.lst fs) ∧ FmsAt K H2 fs (pre f), ?_, ?_⟩
    · refine ⟨fun m σ H2 => ∃ (fs ws : List V) (ds gs : List Fm) (v3 : Option V), m = sz f - ds.length ∧ σ = [some v, some (.ref o), some (.ref wt), v3] ∧ Same H H2 ∧ H2 o = some (.lst fs) ∧ H2 wt = some (.lst ws) ∧ FmsAt K H2 fs ds ∧ FmsAt K H2 ws gs ∧
          ds ++ (gs.reverse.map pre).flatten = pre f ∧ ∀ g ∈ gs, Wf nm g,
        ⟨_, [], [v], [], [f], none, rfl, rfl, s0, by rw [upd_ne hwo.symm, upd_same], upd_same, trivial, ⟨hf.same s0, trivial⟩, by simp, fun g hg => by rw [List.mem_singleton.mp hg]; exact hw⟩, ?_⟩
      rintro m σ H2 ⟨fs, ws, ds, gs, v3, rfl, rfl, s2, h2o, h2w, hfs, hws, heq, hwf⟩
      have hlen := congrArg List.length heq
      rw [List.length_append, pre_len] at hlen
      refine ⟨_, rfl, wt, _, rfl, .inl (.of h2w), _, _, rfl, rfl, _, rfl, ?_⟩
      refine ite_lt (fun c => ?_) (fun c => ?_)
      · have hne : ws ≠ [] := fun z => by rw [z] at c; exact absurd c (by decide)
        obtain ⟨ws0, x, rfl⟩ : ∃ ws0 x, ws = ws0 ++ [x] := ⟨ws.dropLast, ws.getLast hne, (List.dropLast_concat_getLast hne).symm⟩
        have hgl := hws.len
        have hgne : gs ≠ [] := fun z => by rw [z] at hgl; simp at hgl
        obtain ⟨gs0, g, rfl⟩ : ∃ gs0 g, gs = gs0 ++ [g] := ⟨gs.dropLast, gs.getLast hgne, (List.dropLast_concat_getLast hgne).symm⟩
        obtain ⟨hws0, hx⟩ := unsnoc hws
        have hwg : Wf nm g := hwf g (by simp)
        have hsz : ds.length < sz f := by
          have : 0 < (pre g).length := by rw [pre_len]; exact sz_pos g
          rw [List.reverse_append, List.reverse_singleton, List.map_append, List.flatten_append, List.length_append] at hlen
          simp at hlen
          omega
        refine ⟨_, fun _ _ h => h, ?_⟩
        refine ⟨_, rfl, .inl ⟨rfl, _, .of h2w⟩, wt, _, x, rfl, rfl, h2w, by simp, ?_⟩
        have e3 : (upd H2 wt (.lst (ws0 ++ [x]).dropLast)) o = some (.lst fs) := by rw [upd_ne hwo.symm]; exact h2o
        have fl := hfs.len
        refine ⟨_, rfl, .inl ⟨rfl, _, .of e3⟩, _, rfl, o, fs, x, rfl, rfl, e3, Nat.lt_of_le_of_lt (show fs.length ≤ 1000 by omega) (by decide), ?_⟩
        have k4 : Kp wt H2 (upd H2 wt (.lst (ws0 ++ [x]).dropLast)) := Kp.own
        have k5 : Kp o (upd H2 wt (.lst (ws0 ++ [x]).dropLast)) (upd (upd H2 wt (.lst (ws0 ++ [x]).dropLast)) o (.lst (fs ++ [x]))) := Kp.own
        have e4 : (upd (upd H2 wt (.lst (ws0 ++ [x]).dropLast)) o (.lst (fs ++ [x]))) wt = some (.lst (ws0 ++ [x]).dropLast) := by rw [upd_ne hwo, upd_same]
        have e5 : (upd (upd H2 wt (.lst (ws0 ++ [x]).dropLast)) o (.lst (fs ++ [x]))) o = some (.lst (fs ++ [x])) := upd_same
        have x4 := (hx.kp h2w k4).kp e3 k5
        have f4 := (hfs.kp h2w k4).kp e3 k5
        have w4 := (hws0.kp h2w k4).kp e3 k5
        have s4 : Same H (upd (upd H2 wt (.lst (ws0 ++ [x]).dropLast)) o (.lst (fs ++ [x]))) := fun b u hb => by
          rw [upd_ne (ne_of_none hb ho), upd_ne (ne_of_none hb hwt0)]
          exact s2 b u hb
        generalize upd (upd H2 wt (.lst (ws0 ++ [x]).dropLast)) o (.lst (fs ++ [x])) = H4 at e4 e5 x4 f4 w4 s4 ⊢
        rw [List.dropLast_concat] at e4
        refine ⟨_, rfl, .inl ⟨rfl, _, .of e4⟩, _, rfl, x, g, nm, rfl, x4, hwg, fun H5 p xs s5 hp hk => ?_⟩
        obtain ⟨r1, r2⟩ := revs hk
        refine ⟨_, rfl, _, rfl, p, xs, -1, rfl, rfl, .of hp, by decide, by decide, by rw [r1, List.length_reverse]; exact Nat.le_trans r2 (by decide), fun p2 hp2 => ?_⟩
        rw [r1]
        have s6 : Same H4 (upd H5 p2 (.tup xs.reverse)) := s5.trans (same_new hp2)
        have e6 := s6 _ _ e4
        have wl := hws0.len
        refine ⟨wt, p2, ws0, xs.reverse, rfl, rfl, e6, .of upd_same, Nat.le_trans (show ws0.length + xs.reverse.length ≤ 1002 from ?_) (by decide), ?_⟩
        · rw [List.length_reverse, wl]
          have hg0 := flat_ge gs0
          rw [List.reverse_append, List.reverse_singleton, List.map_append, List.flatten_append, List.length_append] at hlen
          simp at hlen hg0
          omega
        · have k7 : Kp wt (upd H5 p2 (.tup xs.reverse)) (upd (upd H5 p2 (.tup xs.reverse)) wt (.lst (ws0 ++ xs.reverse))) := Kp.own
          refine ⟨sz f - (ds ++ [g]).length, ?_, fs ++ [x], ws0 ++ xs.reverse, ds ++ [g], gs0 ++ (kids g).reverse, _, rfl, rfl, fun b u hb => ?_, ?_, upd_same, ?_, ?_, ?_, ?_⟩
          · rw [List.length_append]
            simp
            omega
          · rw [upd_ne (ne_of_none hb hwt0)]
            exact s6 b u (s4 b u hb)
          · rw [upd_ne hwo.symm]
            exact s6 _ _ e5
          · exact ((f4.app (us := [x]) (gs := [g]) ⟨x4, trivial⟩).same s6).kp e6 k7
          · exact (((w4.same s6).app ((hk.same (same_new hp2)).rev))).kp e6 k7
          · rw [← heq, List.reverse_append, List.reverse_append, List.reverse_reverse, List.reverse_singleton, List.map_append, List.map_append, List.flatten_append, List.flatten_append, List.append_assoc]
            congr 1
            show g :: _ = (List.flatten [pre g]) ++ _
            rw [List.flatten_singleton, pre_kids g]
            simp
          · intro z hz
            rcases List.mem_append.mp hz with h | h
            · exact hwf z (by simp [h])
            · exact wf_kids hwg (List.mem_reverse.mp h)
      · have hws0 : ws = [] := List.length_eq_zero_iff.mp (by omega)
        subst hws0
        have hgs0 : gs = [] := List.length_eq_zero_iff.mp hws.len.symm
        subst hgs0
        rw [List.reverse_nil, List.map_nil, List.flatten_nil, List.append_nil] at heq
        rw [← heq]
        exact ⟨fs, v3, rfl, s2, h2o, hfs⟩
    · rintro σ H2 ⟨fs, v3, rfl, s2, h2o, hfs⟩
      exact ⟨_, rfl, q H2 o fs s2 h2o hfs⟩
theorem glo (T : Txt K mg w P) : ∃ aF aP : Addr, GloT K mg "FUTURE" Tr.future aF ∧ GloT K mg "PAST" Tr.past aP := by
  obtain ⟨⟨aQ, aN, aF, aP, aG, aA, _, _, g1, g2, _⟩, _⟩ := T.er
  exact ⟨aF, aP, g1, g2⟩
def cntK (ks : List Str) (fs : List Fm) : Nat := (fs.filter fun g => decide (kd g ∈ ks)).length
def spCnt (K : PySem.W.Frag) : Sp := fun vs H Q _ => ∃ (v : V) (a : Addr) (f : Fm) (nm ks : List Str), vs = [v, .ref a] ∧ FmAt K H v f ∧ Wf nm f ∧ sz f ≤ 1000 ∧ SqT K H a (ks.map V.str) ∧ ∀ H', Same H H' → Q (.int (cntK ks (pre f) : Nat)) H'
theorem cal_cnt (T : Txt K mg w P) : C8.Cal P w K mg base 3 "count_operators" (spCnt K) [] := by
  have C_subformulas : C8.Cal P w K mg base 2 "subformulas" (spSubs K) [] := cal_subs T
  obtain ⟨f, fd, F, hm, hb⟩ := T.h_count_operators
  refine ⟨f, fd, _, [], F.ok sc_count_operators (fun vs H Q E h => ?_) (fun cdv A outer s H vs Q E hr h => ?_), hm, F.kp, hb, .nil⟩
  · obtain ⟨v, a, f, nm, ks, rfl, _⟩ := h
    rfl
  · obtain ⟨v, a, f, nm, ks, rfl, hf, hw, hz, hk, q⟩ := h
    refine ⟨_, (pss_one
      (ps_ret (pe_callB (call_lenK (K := K) rfl) (by rfl) T.z_len PySem.boot_len (pa_cons (pe_lc (own := [("part", 2)]) (g := gName 2) rfl sc_count_operators.nd (pi_list (C8.pe_c C_subformulas hr (by decide) (by rfl) (pa_cons (pv 0) pa_nil))) (blkOk_by (N := N_count_operators) (sc := defScope s_count_operators) (by decide +kernel)) (fun _ _ _ _ _ => (pg_name (i := 2) sc_count_operators.nd rfl (Or.inl rfl))) (fun _ _ _ _ _ => (pts_one (pt_cmpR (op_inK (K := K) rfl) (pe_ix (ix_tupK (K := K) rfl) (pv 2) pe_int (fun _ _ => rfl)) (pv 1) (by rfl)))) (fun _ _ _ _ _ => (pv 2))) pa_nil)))), ?_⟩
    refine ⟨_, rfl, v, f, nm, rfl, hf, hw, hz, fun H1 o fs s1 ho hfs => ⟨o, rfl, ⟨_, .of ho⟩, fun D hD => lc_list (K := K) (a := o) (xs := fs) (fun i H2 => ∃ us : List V, Same H1 H2 ∧ H2 D = some (.lst us) ∧ us.length = cntK ks ((pre f).take i))
      ⟨[], same_new hD, upd_same, rfl⟩ (fun i H2 _ ⟨_, s2, _⟩ => .of (s2 _ _ ho)) ?_ ?_⟩⟩
    · rintro i x H2 hi ⟨us, s2, e2, hl2⟩
      obtain ⟨g, hg, hx⟩ := hfs.get hi
      obtain ⟨b, xs, rfl, hb2⟩ := (hx.same s2).tup
      refine ⟨rfl, _, rfl, b, _, _, .str (kd g), rfl, rfl, hb2, (show atI (V.str (kd g) :: xs) 0 = some (V.str (kd g)) from atI_nat (j := 0) rfl), _, rfl, inq (ss := ks) (sqt_same (s1.trans s2) hk) ⟨_, rfl, ?_⟩⟩
      have et : (pre f).take (i + 1) = (pre f).take i ++ [g] := by rw [List.take_add_one, hg]; rfl
      have hll : (pre f).length = sz f := pre_len f
      have hlt : i < (pre f).length := (List.getElem?_eq_some_iff.mp hg).1
      have hlu : us.length ≤ 1000 := by
        have h1 : us.length ≤ ((pre f).take i).length := by rw [hl2]; exact List.length_filter_le _ _
        rw [List.length_take] at h1
        omega
      refine ite2 (fun c => ?_) (fun c => ?_)
      · refine ⟨_, rfl, us, e2, Nat.lt_of_le_of_lt hlu (by decide), us ++ [.ref b], fun c2 u hc => ?_, upd_same, ?_⟩
        · rw [upd_ne (ne_of_none hc hD)]
          exact s2 _ _ hc
        · rw [et, List.length_append, hl2]
          unfold cntK
          have e1 : (List.filter (fun g => decide (kd g ∈ ks)) [g]) = [g] := by simp only [List.filter, c]
          rw [List.filter_append, List.length_append, e1]
          rfl
      · refine ⟨us, s2, e2, ?_⟩
        rw [et, hl2]
        unfold cntK
        have e1 : (List.filter (fun g => decide (kd g ∈ ks)) [g]) = [] := by simp only [List.filter, eq_false_of_ne_true c]
        rw [List.filter_append, List.length_append, e1]
        rfl
    · rintro H2 ⟨us, s2, e2, hl2⟩
      have e : (pre f).take fs.length = pre f := List.take_of_length_le (by rw [hfs.len]; exact Nat.le_refl _)
      refine ⟨D, us, rfl, .inl (.of e2), ?_⟩
      rw [hl2, e]
      exact q H2 (s1.trans s2)
def tpK : List Str := Tr.future ++ Tr.past
def spTmp (K : PySem.W.Frag) : Sp := fun vs H Q _ => ∃ (v : V) (f : Fm) (nm : List Str), vs = [v] ∧ FmAt K H v f ∧ Wf nm f ∧ sz f ≤ 1000 ∧ ∀ H', Same H H' → Q (.int (cntK tpK (pre f) : Nat)) H'
theorem cal_tmp (T : Txt K mg w P) : C8.Cal P w K mg base 4 "temporal_count" (spTmp K) [] := by
  have C_count_operators : C8.Cal P w K mg base 3 "count_operators" (spCnt K) [] := cal_cnt T
  obtain ⟨aF, aP, gF, gP⟩ := glo T
  obtain ⟨f, fd, F, hm, hb⟩ := T.h_temporal_count
  refine ⟨f, fd, _, [], F.ok sc_temporal_count (fun vs H Q E h => ?_) (fun cdv A outer s H vs Q E hr h => ?_), hm, F.kp, hb, .nil⟩
  · obtain ⟨v, f, nm, rfl, _⟩ := h
    rfl
  · obtain ⟨v, f, nm, rfl, hf, hw, hz, q⟩ := h
    refine ⟨_, (pss_one
      (ps_ret (C8.pe_c C_count_operators hr (by decide) (by rfl) (pa_cons (pv 0) (pa_cons (pe_op (op_catK (K := K) rfl) (pe_glob (v := .ref aF) (by rfl) gF.g rfl) (pe_glob (v := .ref aP) (by rfl) gP.g rfl)) pa_nil))))), ?_⟩
    refine ⟨_, rfl, _, _, _, _, rfl, rfl, gF.q H, gP.q H, (by decide), fun z => absurd z (by decide), fun _ z => absurd z (by decide), fun _ _ p hp => ?_⟩
    have s1 := same_new (o := .tup (Tr.future.map V.str ++ Tr.past.map V.str)) hp
    refine ⟨v, p, f, nm, tpK, rfl, hf.same s1, hw, hz, .of (by rw [upd_same]; unfold tpK; rw [List.map_append]), fun H2 s2 => q H2 (s1.trans s2)⟩
def LvA (K : PySem.W.Frag) (H : Hp) (as : List Addr) (ps : List (Fm × Nat)) : Prop := as.length = ps.length ∧ ∀ (i : Nat) (a : Addr), as[i]? = some a → ∃ (p : Fm × Nat) (v : V), ps[i]? = some p ∧ H a = some (.tup [v, .int (p.2 : Int)]) ∧ FmAt K H v p.1
theorem LvA.mv {H H' : Hp} {as : List Addr} {ps : List (Fm × Nat)} (s : ∀ b xs, H b = some (.tup xs) → H' b = some (.tup xs)) (s2 : ∀ a xs, SqT K H a xs → SqT K H' a xs) (h : LvA K H as ps) : LvA K H' as ps := ⟨h.1, fun i a e => by
  obtain ⟨p, v, h1, h2, h3⟩ := h.2 i a e
  exact ⟨p, v, h1, s _ _ h2, fm_tq s2 h3⟩⟩
theorem LvA.snoc {H : Hp} {as : List Addr} {ps : List (Fm × Nat)} {a : Addr} {p : Fm × Nat} {v : V} (h : LvA K H as ps) (e : H a = some (.tup [v, .int (p.2 : Int)])) (hv : FmAt K H v p.1) : LvA K H (as ++ [a]) (ps ++ [p]) := by
  refine ⟨by rw [List.length_append, List.length_append, h.1]; rfl, fun i x hx => ?_⟩
  rcases snocg hx with ⟨_, y⟩ | ⟨y1, y2⟩
  · obtain ⟨p', v', h1, h2⟩ := h.2 i x y
    exact ⟨p', v', by rw [List.getElem?_append_left (lt_of_get h1)]; exact h1, h2⟩
  · subst y2
    exact ⟨p, v, by rw [List.getElem?_append_right (by rw [y1, h.1]; exact Nat.le_refl _), y1, h.1, Nat.sub_self]; rfl, e, hv⟩
theorem LvA.un {H : Hp} {as : List Addr} {ps : List (Fm × Nat)} {a : Addr} {p : Fm × Nat} (h : LvA K H (as ++ [a]) (ps ++ [p])) : LvA K H as ps ∧ ∃ v, H a = some (.tup [v, .int (p.2 : Int)]) ∧ FmAt K H v p.1 := by
  have hl := h.1
  rw [List.length_append, List.length_append, List.length_singleton, List.length_singleton] at hl
  refine ⟨⟨by omega, fun i x hx => ?_⟩, ?_⟩
  · have hlt := lt_of_get hx
    obtain ⟨p', v', h1, h2⟩ := h.2 i x (by rw [List.getElem?_append_left hlt]; exact hx)
    rw [List.getElem?_append_left (by omega)] at h1
    exact ⟨p', v', h1, h2⟩
  · obtain ⟨p', v', h1, h2⟩ := h.2 as.length a (by rw [List.getElem?_append_right (Nat.le_refl _), Nat.sub_self]; rfl)
    rw [List.getElem?_append_right (by omega), show as.length - ps.length = 0 by omega] at h1
    cases h1
    exact ⟨v', h2⟩
theorem LvA.app {H : Hp} {as bs : List Addr} {ps qs : List (Fm × Nat)} (h : LvA K H as ps) (h2 : LvA K H bs qs) : LvA K H (as ++ bs) (ps ++ qs) := by
  refine ⟨by rw [List.length_append, List.length_append, h.1, h2.1], fun i x hx => ?_⟩
  rcases Nat.lt_or_ge i as.length with c | c
  · rw [List.getElem?_append_left c] at hx
    obtain ⟨p, v, h3, h4⟩ := h.2 i x hx
    exact ⟨p, v, by rw [List.getElem?_append_left (lt_of_get h3)]; exact h3, h4⟩
  · rw [List.getElem?_append_right c] at hx
    obtain ⟨p, v, h3, h4⟩ := h2.2 _ x hx
    exact ⟨p, v, by rw [List.getElem?_append_right (by rw [← h.1]; exact c), ← h.1]; exact h3, h4⟩
def mxd : List (Fm × Nat) → Nat → Nat
  | [], d => d
  | p :: ps, d => max (p.2 + dpt p.1) (mxd ps d)
theorem mxd_app : ∀ (a b : List (Fm × Nat)) (d : Nat), mxd (a ++ b) d = mxd a (mxd b d)
  | [], _, _ => rfl
  | p :: a, b, d => by
    show max _ (mxd (a ++ b) d) = max _ (mxd a (mxd b d))
    rw [mxd_app a b d]
theorem mxd_max : ∀ (a : List (Fm × Nat)) (c d : Nat), mxd a (max d c) = max (mxd a d) c
  | [], _, _ => rfl
  | p :: a, c, d => by
    show max _ (mxd a (max d c)) = max (max _ (mxd a d)) c
    rw [mxd_max a c d]
    omega
theorem mxd_kids (g : Fm) (l d : Nat) : mxd ((kids g).map fun k => (k, l + 1)) (max d l) = max d (l + dpt g) := by
  cases g with
  | c0 k => show max d l = max d (l + 0); rw [Nat.add_zero]
  | sg s => show max d l = max d (l + 0); rw [Nat.add_zero]
  | un k f => show max (l + 1 + dpt f) (max d l) = max d (l + (dpt f + 1)); omega
  | bin k f f2 => show max (l + 1 + dpt f) (max (l + 1 + dpt f2) (max d l)) = max d (l + (max (dpt f) (dpt f2) + 1)); omega
theorem mxd_step (ps : List (Fm × Nat)) (g : Fm) (l d : Nat) : mxd (ps ++ (kids g).map fun k => (k, l + 1)) (max d l) = mxd (ps ++ [(g, l)]) d := by
  rw [mxd_app, mxd_app, mxd_kids]
  show mxd ps (max d (l + dpt g)) = mxd ps (max (l + dpt g) d)
  rw [Nat.max_comm]
def tsz (ps : List (Fm × Nat)) : Nat := (ps.map fun p => sz p.1).sum
theorem tsz_app (a b : List (Fm × Nat)) : tsz (a ++ b) = tsz a + tsz b := by
  unfold tsz
  rw [List.map_append, List.sum_append]
theorem tsz_kids (g : Fm) (l : Nat) : tsz ((kids g).map fun k => (k, l)) + 1 = sz g := by
  cases g with
  | c0 k => rfl
  | sg s => rfl
  | un k f => show sz f + 0 + 1 = sz f + 1; omega
  | bin k f f2 => show sz f + (sz f2 + 0) + 1 = sz f + sz f2 + 1; omega
theorem tsz_len : ∀ ps : List (Fm × Nat), ps.length ≤ tsz ps
  | [] => Nat.le_refl _
  | p :: ps => by
    have h1 := sz_pos p.1
    have h2 := tsz_len ps
    show ps.length + 1 ≤ sz p.1 + tsz ps
    omega
def spDep (K : PySem.W.Frag) : Sp := fun vs H Q _ => ∃ (v : V) (f : Fm) (nm : List Str), vs = [v] ∧ FmAt K H v f ∧ Wf nm f ∧ sz f ≤ 1000 ∧ ∀ H', Same H H' → Q (.int ((dpt f + 1 : Nat) : Int)) H'
theorem kids_len (g : Fm) : (kids g).length ≤ 2 := by
  cases g with
  | c0 k => exact Nat.zero_le _
  | sg s => exact Nat.zero_le _
  | un k f => exact Nat.le_succ _
  | bin k f f2 => exact Nat.le_refl _
theorem cal_dep (T : Txt K mg w P) : C8.Cal P w K mg base 2 "depth" (spDep K) [] := by
  have C_operands : C8.Cal P w K mg base 1 "operands" (spOpers K) [] := cal_opers T
  obtain ⟨f, fd, F, hm, hb⟩ := T.h_depth
  refine ⟨f, fd, _, [], F.ok sc_depth (fun vs H Q E h => ?_) (fun cdv A outer s H vs Q E hr h => ?_), hm, F.kp, hb, .nil⟩
  · obtain ⟨v, f, nm, rfl, _⟩ := h
    rfl
  · obtain ⟨v, f, nm, rfl, hf, hw, hz, q⟩ := h
    refine ⟨_, (pss_cons
      (ps_set (i := 1) sc_depth.nd rfl (Or.inl rfl) pe_int)
      (pss_cons
      (ps_set (i := 2) sc_depth.nd rfl (Or.inl rfl) (pe_lst (pa_cons (pe_tup (pa_cons (pv 0) (pa_cons pe_int pa_nil))) pa_nil)))
      (C8.pss_cut
      (ps_while PassesOwn.never (pt_cmpR op_gt (pe_callB (call_lenK (K := K) rfl) (by rfl) T.z_len PySem.boot_len (pa_cons (pv 2) pa_nil)) pe_int (nomark _)) (pss_cons
      (ps_asg (pe_bm0 PySem.F.plainAttrs_list PySem.F.slot_list_pop PySem.F.type_list_pop mt_pop (pv 2)) (pg_tup (by rfl) (pgs_cons (pg_name (i := 3) sc_depth.nd rfl (.inl rfl)) (pgs_cons (pg_name (i := 4) sc_depth.nd rfl (.inr rfl)) pgs_nil))))
      (pss_cons
      (ps_set (i := 1) sc_depth.nd rfl (Or.inl rfl) (pe_callB (call_max2 rfl) (by rfl) T.z_max (by decide +kernel) (pa_cons (pv 1) (pa_cons (pv 4) pa_nil))))
      (pss_one
      (ps_expr (pe_bm PySem.F.plainAttrs_list PySem.F.slot_list_extend PySem.F.type_list_extend mt_extend (pv 2) (pa_cons (pe_lc (own := [("below", 5)]) (g := gName 5) (tt := tYes) rfl sc_depth.nd (pi_tup (C8.pe_c C_operands hr (by decide) (by rfl) (pa_cons (pv 3) pa_nil))) (blkOk_by (N := N_depth) (sc := defScope s_depth) (by decide +kernel)) (fun _ _ _ _ _ => (pg_name (i := 5) sc_depth.nd rfl (Or.inl rfl))) (fun _ _ _ _ _ => pts_nil) (fun _ _ _ _ _ => (pe_tup (pa_cons (pv 5) (pa_cons (pe_op op_add (pv 4) pe_int) pa_nil))))) pa_nil)))))))
      (pss_one
      (ps_ret (pv 1)))))), ?_⟩
    refine ⟨_, rfl, by show 2 ≤ sizeLine; decide, fun t nt => ?_⟩
    generalize hX : upd H t _ = H1; obtain ⟨sH1, et⟩ := nw nt hX; clear hX
    refine ⟨by show 1 ≤ sizeLine; decide, fun W nW => ?_⟩
    generalize hX : upd H1 W _ = H2; obtain ⟨sH2, eW⟩ := nw nW hX; clear hX
    have nW0 : H W = none := sH1.free nW
    refine ⟨fun σ H' => ∃ v3 v4 v5 : Option V, σ = [some v, some (.int ((dpt f + 1 : Nat) : Int)), some (.ref W), v3, v4, v5] ∧ Same H H', ?_, ?_⟩
    · refine ⟨fun m σ H' => ∃ (v3 v4 v5 : Option V) (d : Nat) (as : List Addr) (ps : List (Fm × Nat)), m = tsz ps ∧ σ = [some v, some (.int (d : Int)), some (.ref W), v3, v4, v5] ∧ Same H H' ∧ H' W = some (.lst (as.map V.ref)) ∧ LvA K H' as ps ∧ mxd ps d = dpt f + 1 ∧ tsz ps ≤ 1000 ∧ ∀ p ∈ ps, Wf nm p.1,
        ⟨_, none, none, none, 0, [t], [(f, 1)], rfl, rfl, sH1.trans sH2, eW, LvA.snoc (as := []) (ps := []) (p := (f, 1)) ⟨rfl, fun i a e => by (cases e)⟩ (sH2 _ _ et) ((hf.same sH1).same sH2), by show max (1 + dpt f) 0 = _; omega, by show sz f + 0 ≤ 1000; omega, fun p hp => by rw [List.mem_singleton.mp hp]; exact hw⟩, ?_⟩
      clear sH1 sH2 et eW nt nW
      rintro m σ H3 ⟨v3, v4, v5, d, as, ps, rfl, rfl, s3, e3, l3, hmx, hts, hwf⟩
      refine ⟨_, rfl, W, _, rfl, .inl (.of e3), _, _, rfl, rfl, _, rfl, ?_⟩
      rw [List.length_map, l3.1]
      by_cases c : ps = []
      · subst c
        refine iteB_f (decide_eq_false (by decide)) ⟨v3, v4, v5, ?_, s3⟩
        have hmx : d = dpt f + 1 := hmx
        rw [hmx]
      · obtain ⟨ps0, ⟨g, l⟩, rfl⟩ : ∃ ps0 x, ps = ps0 ++ [x] := ⟨ps.dropLast, ps.getLast c, (List.dropLast_concat_getLast c).symm⟩
        have hal := l3.1
        rw [List.length_append, List.length_singleton] at hal
        have hane : as ≠ [] := fun z => by rw [z] at hal; simp at hal
        obtain ⟨as0, a, rfl⟩ : ∃ as0 x, as = as0 ++ [x] := ⟨as.dropLast, as.getLast hane, (List.dropLast_concat_getLast hane).symm⟩
        obtain ⟨l30, gv, ea, hg⟩ := l3.un
        have hwg : Wf nm g := hwf (g, l) (by simp)
        refine iteB_t (decide_eq_true (by rw [List.length_append, List.length_singleton]; omega)) ⟨_, fun _ _ h => h, ?_⟩
        refine ⟨_, rfl, .inl ⟨rfl, _, .of e3⟩, W, _, .ref a, rfl, rfl, e3, by rw [List.map_append]; simp, ?_⟩
        rw [List.map_append, show ([a].map V.ref) = [V.ref a] from rfl, List.dropLast_concat]
        rw [List.map_append, show ([a].map V.ref) = [V.ref a] from rfl] at e3
        have k4 : Kp W H3 (upd H3 W (.lst (as0.map V.ref))) := Kp.own
        have e4 := upd_same (H := H3) (a := W) (o := .lst (as0.map V.ref))
        have tp4 : ∀ b xs, H3 b = some (.tup xs) → (upd H3 W (.lst (as0.map V.ref))) b = some (.tup xs) := fun b xs e => k4 _ _ (fun z => by rw [z, e3] at e; cases e) e
        have tq4 := tq_l (K := K) e3 k4
        have s4 : Same H (upd H3 W (.lst (as0.map V.ref))) := fun b o e => by rw [upd_ne (ne_of_none e nW0)]; exact s3 _ _ e
        generalize upd H3 W (.lst (as0.map V.ref)) = H4 at k4 e4 tp4 tq4 s4 ⊢
        have l4 := l30.mv tp4 tq4
        have ea4 := tp4 _ _ ea
        have hg4 := fm_tq tq4 hg
        refine ⟨a, _, rfl, .of ea4, rfl, _, _, rfl, _, _, rfl, rfl, ?_⟩
        refine ⟨_, rfl, _, rfl, _, _, rfl, ?_⟩
        have hmax : (if (l : Int) > (d : Int) then (l : Int) else (d : Int)) = ((max d l : Nat) : Int) := by split <;> omega
        show gName 1 (V.int (if (l : Int) > (d : Int) then (l : Int) else (d : Int))) _ _ _
        rw [hmax]
        have hkl := kids_len g
        have hpl := tsz_len (ps0 ++ [(g, l)])
        rw [List.length_append, List.length_singleton] at hpl
        refine ⟨_, rfl, .inl ⟨rfl, _, .of e4⟩, _, rfl, gv, g, nm, rfl, hg4, hwg, fun H5 p xs s5 hp hk => ?_⟩
        have e5 := s5 _ _ e4
        have l5 := l4.mv (fun b xs e => s5 _ _ e) (tq_same s5)
        have hxl := hk.len
        refine ⟨p, rfl, ⟨_, .of hp⟩, fun D nD => ?_⟩
        refine lc_tup (K := K) (a := p) (xs := xs) (fun i H' => Same H5 H' ∧ ∃ bs : List Addr, H' D = some (.lst (bs.map V.ref)) ∧ LvA K H' bs (((kids g).map fun k => (k, l + 1)).take i))
          ⟨same_new nD, [], upd_same, rfl, fun i a e => by (cases e)⟩ (fun i H' _ ⟨z, _⟩ => .of (z _ _ hp)) ?_ ?_
        · rintro i y H6 hi ⟨s6, bs, eD, lb⟩
          obtain ⟨k, hk1, hk2⟩ := hk.get hi
          refine ⟨rfl, _, rfl, _, rfl, _, _, rfl, rfl, by show 2 ≤ sizeLine; decide, fun b nb => ?_⟩
          generalize hX : upd H6 b _ = H7; obtain ⟨sH7, eb⟩ := nw nb hX; clear hX
          have eD7 := sH7 _ _ eD
          have hbl : bs.length ≤ 2 := by
            rw [lb.1, List.length_take, List.length_map]
            omega
          have tp8 : ∀ c xs, H7 c = some (.tup xs) → (upd H7 D (.lst (bs.map V.ref ++ [V.ref b]))) c = some (.tup xs) := fun c xs e => by rw [upd_ne (fun z => by rw [z, eD7] at e; cases e)]; exact e
          have tq8 := tq_l (K := K) eD7 (Kp.own (o := .lst (bs.map V.ref ++ [V.ref b])))
          refine ⟨_, eD7, by rw [List.length_map]; exact Nat.lt_of_le_of_lt hbl (by decide), fun c o e => ?_, bs ++ [b], by rw [upd_same, List.map_append]; rfl, ?_⟩
          · rw [upd_ne (ne_of_none e nD)]
            exact sH7 _ _ (s6 _ _ e)
          · have et : ((kids g).map fun k => (k, l + 1)).take (i + 1) = ((kids g).map fun k => (k, l + 1)).take i ++ [(k, l + 1)] := by
              rw [List.take_add_one, List.getElem?_map, hk1]
              rfl
            rw [et]
            exact ((lb.mv (fun c xs e => sH7 _ _ e) (tq_same sH7)).mv tp8 tq8).snoc (p := (k, l + 1)) (tp8 _ _ eb) (fm_tq tq8 ((hk2.same s6).same sH7))
        · rintro H6 ⟨s6, bs, eD, lb⟩
          rw [hxl, List.take_of_length_le (by rw [List.length_map]; exact Nat.le_refl _)] at lb
          have e6 := s6 _ _ e5
          have hbl : bs.length ≤ 2 := by
            rw [lb.1, List.length_map]
            exact hkl
          have hap : as0.length ≤ 1000 := by
            rw [l30.1]
            omega
          refine ⟨W, D, _, _, rfl, rfl, e6, eD, by rw [List.length_map, List.length_map]; exact Nat.le_trans (show as0.length + bs.length ≤ 1002 by omega) (by decide), ?_⟩
          have k7 : Kp W H6 (upd H6 W (.lst (as0.map V.ref ++ bs.map V.ref))) := Kp.own
          have tp7 : ∀ c xs, H6 c = some (.tup xs) → (upd H6 W (.lst (as0.map V.ref ++ bs.map V.ref))) c = some (.tup xs) := fun c xs e => by rw [upd_ne (fun z => by rw [z, e6] at e; cases e)]; exact e
          have tq7 := tq_l (K := K) e6 k7
          have hts2 : tsz (ps0 ++ (kids g).map fun k => (k, l + 1)) < tsz (ps0 ++ [(g, l)]) := by
            have h1 := tsz_kids g (l + 1)
            rw [tsz_app, tsz_app, show tsz [(g, l)] = sz g from rfl]
            omega
          refine ⟨_, hts2, _, _, _, max d l, as0 ++ bs, ps0 ++ (kids g).map fun k => (k, l + 1), rfl, rfl, fun c o e => ?_, by rw [upd_same, List.map_append], ?_, by rw [mxd_step]; exact hmx, by omega, fun p hp => ?_⟩
          · rw [upd_ne (ne_of_none e nW0)]
            exact s6 _ _ (s5 _ _ (s4 _ _ e))
          · have l7 := (l5.mv (fun c xs e => s6 _ _ e) (tq_same s6)).mv tp7 tq7
            have b7 := lb.mv tp7 tq7
            exact l7.app b7
          · rcases List.mem_append.mp hp with h | h
            · exact hwf p (List.mem_append_left _ h)
            · obtain ⟨k, hk1, rfl⟩ := List.mem_map.mp h
              exact wf_kids hwg hk1
    · rintro σ H3 ⟨v3, v4, v5, rfl, s3⟩
      exact ⟨_, rfl, q H3 s3⟩
/-! the errors with a name -/
def spZ (C : Addr) : Sp := fun vs H Q _ => ∃ (a : Addr) (nm : Str), vs = [.ref a, .str nm] ∧ nm.length ≤ 1000 ∧ H a = some (exo a C none) ∧ ∀ d, H d = none → d ≠ a → Q .non (upd (upd H d (exd d [("name", .str nm)])) a (exo a C (some d)))
theorem ok_zd {C f : Addr} {fd : FuncData} (I : Sup.InitK P K mg "DuplicateSignal" C f "__init__" "DuplicateSignal.__init__" (defArgs s_DuplicateSignal_init) (defBody s_DuplicateSignal_init) (defScope s_DuplicateSignal_init) fd) (hno : PySem.W.findIn K (.ref C) "name" = some none) :
    FnOk P w K mg base CX0 3 f fd ["self", "name"] (spZ C) := by
  refine I.ok sc_DuplicateSignal_init rfl rfl (fun en => rfl) (fun en => rfl) (fun en => rfl) (fun vs H Q E h => ?_) (fun cda cc A outer s H vs Q E hr h => ?_)
  · obtain ⟨a, nm, rfl, _⟩ := h
    rfl
  · obtain ⟨a, nm, rfl, hl, ha, q⟩ := h
    refine ⟨_, _, a, (pe_joined (.cons pe_str (.cons (pe_fmt (pv 1)) (.cons pe_str .nil)))), (pss_one (ps_ost (pv 0) (pv 1))), rfl, ha, ?_⟩
    have big : (100000 : Nat) ≤ sizeLine := by decide
    have hw : (Str.ofString "the signal ").length = 11 ∧ (Str.ofString " is there already").length = 17 ∧ Str.empty.length = 0 := by decide +kernel
    have al : ∀ a b : Str, (a ++ b).length = a.length + b.length := fun a b => by
      show (a.cps ++ b.cps).size = _
      rw [Array.size_append]
      rfl
    refine ⟨_, rfl, by rw [al, hw.1, hw.2.2]; omega, ?_⟩
    refine ⟨_, rfl, .inl ⟨_, rfl, by omega, _, rfl, by rw [al, al, hw.1, hw.2.2]; omega, ?_⟩⟩
    refine ⟨_, rfl, by rw [al, al, al, hw.1, hw.2.1, hw.2.2]; omega, ?_⟩
    exact ⟨ha, _, rfl, _, rfl, a, C, rfl, I.T, hno, .inl ⟨ha, fun d hd hne => q d hd hne⟩⟩
theorem ok_zu {C f : Addr} {fd : FuncData} (I : Sup.InitK P K mg "UnknownSignal" C f "__init__" "UnknownSignal.__init__" (defArgs s_UnknownSignal_init) (defBody s_UnknownSignal_init) (defScope s_UnknownSignal_init) fd) (hno : PySem.W.findIn K (.ref C) "name" = some none) :
    FnOk P w K mg base CX0 3 f fd ["self", "name"] (spZ C) := by
  refine I.ok sc_UnknownSignal_init rfl rfl (fun en => rfl) (fun en => rfl) (fun en => rfl) (fun vs H Q E h => ?_) (fun cda cc A outer s H vs Q E hr h => ?_)
  · obtain ⟨a, nm, rfl, _⟩ := h
    rfl
  · obtain ⟨a, nm, rfl, hl, ha, q⟩ := h
    refine ⟨_, _, a, (pe_joined (.cons pe_str (.cons (pe_fmt (pv 1)) .nil))), (pss_one (ps_ost (pv 0) (pv 1))), rfl, ha, ?_⟩
    have big : (100000 : Nat) ≤ sizeLine := by decide
    have hw : (Str.ofString "there is no signal ").length = 19 ∧ Str.empty.length = 0 := by decide +kernel
    have al : ∀ a b : Str, (a ++ b).length = a.length + b.length := fun a b => by
      show (a.cps ++ b.cps).size = _
      rw [Array.size_append]
      rfl
    refine ⟨_, rfl, by rw [al, hw.1, hw.2]; omega, ?_⟩
    refine ⟨_, rfl, .inl ⟨_, rfl, by omega, _, rfl, by rw [al, al, hw.1, hw.2]; omega, ?_⟩⟩
    exact ⟨ha, _, rfl, _, rfl, a, C, rfl, I.T, hno, .inl ⟨ha, fun d hd hne => q d hd hne⟩⟩
def dupF : List Str → List Str → Option Str
  | _, [] => none
  | kn, x :: r => if x ∈ kn then some x else dupF (kn ++ [x]) r
def unkL (kn : List Str) : List Fm → Option Str
  | [] => none
  | .sg s :: r => if s ∈ kn then unkL kn r else some s
  | _ :: r => unkL kn r
/-- the kind of what is no signal is not "signal" -/
def Kok : Fm → Prop
  | .c0 k => k ≠ sSig
  | .sg s => s.length ≤ 1000
  | .un k f => k ≠ sSig ∧ Kok f
  | .bin k f g => k ≠ sSig ∧ Kok f ∧ Kok g
theorem kok_pre : ∀ {f : Fm}, Kok f → ∀ g ∈ pre f, Kok g
  | .c0 k, h, g, m => by rw [List.mem_singleton.mp m]; exact h
  | .sg s, h, g, m => by rw [List.mem_singleton.mp m]; exact h
  | .un k f, h, g, m => by
    rcases List.mem_cons.mp m with e | e
    · rw [e]; exact h
    · exact kok_pre h.2 g e
  | .bin k f f2, h, g, m => by
    rcases List.mem_cons.mp m with e | e
    · rw [e]; exact h
    · rcases List.mem_append.mp e with e | e
      · exact kok_pre h.2.1 g e
      · exact kok_pre h.2.2 g e
def sgF : Fm → List Str
  | .c0 _ => []
  | .sg s => [s]
  | .un _ f => sgF f
  | .bin _ f g => sgF f ++ sgF g
theorem wf_mono {a b : List Str} (h : ∀ s ∈ a, s ∈ b) : ∀ {f : Fm}, Wf a f → Wf b f
  | .c0 _, w => w
  | .sg s, w => h s w
  | .un _ f, w => ⟨w.1, wf_mono h w.2⟩
  | .bin _ f g, w => ⟨w.1, wf_mono h w.2.1, wf_mono h w.2.2⟩
theorem wf_sg : ∀ {f : Fm}, Kok f → Wf (sgF f) f
  | .c0 _, h => h
  | .sg s, _ => List.mem_singleton.mpr rfl
  | .un _ f, h => ⟨h.1, wf_sg h.2⟩
  | .bin _ f g, h => ⟨h.1, wf_mono (fun s hs => List.mem_append_left _ hs) (wf_sg h.2.1), wf_mono (fun s hs => List.mem_append_right _ hs) (wf_sg h.2.2)⟩
theorem inqL {H : Hp} {p : Addr} {ss : List Str} {k : Str} {Q : VK} (h : SqL K H p (ss.map V.str)) (q : Q (.bl (decide (k ∈ ss))) H) : rIn K false (.str k) (.ref p) H Q :=
  ⟨p, _, rfl, .inl h, rfl, L2.flat_strs ss, by rw [in_strs]; exact q⟩
theorem ninqL {H : Hp} {p : Addr} {ss : List Str} {k : Str} {Q : VK} (h : SqL K H p (ss.map V.str)) (q : Q (.bl (!decide (k ∈ ss))) H) : rIn K true (.str k) (.ref p) H Q :=
  ⟨p, _, rfl, .inl h, rfl, L2.flat_strs ss, by rw [in_strs]; exact q⟩
/-- the error with this name leaves -/
def XN (c : Addr) (x : Str) (H : Hp) (E : XK) : Prop := ∀ (H' : Hp) (d : Addr), Same H H' → H' d = some (.xd [("name", .str x)]) → E (.ref c) (some d) H'
theorem mk_xn {C : Addr} {x : Str} {H H1 : Hp} {E : XK} (s : Same H H1) (hl : x.length ≤ 1000) (q : XN C x H E) : ∀ a, H1 a = none → spZ C (.ref a :: ([.str x] ++ [])) (upd H1 a (exo a C none))
    (fun v H2 => v = .non ∧ ∃ (d : Addr) (fs : List (Str × V)), H2 a = some (exo a C (some d)) ∧ H2 d = some (exd d fs) ∧ H1 d = none ∧ E (.ref C) (some d) (upd (del H2 a) d (.xd fs))) (fun _ _ _ => False) := fun a na => by
  refine ⟨a, x, rfl, hl, upd_same, fun d hd hne => ⟨rfl, d, [("name", .str x)], upd_same, by rw [upd_ne hne, upd_same], ?_, ?_⟩⟩
  · rw [upd_ne hne] at hd
    exact hd
  · rw [upd_ne hne] at hd
    refine q _ d (fun b o hb => ?_) upd_same
    have h1 := s _ _ hb
    rw [upd_ne (ne_of_none h1 hd), del_ne (ne_of_none h1 na), upd_ne (ne_of_none h1 na), upd_ne (ne_of_none h1 hd), upd_ne (ne_of_none h1 na)]
    exact h1
def spCnX (K : PySem.W.Frag) (cD cU : Addr) : Sp := fun vs H Q E => ∃ (h n : Addr) (v : V) (f : Fm) (hs nm : List Str), vs = [.ref h, v, .ref n] ∧ H h = some (.lst (hs.map V.str)) ∧ (SqL K H n (nm.map V.str) ∨ SqT K H n (nm.map V.str)) ∧ FmAt K H v f ∧ Kok f ∧ sz f ≤ 1000 ∧ nm.length ≤ 100 ∧ hs.length ≤ 100 ∧ (∀ s ∈ hs, s.length ≤ 1000) ∧
  (∀ x, dupF nm hs = some x → XN cD x H E) ∧ (∀ x, dupF nm hs = none → unkL (nm ++ hs) (pre f) = some x → XN cU x H E) ∧ (dupF nm hs = none → unkL (nm ++ hs) (pre f) = none → ∀ H', Same H H' → Q .non H')
theorem cal_cnx {cD fD cU fU : Addr} {fdD fdU : FuncData} (T : Txt K mg w P)
    (ID : Sup.InitK P K mg "DuplicateSignal" cD fD "__init__" "DuplicateSignal.__init__" (defArgs s_DuplicateSignal_init) (defBody s_DuplicateSignal_init) (defScope s_DuplicateSignal_init) fdD) (nD : PySem.W.findIn K (.ref cD) "name" = some none)
    (IU : Sup.InitK P K mg "UnknownSignal" cU fU "__init__" "UnknownSignal.__init__" (defArgs s_UnknownSignal_init) (defBody s_UnknownSignal_init) (defScope s_UnknownSignal_init) fdU) (nU : PySem.W.findIn K (.ref cU) "name" = some none) :
    CalX P w K mg base 5 "check_names" (spCnX K cD cU) := by
  have C_subformulas : C8.Cal P w K mg base 2 "subformulas" (spSubs K) [] := cal_subs T
  have FD : FnOk P w K mg base CX0 3 fD fdD ["self", "name"] (spZ cD) := ok_zd ID nD
  have FU : FnOk P w K mg base CX0 3 fU fdU ["self", "name"] (spZ cU) := ok_zu IU nU
  have bD : Binds K fdD ["self", "name"] [] := ID.binds fun _ _ _ _ _ _ _ us hl => match us, hl with | [_, _], _ => rfl
  have bU : Binds K fdU ["self", "name"] [] := IU.binds fun _ _ _ _ _ _ _ us hl => match us, hl with | [_, _], _ => rfl
  obtain ⟨fa, fd, F, hm, hb⟩ := T.h_check_names
  refine ⟨fa, fd, _, F.okX sc_check_names (fun vs H Q E h => ?_) (fun cdv A outer s H vs Q E hr h => ?_), hm, F.kp, hb⟩
  · obtain ⟨h, n, v, f, hs, nm, rfl, _⟩ := h
    rfl
  · obtain ⟨h, n, v, f, hs, nm, rfl, hh, hn, hf, hk, hz, hl1, hl2, hl3, q1, q2, q3⟩ := h
    refine ⟨_, (pss_cons
      (ps_set (i := 3) sc_check_names.nd rfl (Or.inl rfl) (pe_callTy (call_list_ofK (K := K) rfl) (by rfl) T.z_list (by decide +kernel) (pa_cons (pv 2) pa_nil)))
      (pss_cons
      (ps_for (passes_of rfl) rfl (pi_list (pv 0)) (pg_name (i := 4) sc_check_names.nd rfl (.inl rfl)) (pss_cons
      (ps_if (pt_cmpR (op_inK (K := K) rfl) (pv 4) (pv 3) (by rfl)) (pss_one
      (ps_raise rfl (takes_of rfl rfl rfl rfl) (pmk_oex ID.T ID.iC ID.tI FD (hr.mono (by omega)) bD .nil pass0 (by rfl) ID.gC (pa_cons (pv 4) pa_nil)))) pss_nil)
      (pss_one
      (ps_expr (pe_bm PySem.F.plainAttrs_list PySem.F.slot_list_append PySem.F.type_list_append mt_append (pv 3) (pa_cons (pv 4) pa_nil))))))
      (pss_one
      (ps_for (passes_of rfl) rfl (pi_list (C8.pe_c C_subformulas hr (by omega) (by rfl) (pa_cons (pv 1) pa_nil))) (pg_name (i := 5) sc_check_names.nd rfl (.inl rfl)) (pss_one
      (ps_if (PW.pt (pw_and (pt_cmpR op_eq (pe_ix (ix_tupK (K := K) rfl) (pv 5) pe_int (fun _ _ => rfl)) pe_str (nomark _)) (pw_and1 (pt_cmpR (op_notInK (K := K) rfl) (pe_ix (ix_tupK (K := K) rfl) (pv 5) pe_int (fun _ _ => rfl)) (pv 3) (by rfl))))) (pss_one
      (ps_raise rfl (takes_of rfl rfl rfl rfl) (pmk_oex IU.T IU.iC IU.tI FU (hr.mono (by omega)) bU .nil pass0 (by rfl) IU.gC (pa_cons (pe_ix (ix_tupK (K := K) rfl) (pv 5) pe_int (fun _ _ => rfl)) pa_nil)))) pss_nil)))))), ?_⟩
    refine ⟨_, rfl, n, _, rfl, hn, fun D nD => ?_⟩
    generalize hX : upd H D _ = H1; obtain ⟨sH1, eD⟩ := nw nD hX; clear hX
    have nDh : D ≠ h := fun z => by rw [z, hh] at nD; cases nD
    refine ⟨_, rfl, h, rfl, ⟨_, .of (sH1 _ _ hh)⟩, for_list (K := K) (a := h) (xs := hs.map V.str) (fun i σ H' => ∃ v4 : Option V, σ = [some (.ref h), some v, some (.ref n), some (.ref D), v4, none] ∧ Same H H' ∧ H' D = some (.lst ((nm ++ hs.take i).map V.str)) ∧ dupF (nm ++ hs.take i) (hs.drop i) = dupF nm hs)
      ⟨none, rfl, sH1, by rw [List.take_zero, List.append_nil]; exact eD, by rw [List.take_zero, List.append_nil, List.drop_zero]⟩ (fun i σ H' _ ⟨_, _, x, _⟩ => .of (x _ _ hh)) ?_ ?_⟩
    · rintro i x σ H2 hi ⟨v4, rfl, s2, e2, ed⟩
      obtain ⟨nme, hnm, rfl⟩ := mapg hi
      have hil := (List.getElem?_eq_some_iff.mp hnm).1
      have edr : hs.drop i = nme :: hs.drop (i + 1) := by
        rw [List.drop_eq_getElem_cons hil]
        congr 1
        have := List.getElem?_eq_getElem hil
        rw [hnm] at this
        exact (Option.some.inj this).symm
      rw [edr] at ed
      by_cases hin : nme ∈ nm ++ hs.take i
      · have e1 : dupF nm hs = some nme := by
          rw [← ed]
          unfold dupF
          rw [if_pos hin]
        refine ⟨_, rfl, _, rfl, inqL (.of e2) ⟨_, rfl, iteB_t (decide_eq_true hin) ?_⟩⟩
        exact ⟨_, rfl, by show 1 ≤ 1000; decide, mk_xn s2 (hl3 _ (List.mem_of_getElem? hnm)) (q1 _ e1)⟩
      · have e1 : dupF (nm ++ hs.take i ++ [nme]) (hs.drop (i + 1)) = dupF nm hs := by
          rw [← ed]
          conv => rhs; unfold dupF
          rw [if_neg hin]
        refine ⟨_, rfl, _, rfl, inqL (.of e2) ⟨_, rfl, iteB_f (decide_eq_false hin) ?_⟩⟩
        have et : hs.take (i + 1) = hs.take i ++ [nme] := by rw [List.take_add_one, hnm]; rfl
        refine ⟨_, rfl, .inl ⟨rfl, _, .of e2⟩, _, rfl, D, _, _, rfl, rfl, e2, ?_, ?_⟩
        · rw [List.length_map, List.length_append, List.length_take]
          exact Nat.lt_of_le_of_lt (show nm.length + min i hs.length ≤ 200 by omega) (by decide)
        · refine ⟨_, rfl, fun b o e => by rw [upd_ne (ne_of_none e nD)]; exact s2 _ _ e, ?_, ?_⟩
          · rw [upd_same, et, ← List.append_assoc, List.map_append (l₁ := nm ++ hs.take i)]
            rfl
          · rw [et, ← List.append_assoc]
            exact e1
    · rintro σ H2 ⟨v4, rfl, s2, e2, ed⟩
      have hl : (hs.map V.str).length = hs.length := List.length_map _
      rw [hl, List.drop_length, List.take_length] at ed
      rw [hl, List.take_length] at e2
      have hd0 : dupF nm hs = none := by rw [← ed]; rfl
      refine ⟨_, rfl, v, f, sgF f, rfl, hf.same s2, wf_sg hk, hz, fun H3 o fs s3 ho hfs => ?_⟩
      have e3 := s3 _ _ e2
      have s23 := s2.trans s3
      refine ⟨o, rfl, ⟨_, .of ho⟩, for_list (K := K) (a := o) (xs := fs) (fun i σ H' => ∃ v5 : Option V, σ = [some (.ref h), some v, some (.ref n), some (.ref D), v4, v5] ∧ H' = H3 ∧ unkL (nm ++ hs) ((pre f).drop i) = unkL (nm ++ hs) (pre f))
        ⟨none, rfl, rfl, by rw [List.drop_zero]⟩ (fun i σ H' _ ⟨_, _, x, _⟩ => by rw [x]; exact .of ho) ?_ ?_⟩
      · rintro i x σ H4 hi ⟨v5, rfl, rfl, eu⟩
        obtain ⟨g, hg, hx⟩ := hfs.get hi
        have hwg := kok_pre hk g (List.mem_of_getElem? hg)
        have hil := (List.getElem?_eq_some_iff.mp hg).1
        have edr : (pre f).drop i = g :: (pre f).drop (i + 1) := by
          rw [List.drop_eq_getElem_cons hil]
          congr 1
          have := List.getElem?_eq_getElem hil
          rw [hg] at this
          exact (Option.some.inj this).symm
        rw [edr] at eu
        have nz : ∀ {k : Str}, k ≠ sSig → (decide (V.str k = V.str "signal")) = false := fun hk => decide_eq_false fun z => hk (V.str.inj z)
        cases g with
        | sg s =>
          obtain ⟨b, rfl, hb2⟩ := hx
          refine ⟨_, rfl, b, _, _, _, rfl, rfl, hb2, rfl, rfl, _, rfl, ?_⟩
          refine iteB_t rfl ⟨_, rfl, b, _, _, _, rfl, rfl, hb2, rfl, _, rfl, ninqL (.of e3) ⟨_, rfl, ?_⟩⟩
          by_cases hin : s ∈ nm ++ hs
          · refine iteB_f (by rw [decide_eq_true hin]; rfl) ⟨_, rfl, rfl, ?_⟩
            rw [← eu]
            conv => rhs; unfold unkL
            rw [if_pos hin]
          · have e1 : unkL (nm ++ hs) (pre f) = some s := by
              rw [← eu]
              unfold unkL
              rw [if_neg hin]
            refine iteB_t (by rw [decide_eq_false hin]; rfl) ?_
            exact ⟨_, rfl, b, _, _, _, rfl, rfl, hb2, rfl, by show 1 ≤ 1000; decide, mk_xn s23 hwg (q2 _ hd0 e1)⟩
        | c0 k =>
          obtain ⟨b, rfl, hb2⟩ := hx
          refine ⟨_, rfl, b, _, _, _, rfl, rfl, hb2, rfl, rfl, _, rfl, ?_⟩
          rw [nz hwg]
          exact iteB_f rfl (iteB_f rfl ⟨_, rfl, rfl, eu⟩)
        | un k f2 =>
          obtain ⟨b, x2, rfl, hb2, _⟩ := hx
          refine ⟨_, rfl, b, _, _, _, rfl, rfl, hb2, rfl, rfl, _, rfl, ?_⟩
          rw [nz hwg.1]
          exact iteB_f rfl (iteB_f rfl ⟨_, rfl, rfl, eu⟩)
        | bin k f2 f3 =>
          obtain ⟨b, x2, x3, rfl, hb2, _⟩ := hx
          refine ⟨_, rfl, b, _, _, _, rfl, rfl, hb2, rfl, rfl, _, rfl, ?_⟩
          rw [nz hwg.1]
          exact iteB_f rfl (iteB_f rfl ⟨_, rfl, rfl, eu⟩)
      · rintro σ H4 ⟨v5, rfl, rfl, eu⟩
        have hlf := hfs.len
        rw [hlf, List.drop_length] at eu
        exact q3 hd0 (by rw [← eu]; rfl) H4 s23
/-- the bounds of a formula -/
def Bnds (hs : List Str) (f : Fm) : Prop := hs.length ≤ 3 ∧ dpt f + 1 ≤ 100 ∧ cntK tpK (pre f) ≤ 8 ∧ cntK ["iff", "weak_until"] (pre f) ≤ 6
theorem gloM (T : Txt K mg w P) : ∃ tm1 tm2 tm3 tm4 tm5 tm6 : Tok, mg "MOST_CHARACTERS" = some (.int 200 tm1) ∧ mg "MOST_PARENTHESES" = some (.int 20 tm2) ∧ mg "MOST_HIDDEN" = some (.int 3 tm3) ∧ mg "MOST_DEPTH" = some (.int 100 tm4) ∧ mg "MOST_TEMPORAL" = some (.int 8 tm5) ∧ mg "MOST_DOUBLING" = some (.int 6 tm6) := T.er.2.2.2.2.2.2.1
def spCbX (K : PySem.W.Frag) (cT : Addr) : Sp := fun vs H Q E => ∃ (h : Addr) (v : V) (f : Fm) (hs nm : List Str), vs = [.ref h, v] ∧ H h = some (.lst (hs.map V.str)) ∧ FmAt K H v f ∧ Wf nm f ∧ sz f ≤ 1000 ∧ (¬ Bnds hs f → ∀ H', Same H H' → E (.ref cT) none H') ∧ (Bnds hs f → ∀ H', Same H H' → Q .non H')
theorem cal_cbx {cT : Addr} (T : Txt K mg w P) (eT : ErrC K mg "TooLarge" cT) : CalX P w K mg base 5 "check_bounds" (spCbX K cT) := by
  have C_depth : C8.Cal P w K mg base 2 "depth" (spDep K) [] := cal_dep T
  have C_temporal_count : C8.Cal P w K mg base 4 "temporal_count" (spTmp K) [] := cal_tmp T
  have C_count_operators : C8.Cal P w K mg base 3 "count_operators" (spCnt K) [] := cal_cnt T
  obtain ⟨tm1, tm2, tm3, tm4, tm5, tm6, gM1, gM2, gM3, gM4, gM5, gM6⟩ := gloM T
  obtain ⟨fa, fd, F, hm, hb⟩ := T.h_check_bounds
  refine ⟨fa, fd, _, F.okX sc_check_bounds (fun vs H Q E h => ?_) (fun cdv A outer s H vs Q E hr h => ?_), hm, F.kp, hb⟩
  · obtain ⟨h, v, f, hs, nm, rfl, _⟩ := h
    rfl
  · obtain ⟨h, v, f, hs, nm, rfl, hh, hf, hw, hz, q1, q2⟩ := h
    refine ⟨_, (pss_cons
      (ps_if (pt_cmpR op_gt (pe_callB (call_lenK (K := K) rfl) (by rfl) T.z_len PySem.boot_len (pa_cons (pv 0) pa_nil)) (pe_glob (v := .int 3) (by rfl) gM3 ⟨_, rfl⟩) (nomark _)) (pss_one
      (ps_raise rfl (takes_of rfl rfl rfl rfl) (eT.made rfl))) pss_nil)
      (pss_cons
      (ps_if (pt_cmpR op_gt (C8.pe_c C_depth hr (by omega) (by rfl) (pa_cons (pv 1) pa_nil)) (pe_glob (v := .int 100) (by rfl) gM4 ⟨_, rfl⟩) (nomark _)) (pss_one
      (ps_raise rfl (takes_of rfl rfl rfl rfl) (eT.made rfl))) pss_nil)
      (pss_cons
      (ps_if (pt_cmpR op_gt (C8.pe_c C_temporal_count hr (by omega) (by rfl) (pa_cons (pv 1) pa_nil)) (pe_glob (v := .int 8) (by rfl) gM5 ⟨_, rfl⟩) (nomark _)) (pss_one
      (ps_raise rfl (takes_of rfl rfl rfl rfl) (eT.made rfl))) pss_nil)
      (pss_one
      (ps_if (pt_cmpR op_gt (C8.pe_c C_count_operators hr (by omega) (by rfl) (pa_cons (pv 1) (pa_cons (pe_tup (pa_cons pe_str (pa_cons pe_str pa_nil))) pa_nil))) (pe_glob (v := .int 6) (by rfl) gM6 ⟨_, rfl⟩) (nomark _)) (pss_one
      (ps_raise rfl (takes_of rfl rfl rfl rfl) (eT.made rfl))) pss_nil))))), ?_⟩
    refine ⟨_, rfl, h, _, rfl, .inl (.of hh), _, _, rfl, rfl, _, rfl, ?_⟩
    rw [List.length_map]
    refine ite2 (fun c => q1 (fun b => by have := b.1; have := of_decide_eq_true c; omega) H (Same.refl H)) (fun c => ?_)
    have c1 : ¬ (3 : Int) < hs.length := fun z => c (decide_eq_true z)
    refine ⟨_, rfl, v, f, nm, rfl, hf, hw, hz, fun H1 s1 => ?_⟩
    refine ⟨_, _, rfl, rfl, _, rfl, ite2 (fun c => q1 (fun b => by have := b.2.1; have := of_decide_eq_true c; omega) H1 s1) (fun c => ?_)⟩
    have c2 : ¬ (100 : Int) < ((dpt f + 1 : Nat) : Int) := fun z => c (decide_eq_true z)
    refine ⟨_, rfl, v, f, nm, rfl, hf.same s1, hw, hz, fun H2 s2 => ?_⟩
    refine ⟨_, _, rfl, rfl, _, rfl, ite2 (fun c => q1 (fun b => by have := b.2.2.1; have := of_decide_eq_true c; omega) H2 (s1.trans s2)) (fun c => ?_)⟩
    have c3 : ¬ (8 : Int) < ((cntK tpK (pre f) : Nat) : Int) := fun z => c (decide_eq_true z)
    refine ⟨_, rfl, by show 2 ≤ sizeLine; decide, fun t nt => ?_⟩
    generalize hX : upd H2 t _ = H3; obtain ⟨sH3, et⟩ := nw nt hX; clear hX
    have s3 := (s1.trans s2).trans sH3
    refine ⟨v, t, f, nm, ["iff", "weak_until"], rfl, hf.same s3, hw, hz, .of et, fun H4 s4 => ?_⟩
    refine ⟨_, _, rfl, rfl, _, rfl, ite2 (fun c => q1 (fun b => by have := b.2.2.2; have := of_decide_eq_true c; omega) H4 (s3.trans s4)) (fun c => ?_)⟩
    have c4 : ¬ (6 : Int) < ((cntK ["iff", "weak_until"] (pre f) : Nat) : Int) := fun z => c (decide_eq_true z)
    exact q2 ⟨by omega, by omega, by omega, by omega⟩ H4 (s3.trans s4)
/-! how many opening parentheses -/
def c40 (l : List Nat) : Nat := (l.filter fun c => decide (c = 40)).length
theorem c40_app (a b : List Nat) : c40 (a ++ b) = c40 a + c40 b := by
  unfold c40
  rw [List.filter_append, List.length_append]
theorem parts_len (x : Str) (w : Nat) : ∀ (cuts : List Nat) (a : Nat), (PySem.StrLaws.partsFrom x w a cuts).length = cuts.length + 1
  | [], a => rfl
  | c :: r, a => by
    show (_ :: PySem.StrLaws.partsFrom x w (c + w) r).length = _
    rw [List.length_cons, parts_len x w r, List.length_cons]
theorem count_spl (x y : Str) (hy : TL.tl y ≠ []) : Txt.count x y = ((TL.spl (TL.tl y) 0 [] (TL.tl x)).length : Int) - 1 := by
  obtain ⟨f, g, hn⟩ := PySem.StrLaws.occ_tight x y (TL.len1 hy)
  have key := TL.parts_spl hy _ 0 f (Nat.zero_le _) g hn
  rw [List.drop_zero] at key
  have h := congrArg List.length key
  rw [List.length_map, parts_len] at h
  unfold Txt.count
  rw [← h]
  omega
theorem spl_c40 : ∀ (l acc : List Nat), (TL.spl [40] 0 acc l).length = c40 l + 1
  | [], acc => by rw [TL.spl_nil]; rfl
  | c :: r, acc => by
    by_cases h : c = 40
    · subst h
      rw [TL.spl_hit (show TL.pre [40] (40 :: r) = true by simp [TL.pre])]
      show (TL.spl [40] 0 [] r).length + 1 = _
      rw [spl_c40 r []]
      unfold c40
      rw [List.filter_cons_of_pos (by simp), List.length_cons]
    · rw [TL.spl_miss (show TL.pre [40] (c :: r) = false by simp [TL.pre, h, fun z : 40 = c => h z.symm])]
      rw [spl_c40 r _]
      unfold c40
      rw [List.filter_cons_of_neg (by simpa using h)]
theorem count40 (t : Str) : Txt.count t (Str.ofString "(") = (c40 t.cps.toList : Int) := by
  have e : TL.tl (Str.ofString "(") = [40] := by decide +kernel
  rw [count_spl t _ (by rw [e]; simp), e, spl_c40]
  show ((c40 t.cps.toList + 1 : Nat) : Int) - 1 = _
  omega
theorem kndP_ne (s : Str) : kndP s ≠ sSig := by
  unfold kndP knd
  cases e : preL.find? (fun p => decide (p.2 = s)) with
  | none => exact (show ("" : Str) ≠ sSig by decide +kernel)
  | some p => exact (show ∀ p ∈ preL, p.1 ≠ sSig by decide +kernel) p (List.mem_of_find?_eq_some e)
theorem kndI_ne (s : Str) : kndI s ≠ sSig := by
  unfold kndI knd
  cases e : infL.find? (fun p => decide (p.2 = s)) with
  | none => exact (show ("" : Str) ≠ sSig by decide +kernel)
  | some p => exact (show ∀ p ∈ infL, p.1 ≠ sSig by decide +kernel) p (List.mem_of_find?_eq_some e)
theorem kok_wrp : ∀ {ss : List Str} {g : Fm}, Kok g → Kok (wrp ss g)
  | [], _, h => h
  | s :: _, _, h => ⟨kndP_ne s, kok_wrp h⟩
theorem sz_wrp : ∀ (ss : List Str) (g : Fm), sz (wrp ss g) = sz g + ss.length
  | [], _ => rfl
  | s :: ss, g => by
    show sz (wrp ss g) + 1 = _
    rw [sz_wrp ss g, List.length_cons]
    omega
def szs (fs : List Fm) : Nat := (fs.map sz).sum
theorem szs_cons (f : Fm) (fs : List Fm) : szs (f :: fs) = sz f + szs fs := by
  unfold szs
  rw [List.map_cons, List.sum_cons]
theorem kok_fldL : ∀ {ops : List Str} {fs : List Fm} {a : Fm}, Kok a → (∀ f ∈ fs, Kok f) → Kok (fldL ops fs a)
  | [], _, _, h, _ => h
  | o :: os, [], _, h, _ => h
  | o :: os, f :: fs, a, h, k => kok_fldL (ops := os) ⟨kndI_ne o, h, k f List.mem_cons_self⟩ fun g hg => k g (List.mem_cons_of_mem _ hg)
theorem kok_fldR : ∀ {ops : List Str} {fs : List Fm} {a : Fm}, Kok a → (∀ f ∈ fs, Kok f) → Kok (fldR ops a fs)
  | [], _, _, h, _ => h
  | o :: os, [], _, h, _ => h
  | o :: os, f :: fs, a, h, k => ⟨kndI_ne o, h, kok_fldR (ops := os) (k f List.mem_cons_self) fun g hg => k g (List.mem_cons_of_mem _ hg)⟩
theorem kok_fld {ops : List Str} {fs : List Fm} {a : Fm} (h : Kok a) (k : ∀ f ∈ fs, Kok f) : Kok (fld ops a fs) := by
  cases ops with
  | nil => exact h
  | cons o os =>
    unfold fld
    dsimp only
    split
    · exact kok_fldL h k
    · exact kok_fldR h k
theorem sz_fldL : ∀ (ops : List Str) (fs : List Fm) (a : Fm), sz (fldL ops fs a) ≤ sz a + szs fs + fs.length
  | [], fs, a => by unfold fldL; omega
  | o :: os, [], a => by unfold fldL; omega
  | o :: os, f :: fs, a => by
    have := sz_fldL os fs (.bin (kndI o) a f)
    show sz (fldL os fs (.bin (kndI o) a f)) ≤ _
    have e : sz (.bin (kndI o) a f) = sz a + sz f + 1 := rfl
    rw [szs_cons, List.length_cons]
    omega
theorem sz_fldR : ∀ (ops : List Str) (fs : List Fm) (a : Fm), sz (fldR ops a fs) ≤ sz a + szs fs + fs.length
  | [], fs, a => by unfold fldR; omega
  | o :: os, [], a => by unfold fldR; omega
  | o :: os, f :: fs, a => by
    have := sz_fldR os fs f
    show sz a + sz (fldR os f fs) + 1 ≤ _
    rw [szs_cons, List.length_cons]
    omega
theorem sz_fld (ops : List Str) (fs : List Fm) (a : Fm) : sz (fld ops a fs) ≤ sz a + szs fs + fs.length := by
  cases ops with
  | nil => unfold fld; dsimp only; omega
  | cons o os =>
    unfold fld
    dsimp only
    split
    · exact sz_fldL _ _ _
    · exact sz_fldR _ _ _
/-- what a reading gives -/
def Gv (ts : List Tk) (f : Fm) (r : List Tk) : Prop := Kok f ∧ sz f + r.length ≤ ts.length ∧ ∀ t ∈ r, t ∈ ts
abbrev Tl (ts : List Tk) : Prop := ∀ t ∈ ts, t.c.length ≤ 1000 ∧ Tg t
theorem gv_atm {R : List Tk → Fm → List Tk → Prop} (hR : ∀ ts f r, Tl ts → R ts f r → Gv ts f r) {ts : List Tk} {f : Fm} {r : List Tk} (hl : Tl ts) (h : Atm R ts f r) : Gv ts f r := by
  cases ts with
  | nil => exact h.elim
  | cons t r1 =>
    rcases h with ⟨_, u, h2, _⟩ | ⟨_, h2, rfl, rfl⟩ | ⟨_, _, _, rfl, rfl⟩
    · obtain ⟨a, b, c⟩ := hR _ _ _ (fun t ht => hl t (List.mem_cons_of_mem _ ht)) h2
      refine ⟨a, ?_, fun t ht => List.mem_cons_of_mem _ (c t (List.mem_cons_of_mem _ ht))⟩
      rw [List.length_cons] at b ⊢
      omega
    · have hk : t.c = t.k := (hl t List.mem_cons_self).2 ((show ∀ s ∈ (["true", "false"] : List Str), s ≠ "name" by decide +kernel) _ h2) ((show ∀ s ∈ (["true", "false"] : List Str), s ≠ "end" by decide +kernel) _ h2) ((show ∀ s ∈ (["true", "false"] : List Str), s ≠ "bad" by decide +kernel) _ h2)
      refine ⟨?_, by show 1 + _ ≤ _; rw [List.length_cons]; omega, fun t ht => List.mem_cons_of_mem _ ht⟩
      show t.c ≠ sSig
      rw [hk]
      exact (show ∀ s ∈ (["true", "false"] : List Str), s ≠ sSig by decide +kernel) _ h2
    · exact ⟨(hl t List.mem_cons_self).1, by show 1 + _ ≤ _; rw [List.length_cons]; omega, fun t ht => List.mem_cons_of_mem _ ht⟩
theorem gv_una {R : List Tk → Fm → List Tk → Prop} (hR : ∀ ts f r, Tl ts → R ts f r → Gv ts f r) {ts : List Tk} {ss : List Str} {g : Fm} {r : List Tk} (h : Una R ts ss g r) (hl : Tl ts) : Kok g ∧ sz g + ss.length + r.length ≤ ts.length ∧ ∀ t ∈ r, t ∈ ts := by
  induction h with
  | nil _ h2 => exact gv_atm hR hl h2
  | cons _ _ _ ih =>
    obtain ⟨a, b, c⟩ := ih fun t ht => hl t (List.mem_cons_of_mem _ ht)
    refine ⟨a, ?_, fun t ht => List.mem_cons_of_mem _ (c t ht)⟩
    rw [List.length_cons, List.length_cons]
    omega
theorem gv_chn {R : List Tk → Fm → List Tk → Prop} (hR : ∀ ts f r, Tl ts → R ts f r → Gv ts f r) {l : Nat} {ts : List Tk} {ops : List Str} {fs : List Fm} {r : List Tk} (h : Chn R l ts ops fs r) (hl : Tl ts) : (∀ f ∈ fs, Kok f) ∧ szs fs + fs.length + r.length ≤ ts.length ∧ ∀ t ∈ r, t ∈ ts := by
  induction h with
  | nil _ => exact ⟨fun f hf => by (cases hf), by unfold szs; simp, fun t ht => ht⟩
  | cons _ _ h3 _ ih =>
    obtain ⟨a, b, c⟩ := hR _ _ _ (fun t ht => hl t (List.mem_cons_of_mem _ ht)) h3
    obtain ⟨a2, b2, c2⟩ := ih fun t ht => hl t (List.mem_cons_of_mem _ (c t ht))
    refine ⟨fun f hf => ?_, ?_, fun t ht => List.mem_cons_of_mem _ (c t (c2 t ht))⟩
    · rcases List.mem_cons.mp hf with z | z
      · rw [z]; exact a
      · exact a2 f z
    · rw [szs_cons, List.length_cons, List.length_cons]
      omega
theorem gv_rd : ∀ (n : Nat) {l : Nat} {ts : List Tk} {f : Fm} {r : List Tk}, Tl ts → RdF n l ts f r → Gv ts f r
  | 0, _, _, _, _, _, h => h.elim
  | n + 1, l, ts, f, r, hl, h => by
    rcases h with ⟨_, ss, g, h2, rfl⟩ | ⟨_, f1, r1, ops, fs, h1, h2, rfl⟩
    · obtain ⟨a, b, c⟩ := gv_una (fun ts f r hl h => gv_rd n hl h) h2 hl
      exact ⟨kok_wrp a, by rw [sz_wrp]; omega, c⟩
    · obtain ⟨a, b, c⟩ := gv_rd n hl h1
      obtain ⟨a2, b2, c2⟩ := gv_chn (fun ts f r hl h => gv_rd n hl h) h2 fun t ht => hl t (c t ht)
      have := sz_fld ops fs f1
      exact ⟨kok_fld a a2, by omega, fun t ht => c t (c2 t ht)⟩
theorem gv_hid {ts r : List Tk} {hs : List Str} (h : Hid ts hs r) (hl : Tl ts) : (∀ s ∈ hs, s.length ≤ 1000) ∧ 2 * hs.length + r.length ≤ ts.length ∧ ∀ t ∈ r, t ∈ ts := by
  induction h with
  | one _ _ => exact ⟨fun s hs => by rw [List.mem_singleton.mp hs]; exact (hl _ List.mem_cons_self).1, by simp; omega, fun t ht => List.mem_cons_of_mem _ (List.mem_cons_of_mem _ ht)⟩
  | more _ _ _ ih =>
    obtain ⟨a, b, c⟩ := ih fun t ht => hl t (List.mem_cons_of_mem _ (List.mem_cons_of_mem _ ht))
    refine ⟨fun s hs => ?_, ?_, fun t ht => List.mem_cons_of_mem _ (List.mem_cons_of_mem _ (c t ht))⟩
    · rcases List.mem_cons.mp hs with z | z
      · rw [z]; exact (hl _ List.mem_cons_self).1
      · exact a s z
    · rw [List.length_cons, List.length_cons, List.length_cons]
      omega
theorem gv_all {n : Nat} {ts : List Tk} {q : Str} {hs : List Str} {f : Fm} (h : Rda n ts q hs f) (hl : Tl ts) : Kok f ∧ sz f ≤ ts.length ∧ (∀ s ∈ hs, s.length ≤ 1000) ∧ 2 * hs.length ≤ ts.length := by
  obtain ⟨t, u, r, rfl, _, ⟨_, _, rfl, r2, h2⟩ | ⟨_, _, r1, r2, h1, h2⟩⟩ := h
  · obtain ⟨a, b, _⟩ := gv_rd n hl h2
    exact ⟨a, by omega, fun s hs => by (cases hs), Nat.zero_le _⟩
  · have hl2 : Tl r := fun t ht => hl t (List.mem_cons_of_mem _ ht)
    obtain ⟨a, b, c⟩ := gv_hid h1 hl2
    obtain ⟨a2, b2, _⟩ := gv_rd n (fun t ht => hl2 t (c t ht)) h2
    rw [List.length_cons]
    exact ⟨a2, by omega, a, by omega⟩
theorem tks_len {cs : List Nat} {p : Nat} {ts : List Tk} (h : Tks cs p ts) : ts.length ≤ cs.length + 1 := by
  induction h with
  | nil => exact Nat.le_refl _
  | sp _ ih => rw [List.length_cons]; omega
  | bad _ _ => rw [List.length_cons]; exact Nat.le_add_left _ _
  | tok _ h1 _ ih =>
    have := tok_pos h1
    rw [List.length_drop] at ih
    rw [List.length_cons]
    omega
theorem k_sgn : ∀ s ∈ sgnL, s ≠ "end" ∧ s ≠ "name" ∧ s ≠ "bad" ∧ (s = "(" ∨ ∀ c r, s.cps.toList = c :: r → c ≠ 40) ∧ s.length ≤ 3 := by
  have a : ∀ s ∈ sgnL, s ≠ "end" ∧ s ≠ "name" ∧ s ≠ "bad" ∧ (s = "(" ∨ s.cps.toList.head? ≠ some 40) ∧ s.length ≤ 3 := by decide +kernel
  intro s hs
  obtain ⟨h1, h2, h3, h4, h5⟩ := a s hs
  exact ⟨h1, h2, h3, h4.imp id fun h c r e z => h (by rw [e, z]; rfl), h5⟩
theorem res_mem {s : Str} (h : resW s = true) : s ∈ (["true", "false", "exists", "forall"] : List Str) := by
  unfold resW at h
  rw [Bool.or_eq_true] at h
  rcases h with h | h
  · have := of_decide_eq_true h
    simp at this ⊢
    rcases this with z | z <;> simp [z]
  · have := of_decide_eq_true h
    simp at this ⊢
    rcases this with z | z <;> simp [z]
theorem k_res : ∀ s ∈ (["true", "false", "exists", "forall"] : List Str), s ≠ "end" ∧ s ≠ "bad" ∧ s ≠ "name" ∧ s ≠ "(" := by decide +kernel
/-- a token: a sign, a reserved word, a name, or none -/
theorem tok_kind {cs : List Nat} : (∃ s ∈ sgnL, tokOf cs = (s, s) ∧ cs.take s.length = s.cps.toList) ∨ ((sgnL.find? fun s => decide (cs.take s.length = s.cps.toList)) = none ∧ ((wlen true cs = 0 ∧ tokOf cs = (("bad" : Str), ("" : Str))) ∨ (wlen true cs ≠ 0 ∧ resW ⟨(cs.take (wlen true cs)).toArray⟩ = true ∧ tokOf cs = ((⟨(cs.take (wlen true cs)).toArray⟩ : Str), (⟨(cs.take (wlen true cs)).toArray⟩ : Str))) ∨ (wlen true cs ≠ 0 ∧ resW ⟨(cs.take (wlen true cs)).toArray⟩ = false ∧ tokOf cs = (("name" : Str), (⟨(cs.take (wlen true cs)).toArray⟩ : Str))))) := by
  unfold tokOf
  cases e : sgnL.find? (fun s => decide (cs.take s.length = s.cps.toList)) with
  | some s => exact .inl ⟨s, List.mem_of_find?_eq_some e, rfl, by have := List.find?_some e; simpa using this⟩
  | none =>
    refine .inr ⟨rfl, ?_⟩
    dsimp only
    by_cases c : wlen true cs = 0
    · rw [if_pos c]
      exact .inl ⟨c, rfl⟩
    · rw [if_neg c]
      cases d : resW ⟨(cs.take (wlen true cs)).toArray⟩ with
      | true => exact .inr (.inl ⟨c, rfl, rfl⟩)
      | false => exact .inr (.inr ⟨c, rfl, rfl⟩)
theorem drop_c40 : ∀ (n : Nat) (l : List Nat), c40 (l.drop n) ≤ c40 l
  | 0, l => Nat.le_refl _
  | n + 1, [] => Nat.le_refl _
  | n + 1, c :: l => by
    have := drop_c40 n l
    have e : c40 (c :: l) = c40 [c] + c40 l := c40_app [c] l
    rw [List.drop_succ_cons, e]
    omega
theorem par_len : ("(" : Str).length = 1 ∧ ("(" : Str).cps.toList = [40] := by decide +kernel
/-- all about the tokens of a text -/
theorem tks_all {cs : List Nat} {p : Nat} {ts : List Tk} (h : Tks cs p ts) : WT ts ∧ (∀ t ∈ ts, t.p ≤ p + cs.length ∧ t.c.length ≤ cs.length ∧ Tg t) ∧ np ts ≤ c40 cs := by
  induction h with
  | nil => exact ⟨.last (.inl rfl), fun t ht => by rw [List.mem_singleton.mp ht]; exact ⟨Nat.le_refl _, (show ("" : Str).length ≤ 0 by decide +kernel), fun _ h => absurd rfl h⟩, Nat.le_refl _⟩
  | @sp r p ts _ ih =>
    obtain ⟨a, b, c⟩ := ih
    refine ⟨a, fun t ht => ?_, ?_⟩
    · obtain ⟨b1, b2, b3⟩ := b t ht
      rw [List.length_cons]
      exact ⟨by omega, by omega, b3⟩
    · have e : c40 (32 :: r) = c40 [32] + c40 r := c40_app [32] r
      omega
  | @bad c r p h0 h1 =>
    refine ⟨.last (.inr rfl), fun t ht => ?_, ?_⟩
    · rw [List.mem_singleton.mp ht]
      refine ⟨Nat.le_add_right _ _, ?_, fun _ _ h => absurd rfl h⟩
      rcases tok_kind (cs := c :: r) with ⟨s, hs, e, _⟩ | ⟨_, ⟨_, e⟩ | ⟨_, d, e⟩ | ⟨_, d, e⟩⟩
      · rw [e] at h1
        exact absurd h1 (k_sgn s hs).2.2.1
      · rw [e]
        exact Nat.zero_le _
      · rw [e] at h1
        exact absurd h1 (k_res _ (res_mem d)).2.1
      · rw [e] at h1
        exact absurd h1 (show ("name" : Str) ≠ "bad" by decide +kernel)
    · have : np [(⟨"bad", (tokOf (c :: r)).2, p⟩ : Tk)] = 0 := by
        rw [np_cons, if_neg (show ("bad" : Str) ≠ "(" by decide +kernel)]
        rfl
      omega
  | @tok c r p ts h0 h1 h2 ih =>
    obtain ⟨a, b, cc⟩ := ih
    have hp := tok_pos h1
    have hd := drop_c40 (tokOf (c :: r)).2.length (c :: r)
    have key : (tokOf (c :: r)).1 ≠ "end" ∧ ((tokOf (c :: r)).1 ≠ "name" → (tokOf (c :: r)).2 = (tokOf (c :: r)).1) ∧ ((tokOf (c :: r)).1 = "(" → c = 40 ∧ (tokOf (c :: r)).2.length = 1) := by
      rcases tok_kind (cs := c :: r) with ⟨s, hs, e, e2⟩ | ⟨_, ⟨_, e⟩ | ⟨_, d, e⟩ | ⟨_, d, e⟩⟩
      · rw [e]
        refine ⟨(k_sgn s hs).1, fun _ => rfl, fun z => ?_⟩
        have z : s = "(" := z
        rw [z] at e2 ⊢
        rw [par_len.1, par_len.2] at e2
        exact ⟨(List.cons.inj e2).1, par_len.1⟩
      · rw [e] at h1
        exact absurd rfl h1
      · rw [e]
        obtain ⟨k1, k2, k3, k4⟩ := k_res _ (res_mem d)
        exact ⟨k1, fun _ => rfl, fun z => absurd z k4⟩
      · rw [e]
        exact ⟨(show ("name" : Str) ≠ "end" by decide +kernel), fun z => absurd rfl z, fun z => absurd z (show ("name" : Str) ≠ "(" by decide +kernel)⟩
    rw [List.length_drop] at b
    refine ⟨.cons key.1 h1 (fun h _ _ => key.2.1 h) a, fun t ht => ?_, ?_⟩
    · rcases List.mem_cons.mp ht with z | z
      · rw [z]
        exact ⟨Nat.le_add_right _ _, hp.2, fun h _ _ => key.2.1 h⟩
      · obtain ⟨b1, b2, b3⟩ := b t z
        exact ⟨by omega, by omega, b3⟩
    · rw [np_cons]
      by_cases z : (tokOf (c :: r)).1 = "("
      · obtain ⟨z1, z2⟩ := key.2.2 z
        rw [if_pos z]
        rw [z2, List.drop_succ_cons, List.drop_zero] at cc
        have e : c40 (c :: r) = c40 [c] + c40 r := c40_app [c] r
        rw [z1] at e ⊢
        have e1 : c40 [40] = 1 := rfl
        omega
      · rw [if_neg z]
        omega
section
open TL
theorem ite_f {c : Bool} {A B : Prop} (h : c = false) (q : B) : if c = true then A else B := by
  rw [if_neg (by rw [h]; exact Bool.false_ne_true)]
  exact q
theorem ite_t {c : Bool} {A B : Prop} (h : c = true) (q : A) : if c = true then A else B := by
  rw [if_pos h]
  exact q
theorem take_get {α : Type} {xs : List α} {i : Nat} {x : α} (h : xs[i]? = some x) : xs.take (i + 1) = xs.take i ++ [x] := by
  rw [List.take_add_one, h]
  rfl
theorem tsl {n : Int} (h : n.natAbs.log2 < 1920) : (ts n).length ≤ 1921 := int_text_len_1921 h
theorem log_mono {a b : Nat} (h : a ≤ b) (hb : b.log2 < 1920) : a.log2 < 1920 := by
  by_cases z : a = 0
  · rw [z]; decide
  · exact (Nat.log2_lt z).mpr (Nat.lt_of_le_of_lt h ((Nat.log2_lt (by omega)).mp hb))
theorem ts_nat (m : Nat) : tl (ts (m : Int)) = numL m := tl_num m
theorem joinE : ∀ ps : List Str, tl (Txt.join (Str.ofString "") ps) = (ps.map tl).flatten
  | ps => by
    rw [join_eq, tl_join]
    have e : tl (Str.ofString "") = [] := by decide +kernel
    rw [e]
    generalize ps.map tl = ls
    induction ls with
    | nil => rfl
    | cons l ls ih =>
      cases ls with
      | nil => simp [joinL]
      | cons m ls =>
        show l ++ ([] ++ joinL [] (m :: ls)) = _
        rw [ih]
        rfl
theorem sum_tl : ∀ ps : List Str, (ps.map (·.length)).sum = ((ps.map tl).flatten).length
  | [] => rfl
  | p :: ps => by
    rw [List.map_cons, List.sum_cons, List.map_cons, List.flatten_cons, List.length_append, sum_tl ps, len_tl]
def isD (c : Nat) : Bool := decide (48 ≤ c ∧ c ≤ 57)
def natF (l : List Nat) : Option Nat := if l = [] ∨ (l[0]? = some 48 ∧ 1 < l.length) then none else if l.all isD = true then some (NumText.digitsVal l) else none
def natV : Option Nat → V
  | some n => .int (n : Int)
  | none => .non
theorem dig_tl : (Str.ofString "0123456789").cps.toList = [48, 49, 50, 51, 52, 53, 54, 55, 56, 57] := by decide +kernel
theorem dig_mem (c : Nat) : decide (c ∈ (Str.ofString "0123456789").cps.toList) = isD c := by
  rw [dig_tl]
  unfold isD
  congr 1
  simp only [List.mem_cons, List.not_mem_nil, or_false]
  apply propext
  omega
theorem dig_ix {c : Nat} (h : isD c = true) : Builtin.Str.occurrences (Str.ofString "0123456789") ⟨#[c]⟩ 0 (Str.ofString "0123456789").length 1 = [c - 48] := by
  have h := of_decide_eq_true h
  rcases (show c = 48 ∨ c = 49 ∨ c = 50 ∨ c = 51 ∨ c = 52 ∨ c = 53 ∨ c = 54 ∨ c = 55 ∨ c = 56 ∨ c = 57 by omega) with rfl | rfl | rfl | rfl | rfl | rfl | rfl | rfl | rfl | rfl <;> decide +kernel
theorem dv_snoc (l : List Nat) (c : Nat) : NumText.digitsVal (l ++ [c]) = NumText.digitsVal l * 10 + (c - 48) := by
  unfold NumText.digitsVal
  rw [List.foldl_append]
  rfl
theorem cps_tl {x : Str} {i c : Nat} (h : x.cps[i]? = some c) : (tl x)[i]? = some c := by rw [← h]; exact Array.getElem?_toList
theorem str_nil {x : Str} : x = Str.ofString "" ↔ tl x = [] := by
  have e : tl (Str.ofString "") = [] := by decide +kernel
  constructor
  · rintro rfl; exact e
  · intro h; exact ext_tl (by rw [h, e])
theorem str_one {c d : Nat} {s : String} (e : tl (Str.ofString s) = [d]) : (⟨#[c]⟩ : Str) = Str.ofString s ↔ c = d := by
  constructor
  · intro h
    have : tl (⟨#[c]⟩ : Str) = tl (Str.ofString s) := by rw [h]
    rw [e] at this
    exact (List.cons.inj this).1
  · rintro rfl; exact ext_tl (by rw [e])
theorem dec_str {x y : Str} : decide (V.str x = V.str y) = decide (x = y) := by
  by_cases c : x = y
  · rw [c, decide_eq_true rfl, decide_eq_true rfl]
  · rw [decide_eq_false c, decide_eq_false fun z => c (V.str.inj z)]
theorem ite_s {x y : Str} {A B : Prop} (h1 : x = y → A) (h2 : x ≠ y → B) : if decide (V.str x = V.str y) = true then A else B := by
  rw [dec_str]
  exact ite2 (fun k => h1 (of_decide_eq_true k)) (fun k => h2 fun z => k (decide_eq_true z))
def spNat : Sp := fun vs H Q _ => ∃ x : Str, vs = [.str x] ∧ x.length ≤ 100000 ∧ Q (natV (natF (tl x))) H
theorem cal_nat {tk : Tok} (T : Txt K mg w P) (gDI : mg "DIGITS" = some (.str "0123456789" tk)) : C8.Cal P w K mg base 1 "natural" spNat [] := by
  obtain ⟨f, fd, F, hm, hb⟩ := T.h_natural
  refine ⟨f, fd, _, [], F.ok sc_natural (fun vs H Q E h => ?_) (fun cdv A outer s H vs Q E hr h => ?_), hm, F.kp, hb, .nil⟩
  · obtain ⟨n, rfl, _⟩ := h
    rfl
  · obtain ⟨x, rfl, hx, q⟩ := h
    refine ⟨_, (C8.pss_cut
      (ps_if (PW.pt (pw_or (pt_cmpR op_eq (pv 0) pe_str (nomark _)) (pw_or1 (PW.pt (pw_and (pt_cmpR op_eq (pe_ix ix_str (pv 0) pe_int (fun _ _ => rfl)) pe_str (nomark _)) (pw_and1 (pt_cmpR op_gt (pe_callB call_len_str (by rfl) T.z_len PySem.boot_len (pa_cons (pv 0) pa_nil)) pe_int (nomark _)))))))) (pss_one
      (ps_ret pe_non)) pss_nil)
      (pss_cons
      (ps_set (i := 1) sc_natural.nd rfl (Or.inl rfl) pe_int)
      (pss_cons
      (ps_for PassesOwn.never rfl (pi_str (pv 0)) (pg_name (i := 2) sc_natural.nd rfl (.inl rfl)) (pss_cons
      (ps_if (pt_cmpR op_notIn_sign (pv 2) (pe_glob (v := .str "0123456789") (by rfl) gDI ⟨_, rfl⟩) (by rfl)) (pss_one
      (ps_ret pe_non)) pss_nil)
      (pss_one
      (ps_set (i := 1) sc_natural.nd rfl (Or.inl rfl) (pe_op op_add (pe_op op_mul pe_int (pv 1)) (pe_m1 PySem.F.slot_str_index PySem.F.type_str_index mt_sindex (pe_glob (v := .str "0123456789") (by rfl) gDI ⟨_, rfl⟩) (pv 2)))))))
      (pss_one
      (ps_ret (pv 1)))))), ?_⟩
    have hz : x.length ≤ sizeLine := Nat.le_trans hx (by decide)
    have t48 : tl (Str.ofString "0") = [48] := by decide +kernel
    by_cases hne : tl x = []
    · rw [show natF (tl x) = none from if_pos (.inl hne)] at q
      exact ⟨fun _ _ => False, ⟨_, rfl, rfl, _, rfl, ite_s (fun k => q) (fun k => absurd (str_nil.mpr hne) k)⟩, fun _ _ h => h.elim⟩
    obtain ⟨c0, r0, ex⟩ := List.exists_cons_of_ne_nil hne
    have hloop : ¬ (tl x = [] ∨ ((tl x)[0]? = some 48 ∧ 1 < (tl x).length)) → (Q (natV (if (tl x).all isD = true then some (NumText.digitsVal (tl x)) else none)) H) := fun h => by
      rw [show natF (tl x) = _ from if_neg h] at q
      exact q
    have at0 : atI x.cps.toList 0 = some c0 := atI_nat (j := 0) (by rw [show x.cps.toList = c0 :: r0 from ex]; rfl)
    have h0 : (tl x)[0]? = some c0 := by rw [ex]; rfl
    have hlen : x.length = (tl x).length := len_tl x
    refine ⟨fun σ H' => σ = [some (.str x), none, none] ∧ H' = H ∧ Q (natV (if (tl x).all isD = true then some (NumText.digitsVal (tl x)) else none)) H, ?_, ?_⟩
    · refine ⟨_, rfl, rfl, _, rfl, ite_s (fun k => absurd (str_nil.mp k) hne) (fun _ => ?_)⟩
      refine ⟨_, rfl, x, 0, c0, rfl, rfl, hz, at0, rfl, _, rfl, ite_s (fun k1 => ?_) (fun k1 => ?_)⟩
      · refine ⟨_, rfl, x, rfl, hz, _, _, rfl, rfl, _, rfl, ite2 (fun k2 => ?_) (fun k2 => ?_)⟩
        · rw [show natF (tl x) = none from if_pos (.inr ⟨by rw [h0, (str_one t48).mp k1], by have := of_decide_eq_true k2; omega⟩)] at q
          exact q
        · exact ⟨rfl, rfl, hloop (fun z => by
            rcases z with z | z
            · exact hne z
            · exact k2 (decide_eq_true (by omega)))⟩
      · exact ite_f rfl ⟨rfl, rfl, hloop (fun z => by
          rcases z with z | z
          · exact hne z
          · rw [h0] at z; exact k1 ((str_one t48).mpr (Option.some.inj z.1)))⟩
    rintro σ H' ⟨rfl, rfl, q2⟩
    clear q hloop
    have hsz : x.cps.size = (tl x).length := hlen
    refine ⟨_, rfl, x, rfl, for_str (x := x) (fun i σ H2 => ∃ v2 : Option V, σ = [some (.str x), some (.int ((NumText.digitsVal ((tl x).take i) : Nat) : Int)), v2] ∧ H2 = H' ∧ ((tl x).take i).all isD = true)
      ⟨_, rfl, rfl, rfl⟩ ?_ ?_⟩
    · rintro i c σ H2 hc ⟨v2, rfl, rfl, hall⟩
      have hc2 := cps_tl hc
      refine ⟨_, rfl, c, _, rfl, rfl, _, rfl, ?_⟩
      rw [dig_mem]
      cases hd : isD c with
      | false =>
        rw [show (tl x).all isD = false from by
          rw [List.all_eq_false]
          exact ⟨c, List.mem_of_getElem? hc2, by rw [hd]; exact Bool.false_ne_true⟩] at q2
        exact q2
      | true =>
        have hr := of_decide_eq_true hd
        refine ⟨_, rfl, _, _, rfl, rfl, .inl ⟨by decide, by decide⟩, ⟨_, rfl⟩, _, rfl, _, _, c - 48, [], rfl, rfl, dig_ix hd, _, _, rfl, rfl, some (.str ⟨#[c]⟩), ?_, rfl, ?_⟩
        · rw [take_get hc2, dv_snoc]
          have e : (10 : Int) * ((NumText.digitsVal ((tl x).take i) : Nat) : Int) + ((c - 48 : Nat) : Int) = ((NumText.digitsVal ((tl x).take i) * 10 + (c - 48) : Nat) : Int) := by omega
          rw [← e]
          rfl
        · rw [take_get hc2, List.all_append, hall]
          show (true && (isD c && true)) = true
          rw [hd]
          rfl
    rintro σ H2 ⟨v2, rfl, rfl, hall⟩
    rw [hsz, List.take_length] at hall ⊢
    rw [if_pos hall] at q2
    exact ⟨_, rfl, q2⟩
theorem sapp (a b c : Str) : a ++ b ++ c = a ++ (b ++ c) := by
  apply ext_tl
  show (a.cps ++ b.cps ++ c.cps).toList = (a.cps ++ (b.cps ++ c.cps)).toList
  rw [Array.append_assoc]
theorem tl_app (a b : Str) : tl (a ++ b) = tl a ++ tl b := by
  show (a.cps ++ b.cps).toList = _
  rw [Array.toList_append]
theorem slen (a b : Str) : (a ++ b).length = a.length + b.length := by rw [len_tl, len_tl, len_tl, tl_app, List.length_append]
def sE : Str := Str.ofString ""
def sN : Str := Str.ofString "\n"
def sB : Str := Str.ofString " "
theorem tl_sE : tl sE = [] := by decide +kernel
theorem tl_sN : tl sN = [10] := by decide +kernel
theorem tl_sB : tl sB = [32] := by decide +kernel
theorem tl_jn (y : Str) (ps : List Str) : tl (Txt.join y ps) = joinL (tl y) (ps.map tl) := by rw [join_eq, tl_join]
theorem joinL_cons (S l m : List Nat) (ls : List (List Nat)) : joinL S (l :: m :: ls) = l ++ (S ++ joinL S (m :: ls)) := rfl
theorem joinL_end (S : List Nat) : ∀ ls : List (List Nat), joinL S (ls ++ [[]]) = (ls.map (· ++ S)).flatten
  | [] => rfl
  | [l] => by
    show l ++ (S ++ []) = (l ++ S) ++ []
    rw [List.append_nil, List.append_nil]
  | l :: m :: ls => by
    show l ++ (S ++ joinL S ((m :: ls) ++ [[]])) = (l ++ S) ++ ((m :: ls).map (· ++ S)).flatten
    rw [joinL_end S (m :: ls), List.append_assoc]
theorem mem_joinL {S : List Nat} {s : Nat} : ∀ {ps : List (List Nat)}, s ∈ joinL S ps → s ∈ S ∨ ∃ p ∈ ps, s ∈ p
  | [], h => by cases h
  | [p], h => .inr ⟨p, List.mem_singleton.mpr rfl, h⟩
  | p :: q :: ps, h => by
    rw [joinL_cons] at h
    rcases List.mem_append.mp h with h | h
    · exact .inr ⟨p, List.mem_cons_self, h⟩
    · rcases List.mem_append.mp h with h | h
      · exact .inl h
      · rcases mem_joinL h with h | ⟨r, h1, h2⟩
        · exact .inl h
        · exact .inr ⟨r, List.mem_cons_of_mem _ h1, h2⟩
theorem joinL_len (S : List Nat) {k : Nat} : ∀ ps : List (List Nat), (∀ p ∈ ps, p.length ≤ k) → (joinL S ps).length ≤ (k + S.length) * ps.length
  | [], _ => by simp [joinL]
  | [p], h => by
    have := h p List.mem_cons_self
    show p.length ≤ (k + S.length) * 1
    omega
  | p :: q :: ps, h => by
    have h1 := h p List.mem_cons_self
    have h2 := joinL_len S (q :: ps) fun r hr => h r (List.mem_cons_of_mem _ hr)
    rw [joinL_cons, List.length_append, List.length_append, List.length_cons, Nat.mul_succ]
    omega
theorem jlen {y : Str} {ps : List Str} {k : Nat} (h : ∀ p ∈ ps, p.length ≤ k) : (Txt.join y ps).length ≤ (k + y.length) * ps.length := by
  rw [len_tl, tl_jn, len_tl]
  have := joinL_len (tl y) (k := k) (ps.map tl) fun p hp => by
    obtain ⟨z, hz, rfl⟩ := List.mem_map.mp hp
    rw [← len_tl]
    exact h z hz
  rw [List.length_map] at this
  exact this
theorem slens {k : Nat} : ∀ {ps : List Str}, (∀ p ∈ ps, p.length ≤ k) → (ps.map (·.length)).sum ≤ k * ps.length
  | [], _ => by simp
  | p :: ps, h => by
    have h1 := h p List.mem_cons_self
    have h2 := slens (ps := ps) fun r hr => h r (List.mem_cons_of_mem _ hr)
    rw [List.map_cons, List.sum_cons, List.length_cons, Nat.mul_succ]
    omega
theorem ts_free0 {n : Int} (h : 0 ≤ n) {s : Nat} (hs : s < 48 ∨ 57 < s) : s ∉ tl (ts n) := by
  rw [show n = ((n.toNat : Nat) : Int) by omega, ts_nat]
  exact numL_free hs
theorem ts_neg {n : Int} (h : n < 0) : tl (ts n) = 45 :: numL n.natAbs := by
  show tl (Str.ofString (toString n)) = _
  rw [toString_neg h, tl_ofString, String.toList_append, List.map_append, show (0 : Int) - n = ((n.natAbs : Nat) : Int) by omega, ← ts_nat]
  show _ = 45 :: tl (Str.ofString (toString ((n.natAbs : Nat) : Int)))
  rw [tl_ofString]
  rfl
theorem ts_free {n : Int} {s : Nat} (hs : s < 45) : s ∉ tl (ts n) := by
  by_cases h : n < 0
  · rw [ts_neg h]
    intro z
    rcases List.mem_cons.mp z with z | z
    · omega
    · exact numL_free (.inl (by omega)) z
  · exact ts_free0 (by omega) (.inl (by omega))
theorem numL_head (n : Nat) : 10 ≤ n → ∃ c r, numL n = c :: r ∧ c ≠ 48 := by
  induction n using Nat.strongRecOn with
  | _ n ih =>
    intro h
    rw [numL_step h]
    by_cases g : n / 10 < 10
    · rw [numL_lt g]
      exact ⟨48 + n / 10, [48 + n % 10], rfl, by omega⟩
    · obtain ⟨c, r, e, hc⟩ := ih (n / 10) (by omega) (by omega)
      exact ⟨c, r ++ [48 + n % 10], by rw [e]; rfl, hc⟩
theorem natF_num (n : Nat) : natF (numL n) = some n := by
  unfold natF
  have hd : (numL n).all isD = true := List.all_eq_true.mpr fun c hc => decide_eq_true (numL_digits n c hc)
  rw [if_neg, if_pos hd, numL_val]
  rintro (h | ⟨h1, h2⟩)
  · exact numL_ne n h
  · by_cases g : n < 10
    · rw [numL_lt g] at h2
      simp at h2
    · obtain ⟨c, r, e, hc⟩ := numL_head n (by omega)
      rw [e] at h1
      exact hc (Option.some.inj h1)
theorem tl_hi (z : Str) (k : Nat) : tl (cutS z none (some (k : Int))) = (tl z).take k := by
  show ((z.cps.toList.drop (HT.sIx z.length 0 none)).take (HT.sIx z.length z.length (some (k : Int)) - HT.sIx z.length 0 none)) = _
  rw [HT.sIx_none, HT.sIx_nat, List.drop_zero, Nat.sub_zero, len_tl]
  exact List.take_eq_take_iff.mpr (by simp [tl])
theorem tl_lo (z : Str) (k : Nat) : tl (cutS z (some (k : Int)) none) = (tl z).drop k := by
  show ((z.cps.toList.drop (HT.sIx z.length 0 (some (k : Int)))).take (HT.sIx z.length z.length none - HT.sIx z.length 0 (some (k : Int)))) = _
  rw [HT.sIx_none, HT.sIx_nat]
  have hl := len_tl z
  rcases Nat.lt_or_ge k z.length with h | h
  · rw [show min k z.length = k by omega]
    exact List.take_of_length_le (by rw [List.length_drop, ← hl]; exact Nat.le_refl _)
  · rw [show min k z.length = z.length by omega, List.drop_eq_nil_of_le (by rw [← hl]; exact Nat.le_refl _), List.drop_eq_nil_of_le (by rw [← hl]; exact h), List.take_nil]
theorem ite_sn {x y : Str} {A B : Prop} (h1 : x ≠ y → A) (h2 : x = y → B) : if (!decide (V.str x = V.str y)) = true then A else B := by
  rw [dec_str]
  by_cases h : x = y
  · rw [decide_eq_true h]
    exact iteF (h2 h)
  · rw [decide_eq_false h]
    exact iteT (h1 h)
theorem at0 {x : V} {xs : List V} : atI (x :: xs) 0 = some x := atI_nat (j := 0) rfl
def whV (l : List Nat) : V := if l.take 1 = [45] then (match natF (l.drop 1) with | some (n + 1) => .int (-((n + 1 : Nat) : Int)) | _ => .non) else natV (natF l)
def spWh : Sp := fun vs H Q _ => ∃ x : Str, vs = [.str x] ∧ x.length ≤ 10000 ∧ Q (whV (tl x)) H
theorem cal_wh {tk : Tok} (T : Txt K mg w P) (gDI : mg "DIGITS" = some (.str "0123456789" tk)) : C8.Cal P w K mg base 2 "whole" spWh [] := by
  have C_natural : C8.Cal P w K mg base 1 "natural" spNat [] := cal_nat T gDI
  obtain ⟨f, fd, F, hm, hb⟩ := T.h_whole
  refine ⟨f, fd, _, [], F.ok sc_whole (fun vs H Q E h => ?_) (fun cdv A outer s H vs Q E hr h => ?_), hm, F.kp, hb, .nil⟩
  · obtain ⟨n, rfl, _⟩ := h
    rfl
  · obtain ⟨x, rfl, hle, q⟩ := h
    refine ⟨_, (pss_cons
      (ps_if (pt_cmpR op_ne (pe_slice sl_str (pv 0) po_none (po_some pe_int)) pe_str (nomark _)) (pss_one
      (ps_ret (C8.pe_c C_natural hr (by decide) (by rfl) (pa_cons (pv 0) pa_nil)))) pss_nil)
      (pss_cons
      (ps_set (i := 1) sc_whole.nd rfl (Or.inl rfl) (C8.pe_c C_natural hr (by decide) (by rfl) (pa_cons (pe_slice sl_str (pv 0) (po_some pe_int) po_none) pa_nil)))
      (pss_one
      (ps_ret (pe_ifExp (PW.pt (pw_or (pt_cmpR op_isN (pv 1) pe_non (nomark _)) (pw_or1 (pt_cmpR op_eq (pv 1) pe_int (nomark _))))) pe_non (pe_un un_neg (pv 1))))))), ?_⟩
    refine ⟨_, rfl, (1 : Int), rfl, x, rfl, Nat.le_trans hle (by decide), ?_⟩
    have t45 : tl (Str.ofString "-") = [45] := by decide +kernel
    have ecut : tl (cutS x none (some 1)) = (tl x).take 1 := tl_hi x 1
    refine ⟨rfl, _, rfl, ite_sn (fun k => ?_) (fun k => ?_)⟩
    · have hc : ¬ (tl x).take 1 = [45] := fun z => k (ext_tl (by rw [t45, ecut]; exact z))
      refine ⟨_, rfl, x, rfl, by omega, ?_⟩
      unfold whV at q
      rw [if_neg hc] at q
      exact q
    · have hc : (tl x).take 1 = [45] := by rw [← ecut, k, t45]
      have e2 : tl (cutS x (some 1) none) = (tl x).drop 1 := tl_lo x 1
      unfold whV at q
      rw [if_pos hc] at q
      refine ⟨_, rfl, (1 : Int), rfl, x, rfl, Nat.le_trans hle (by decide), cutS x (some 1) none, rfl, Nat.le_trans (cutS_length _ _ _) (by omega), ?_⟩
      rw [e2]
      cases e : natF ((tl x).drop 1) with
      | none =>
        rw [e] at q
        refine ⟨_, rfl, rfl, _, rfl, ite_t rfl ?_⟩
        exact q
      | some m =>
        rw [e] at q
        refine ⟨_, rfl, rfl, _, rfl, ite_f rfl ⟨_, rfl, rfl, _, rfl, ?_⟩⟩
        cases m with
        | zero => exact ite_eq (fun _ => q) (fun k2 => absurd rfl k2)
        | succ m => exact ite_eq (fun k2 => absurd k2 (by omega)) (fun _ => ⟨_, rfl, _, rfl, q⟩)
theorem cut_last (xs : List V) : cutV xs none (some (-1)) = xs.dropLast := by
  unfold cutV
  rw [HT.sIx_none]
  show (xs.drop 0).take ((-1 + (xs.length : Int)).toNat - 0) = _
  rw [List.drop_zero, Nat.sub_zero, List.dropLast_eq_take]
  congr 1
  omega
theorem sw_iff (l v : Str) : Txt.startswith l v = true ↔ (tl l).take (tl v).length = tl v := by
  unfold Txt.startswith
  rw [Bool.and_eq_true, StrLaws.subAt_eq, List.drop_zero, beq_iff_eq, len_tl v]
  constructor
  · exact fun h => h.2
  · intro h
    refine ⟨decide_eq_true ?_, h⟩
    have := congrArg List.length h
    rw [List.length_take] at this
    rw [len_tl]
    omega
theorem cut_lo (l v : Str) : tl (cutS l (some (v.length : Int)) none) = (tl l).drop (tl v).length := by rw [tl_lo, len_tl]
end
theorem q_ne : ∀ k ∈ (["exists", "forall"] : List Str), k ≠ "" := by decide +kernel
theorem sqL_sm {H H' : Hp} {a : Addr} {xs : List V} (s : Same H H') (h : SqL K H a xs) : SqL K H' a xs := by
  rcases h with (h | ⟨o, h⟩) | h
  · exact .inl (.inl (s _ _ h))
  · exact .inl (.inr ⟨o, s _ _ h⟩)
  · exact .inr h
/-- the error with this position leaves, what was there stays -/
def XS (c : Addr) (a : Str) (v : V) (H : Hp) (E : XK) : Prop := ∀ (H' : Hp) (d : Addr), Same H H' → H' d = some (.xd [(a, v)]) → E (.ref c) (some d) H'
/-- what comes of a text, without hidden signals -/
def spPp8 (K : PySem.W.Frag) (n : Nat) (cT cU cF : Addr) : Sp := fun vs H Q E => ∃ (na : Addr) (t : Str) (nm : List Str) (ts : List Tk), vs = [.str t, .ref na] ∧ H na = some (.lst (nm.map V.str)) ∧ t.length ≤ 200 ∧ Txt.count t (Str.ofString "(") ≤ 20 ∧ Tks t.cps.toList 0 ts ∧
  ((∃ f, Rda n ts "" [] f ∧ Kok f ∧ sz f ≤ 1000 ∧ nm.length ≤ 100 ∧
    (∀ x, unkL nm (pre f) = some x → XS cU "name" (.str x) H E) ∧
    (unkL nm (pre f) = none → (¬ Bnds [] f → ∀ H', Same H H' → E (.ref cT) none H') ∧ (Bnds [] f → ∀ (H' : Hp) (v : V), Same H H' → FmAt K H' v f → Q v H'))) ∨
   (∃ p, RaE n ts p ∧ XS cF "position" (.int (p : Int)) H E))
theorem cal_pp {n : Nat} {cT cD fD cU fU cF fE : Addr} {fdD fdU fdE : FuncData} (T : Txt K mg w P) (eT : ErrC K mg "TooLarge" cT)
    (ID : Sup.InitK P K mg "DuplicateSignal" cD fD "__init__" "DuplicateSignal.__init__" (defArgs s_DuplicateSignal_init) (defBody s_DuplicateSignal_init) (defScope s_DuplicateSignal_init) fdD) (nD : PySem.W.findIn K (.ref cD) "name" = some none)
    (IU : Sup.InitK P K mg "UnknownSignal" cU fU "__init__" "UnknownSignal.__init__" (defArgs s_UnknownSignal_init) (defBody s_UnknownSignal_init) (defScope s_UnknownSignal_init) fdU) (nU : PySem.W.findIn K (.ref cU) "name" = some none) (Z : FsE P K mg cF fE fdE) :
    CalX P w K mg base (Lv n 0 + 6) "parse_property" (spPp8 K n cT cU cF) := by
  obtain ⟨C, fI, fP, fT, fA, fH, fF, fU, fO, fdI, fdP, fdT, fdA, fdH, fdF, fdU, fdO, R⟩ := gloR T
  have PC := R.PC
  have MR := R.MR
  have gC := R.gC
  have bI := R.bI
  have MA := R.MA
  have bA := R.bA
  have hLv : 6 ≤ Lv n 0 := by unfold Lv; omega
  have FI : FnOk P w K mg base CX0 4 fI fdI ["self", "text"] (spRI C) := ok_rinit T R
  have FA : FnOk P w K mg base (L2.CX P w) (Lv n 0 + 1) fA fdA ["self"] (spRa K C cF n) := ok_all T Z R
  have X_check_names : CalX P w K mg base 5 "check_names" (spCnX K cD cU) := cal_cnx T ID nD IU nU
  have X_check_bounds : CalX P w K mg base 5 "check_bounds" (spCbX K cT) := cal_cbx T eT
  obtain ⟨tm1, tm2, tm3, tm4, tm5, tm6, gM1, gM2, gM3, gM4, gM5, gM6⟩ := gloM T
  obtain ⟨fa, fd, F, hm, hb⟩ := T.h_parse_property
  refine ⟨fa, fd, _, F.okX sc_parse_property (fun vs H Q E h => ?_) (fun cdv A outer s H vs Q E hr h => ?_), hm, F.kp, hb⟩
  · obtain ⟨na, t, nm, ts, rfl, _⟩ := h
    rfl
  · obtain ⟨na, t, nm, tz, rfl, hna, htl, hct, htk, hor⟩ := h
    refine ⟨_, (pss_cons
      (ps_if (PW.pt (pw_or (pt_cmpR op_gt (pe_callB call_len_str (by rfl) T.z_len PySem.boot_len (pa_cons (pv 0) pa_nil)) (pe_glob (v := .int 200) (by rfl) gM1 ⟨_, rfl⟩) (nomark _)) (pw_or1 (pt_cmpR op_gt (pe_m1 PySem.F.slot_str_count PySem.F.type_str_count mt_count (pv 0) pe_str) (pe_glob (v := .int 20) (by rfl) gM2 ⟨_, rfl⟩) (nomark _))))) (pss_one
      (ps_raise rfl (takes_of rfl rfl rfl rfl) (eT.made rfl))) pss_nil)
      (pss_cons
      (ps_asg (Mx.pe_methX0 (pe_make MR FI (hr.mono (by omega)) (by rfl) gC bI .nil pass0 (pa_cons (pv 0) pa_nil)) PC.cl MA FA (hr.mono (by omega)) bA (takes_of rfl rfl rfl rfl)) (pg_tup (by rfl) (pgs_cons (pg_name (i := 2) sc_parse_property.nd rfl (.inl rfl)) (pgs_cons (pg_name (i := 3) sc_parse_property.nd rfl (.inl rfl)) (pgs_cons (pg_name (i := 4) sc_parse_property.nd rfl (.inl rfl)) pgs_nil)))))
      (pss_cons
      (ps_expr (pe_cx X_check_names hr (by omega) (takes_of rfl rfl rfl rfl) (by rfl) (pa_cons (pv 3) (pa_cons (pv 4) (pa_cons (pv 1) pa_nil)))))
      (pss_cons
      (ps_expr (pe_cx X_check_bounds hr (by omega) (takes_of rfl rfl rfl rfl) (by rfl) (pa_cons (pv 3) (pa_cons (pv 4) pa_nil))))
      (pss_cons
      (ps_if (pt_cmpR op_eq (pv 2) pe_str (nomark _)) (pss_one
      (ps_ret (pv 4))) pss_nil)
      (pss_one
      (ps_ret (pe_tup (pa_cons (pv 2) (pa_cons (pe_callTy (call_tuple_ofK (K := K) rfl) (by rfl) T.z_tuple (by decide +kernel) (pa_cons (pv 3) pa_nil)) (pa_cons (pv 4) pa_nil))))))))))), ?_⟩
    have hz2 : t.length ≤ sizeLine := Nat.le_trans htl (by decide)
    refine ⟨_, rfl, t, rfl, hz2, _, _, rfl, rfl, _, rfl, ?_⟩
    refine iteB_f (decide_eq_false (by omega)) ?_
    refine ⟨_, rfl, ⟨_, rfl⟩, _, _, rfl, rfl, _, _, rfl, rfl, _, rfl, ?_⟩
    refine iteB_f (decide_eq_false (by omega)) ?_
    refine ⟨_, rfl, fun x dx nx ndx hne => ?_⟩
    have kA : Same H (upd (upd H dx (.own x)) x (.ins C dx [])) := fun b o e => by
      rw [upd_ne (ne_of_none e nx), upd_ne (ne_of_none e ndx)]
      exact e
    refine ⟨x, dx, t, rfl, upd_same, Nat.le_trans htl (by decide), fun H1 ta pa tz1 k1 r1 htk1 hl1 => ⟨rfl, ?_⟩⟩
    have etz := tks_det htk htk1
    subst etz
    have s1 : Same H H1 := fun b o e => k1 _ _ (ne_of_none e nx) (kA _ _ e)
    have hcl := str_len t
    have hlen : tz1.length ≤ 201 := by
      have := tks_len htk1
      omega
    obtain ⟨_, hal, _⟩ := tks_all htk1
    have hPs : Ps tz1 := ⟨by omega, fun t' ht' => by have := (hal t' ht').1; omega⟩
    refine ⟨x, dx, _, rfl, r1.hx, rfl, x, dx, ta, pa, tz1, rfl, r1, hPs, ?_⟩
    rcases hor with ⟨f, hrd, hk, hz, hnl, qU, qR⟩ | ⟨p, hrd, q⟩
    case inr => exact .inr ⟨p, hrd, fun H' d k' hd => q H' d (fun b o e => k' _ _ (ne_of_none e nx) (s1 _ _ e)) hd⟩
    refine .inl ⟨"", [], f, hrd, fun H2 b hp v k2 e2 eh hv => ?_⟩
    have s2 : Same H H2 := fun b o e => k2 _ _ (ne_of_none e nx) (s1 _ _ e)
    refine ⟨b, _, rfl, .of e2, rfl, _, _, rfl, _, _, rfl, _, _, rfl, rfl, ?_⟩
    refine ⟨_, rfl, _, rfl, _, rfl, hp, na, v, f, [], nm, rfl, eh, .inl (.inl (.inl (s2 _ _ hna))), hv, hk, by omega, hnl, by decide, fun s hs => by (cases hs), fun x ex => by (cases ex), fun x e0 ex H' d s' hd => qU x (by rw [List.append_nil] at ex; exact ex) H' d (s2.trans s') hd, fun e0 e1 H3 s3 => ?_⟩
    rw [List.append_nil] at e1
    obtain ⟨qL, q⟩ := qR e1
    have hv3 := hv.same s3
    have eh3 := s3 _ _ eh
    refine ⟨_, rfl, _, rfl, hp, v, f, [], sgF f, rfl, eh3, hv3, wf_sg hk, by omega, fun nb H' s' => qL nb H' ((s2.trans s3).trans s'), fun hbd H4 s4 => ?_⟩
    refine ⟨_, rfl, rfl, _, rfl, ?_⟩
    exact iteB_t (by rfl) ⟨_, rfl, q hbd H4 v ((s2.trans s3).trans s4) (hv3.same s4)⟩
theorem nodup_len {l ss : List Str} (nd : l.Nodup) (h : ∀ z ∈ l, z ∈ ss) : l.length ≤ ss.length := by
  rcases Nat.lt_or_ge ss.length l.length with c | c
  · rw [(Sxt.perm_of_sub l ss nd h (Nat.le_of_lt c)).length_eq]
    exact Nat.le_refl _
  · exact c
structure GoodS (ins outs : List Str) (L : Int) : Prop where
  nm : ∀ s ∈ ins ++ outs, nameOk s = true
  nd : (ins ++ outs).Nodup
  li : ins.length ≤ 3
  lo : outs.length ≤ 3
  l0 : -3 ≤ L
  l1 : L ≤ 2
def SpcAt (C : Addr) (H : Hp) (x : Addr) (ins outs : List Str) (L : Int) (as gs : List V) (n : Bool) : Prop := ∃ dx i o a g, H x = some (.ins C dx (Spx.sf i o L a g n)) ∧ H i = some (.tup (ins.map V.str)) ∧ H o = some (.tup (outs.map V.str)) ∧ H a = some (.tup as) ∧ H g = some (.tup gs)
theorem SpcAt.same {C : Addr} {H H' : Hp} (s : Same H H') {x : Addr} {ins outs : List Str} {L : Int} {as gs : List V} {n : Bool} : SpcAt C H x ins outs L as gs n → SpcAt C H' x ins outs L as gs n := fun ⟨dx, i, o, a, g, h1, h2, h3, h4, h5⟩ => ⟨dx, i, o, a, g, s _ _ h1, s _ _ h2, s _ _ h3, s _ _ h4, s _ _ h5⟩
def spInit (C cS : Addr) : Sp := fun vs H Q E => ∃ (x dx i o a g : Addr) (ins outs : List Str) (L : Int) (as gs : List V) (n : Bool), vs = [.ref x, .ref i, .ref o, .int L, .ref a, .ref g, .bl n] ∧ H x = some (.ins C dx []) ∧ SeqV H i (ins.map V.str) ∧ SeqV H o (outs.map V.str) ∧ SeqV H a as ∧ SeqV H g gs ∧
  ins.length ≤ 100 ∧ outs.length ≤ 100 ∧ as.length ≤ 100 ∧ gs.length ≤ 100 ∧ (∀ s ∈ ins ++ outs, s.length ≤ 100) ∧ (¬ GoodS ins outs L → ∀ H', Same H H' → E (.ref cS) none H') ∧ (GoodS ins outs L → ∀ H', Kp x H H' → SpcAt C H' x ins outs L as gs n → Q .non H')
/-- tuple(x) of a list or a tuple -/
theorem tupq {H : Hp} {a : Addr} {xs : List V} {Q : VK} (h : SeqV H a xs) (q : ∀ H' t, Same H H' → H' t = some (.tup xs) → Q (.ref t) H') : rTupOf K [.ref a] H Q := by
  rcases h with h | h
  · exact ⟨a, xs, rfl, .inl ⟨.of h, fun l hl => q _ l (same_new hl) upd_same⟩⟩
  · exact ⟨a, xs, rfl, .inr ⟨.of h, q H a (Same.refl H) h⟩⟩
theorem ok_init {C cS fI : Addr} {fdI : FuncData} {tk3 tk4 tk5 : Tok} (T : Txt K mg w P) (eS : ErrC K mg "InvalidSpec" cS) (PC : Spx.SpcC K C) (gLL : mg "LEAST_LEAD" = some (.int (-3) tk3)) (gGL : mg "GREATEST_LEAD" = some (.int 2 tk4)) (gMN : mg "MOST_NAMES" = some (.int 3 tk5))
    (F : FunD K "__init__" "Spec.__init__" (defArgs s_Spec_init) (defBody s_Spec_init) (defScope s_Spec_init) [] [("negated", .bl false)] fI fdI) :
    FnOk P w K mg base (L2.CX P w) 4 fI fdI ["self", "inputs", "outputs", "lead", "assumptions", "guarantees", "negated"] (spInit C cS) := by
  have C_is_name : C8.Cal P w K mg base 2 "is_name" spNm [] := cal_nm T
  refine F.ok sc_Spec_init (fun vs H Q E h => ?_) (fun cdv A outer s H vs Q E hr h => ?_)
  · obtain ⟨x, dx, i, o, a, g, ins, outs, L, as, gs, n, rfl, _⟩ := h
    rfl
  · obtain ⟨x, dx, i, o, a, g, ins, outs, L, as, gs, n, rfl, hx, hi, ho, ha, hg, l1, l2, l3, l4, l5, q1, q2⟩ := h
    refine ⟨_, (pss_cons
      (ps_set (i := 7) sc_Spec_init.nd rfl (Or.inl rfl) (pe_op op_cat (pe_callTy (call_list_ofK (K := K) rfl) (by rfl) T.z_list (by decide +kernel) (pa_cons (pv 1) pa_nil)) (pe_callTy (call_list_ofK (K := K) rfl) (by rfl) T.z_list (by decide +kernel) (pa_cons (pv 2) pa_nil))))
      (pss_cons
      (ps_if (pt_not (pt_val (pe_callB (Spx.cr_allK (K := K) rfl rfl) (by rfl) T.z_all (by decide +kernel) (pa_cons (pe_lc (own := [("name", 8)]) (g := gName 8) (tt := tYes) rfl sc_Spec_init.nd (pi_list (pv 7)) (blkOk_by (N := N_Spec_init) (sc := defScope s_Spec_init) (by decide +kernel)) (fun _ _ _ _ _ => (pg_name (i := 8) sc_Spec_init.nd rfl (Or.inl rfl))) (fun _ _ _ _ _ => pts_nil) (fun _ _ _ _ _ => (C8.pe_c C_is_name hr (by decide) (by rfl) (pa_cons (pv 8) pa_nil)))) pa_nil)))) (pss_one
      (ps_raise rfl (takes_of rfl rfl rfl rfl) (eS.made rfl))) pss_nil)
      (pss_cons
      (ps_if (pt_cmpR op_lt (pe_callB (Spx.call_lenTx (P := P) (w := w) rfl rfl) (by rfl) T.z_len PySem.boot_len (pa_cons (pe_callTy (Sxt.cr_setTx (K := K) (P := P) (w := w) rfl rfl rfl rfl) (by rfl) T.z_set (by decide +kernel) (pa_cons (pv 7) pa_nil)) pa_nil)) (pe_callB (call_lenK (K := K) rfl) (by rfl) T.z_len PySem.boot_len (pa_cons (pv 7) pa_nil)) (nomark _)) (pss_one
      (ps_raise rfl (takes_of rfl rfl rfl rfl) (eS.made rfl))) pss_nil)
      (pss_cons
      (ps_if (PW.pt (pw_or (pt_cmpR op_gt (pe_callB (call_lenK (K := K) rfl) (by rfl) T.z_len PySem.boot_len (pa_cons (pv 1) pa_nil)) (pe_glob (v := .int 3) (by rfl) gMN ⟨_, rfl⟩) (nomark _)) (pw_or1 (pt_cmpR op_gt (pe_callB (call_lenK (K := K) rfl) (by rfl) T.z_len PySem.boot_len (pa_cons (pv 2) pa_nil)) (pe_glob (v := .int 3) (by rfl) gMN ⟨_, rfl⟩) (nomark _))))) (pss_one
      (ps_raise rfl (takes_of rfl rfl rfl rfl) (eS.made rfl))) pss_nil)
      (pss_cons
      (ps_if (PW.pt (pw_or (pt_cmpR op_lt (pv 3) (pe_glob (v := .int (-3)) (by rfl) gLL ⟨_, rfl⟩) (nomark _)) (pw_or1 (pt_cmpR op_gt (pv 3) (pe_glob (v := .int 2) (by rfl) gGL ⟨_, rfl⟩) (nomark _))))) (pss_one
      (ps_raise rfl (takes_of rfl rfl rfl rfl) (eS.made rfl))) pss_nil)
      (pss_cons
      (ps_fld (pv 0) (pe_callTy (call_tuple_ofK (K := K) rfl) (by rfl) T.z_tuple (by decide +kernel) (pa_cons (pv 1) pa_nil)) rfl)
      (pss_cons
      (ps_fld (pv 0) (pe_callTy (call_tuple_ofK (K := K) rfl) (by rfl) T.z_tuple (by decide +kernel) (pa_cons (pv 2) pa_nil)) rfl)
      (pss_cons
      (ps_fld (pv 0) (pv 3) rfl)
      (pss_cons
      (ps_fld (pv 0) (pe_callTy (call_tuple_ofK (K := K) rfl) (by rfl) T.z_tuple (by decide +kernel) (pa_cons (pv 4) pa_nil)) rfl)
      (pss_cons
      (ps_fld (pv 0) (pe_callTy (call_tuple_ofK (K := K) rfl) (by rfl) T.z_tuple (by decide +kernel) (pa_cons (pv 5) pa_nil)) rfl)
      (pss_one
      (ps_fld (pv 0) (pv 6) rfl)))))))))))), ?_⟩
    refine ⟨_, rfl, i, _, rfl, hi.sq, fun D1 hD1 => ?_⟩
    have s1 := same_new (o := .lst (ins.map V.str)) hD1
    have e1 := upd_same (H := H) (a := D1) (o := .lst (ins.map V.str))
    generalize upd H D1 (.lst (ins.map V.str)) = H1 at s1 e1 ⊢
    refine ⟨_, rfl, o, _, rfl, (ho.same s1).sq, fun D2 hD2 => ?_⟩
    have s2 := same_new (o := .lst (outs.map V.str)) hD2
    have e2 := upd_same (H := H1) (a := D2) (o := .lst (outs.map V.str))
    have e1' := s2 _ _ e1
    generalize upd H1 D2 (.lst (outs.map V.str)) = H2 at s2 e2 e1' ⊢
    refine ⟨D1, D2, _, _, rfl, rfl, e1', e2, by rw [List.length_map, List.length_map]; exact Nat.le_trans (show ins.length + outs.length ≤ 200 by omega) (by decide), fun p hp => ?_⟩
    have s3 := same_new (o := .lst (ins.map V.str ++ outs.map V.str)) hp
    have e3 : (upd H2 p (.lst (ins.map V.str ++ outs.map V.str))) p = some (.lst ((ins ++ outs).map V.str)) := by rw [upd_same, List.map_append]
    generalize upd H2 p (.lst (ins.map V.str ++ outs.map V.str)) = H3 at s3 e3 ⊢
    have s03 := (s1.trans s2).trans s3
    clear e1 e2 e1' s1 s2 s3
    have hl : (ins ++ outs).length ≤ 200 := by rw [List.length_append]; omega
    generalize hns : ins ++ outs = ns at e3 l5 hl ⊢
    -- all names are names
    refine ⟨_, rfl, p, rfl, ⟨_, .of e3⟩, fun D hD => lc_list (K := K) (a := p) (xs := ns.map V.str) (fun j H4 => Same H3 H4 ∧ H4 D = some (.lst (((ns.take j).map nameOk).map V.bl))) ⟨same_new hD, upd_same⟩ (fun j H4 _ ⟨z, _⟩ => .of (z _ _ e3)) ?_ ?_⟩
    · rintro j y H4 hj ⟨s4, e4⟩
      obtain ⟨z, hzj, rfl⟩ : ∃ z, ns[j]? = some z ∧ y = V.str z := by
        rw [List.getElem?_map] at hj
        cases e : ns[j]? with
        | none => rw [e] at hj; cases hj
        | some t => rw [e] at hj; exact ⟨t, rfl, (Option.some.inj hj).symm⟩
      have et : ns.take (j + 1) = ns.take j ++ [z] := by rw [List.take_add_one, hzj]; rfl
      have hjl := (List.getElem?_eq_some_iff.mp hzj).1
      refine ⟨rfl, _, rfl, z, rfl, Nat.le_trans (l5 z (List.mem_of_getElem? hzj)) (by decide), _, e4, by rw [List.length_map, List.length_map, List.length_take]; exact Nat.lt_of_le_of_lt (show min j ns.length ≤ 200 by omega) (by decide), fun c u hc => ?_, ?_⟩
      · rw [upd_ne (ne_of_none hc hD)]
        exact s4 _ _ hc
      · rw [upd_same, et, List.map_append, List.map_append]
        rfl
    rintro H4 ⟨s4, e4⟩
    rw [List.length_map, List.take_length] at e4
    have s04 := s03.trans s4
    refine ⟨D, ns.map nameOk, rfl, .of e4, _, rfl, ?_⟩
    cases hall : (ns.map nameOk).all id with
    | false =>
      refine iteT (q1 (fun v => ?_) H4 s04)
      have : (ns.map nameOk).all id = true := List.all_eq_true.mpr fun b hb => by
        obtain ⟨s, hs, rfl⟩ := List.mem_map.mp hb
        exact v.nm s (by rw [hns]; exact hs)
      rw [this] at hall
      cases hall
    | true =>
      refine iteF ?_
      have hnm : ∀ s ∈ ns, nameOk s = true := fun s hs => List.all_eq_true.mp hall _ (List.mem_map.mpr ⟨s, hs, rfl⟩)
      -- the names differ
      have e34 := s4 _ _ e3
      refine ⟨_, rfl, p, ns, rfl, .of e34, Nat.lt_of_le_of_lt (show ns.length + 1 ≤ 201 by omega) (by decide), fun p2 us hp2 h1 h2 h3 => ⟨p2, us, rfl, upd_same, by omega, ?_⟩⟩
      have s5 : Same H4 (upd H4 p2 (Sxt.SetTxO P w p2 us)) := same_new hp2
      have e35 := s5 _ _ e34
      generalize upd H4 p2 (Sxt.SetTxO P w p2 us) = H5 at s5 e35 ⊢
      have s05 := s04.trans s5
      refine ⟨_, rfl, p, _, rfl, .inl (.of e35), _, _, rfl, rfl, _, rfl, ?_⟩
      rw [List.length_map]
      refine ite_lt (fun k => q1 (fun v => ?_) H5 s05) (fun k => ?_)
      · have := nodup_len (l := ns) (by rw [← hns]; exact v.nd) fun z hz => (h2 z).mpr hz
        omega
      have hnd : ns.Nodup := (Sxt.perm_of_sub us ns h3 (fun z hz => (h2 z).mp hz) (by omega)).nodup_iff.mpr h3
      -- at most three
      refine ⟨_, rfl, i, _, rfl, (hi.same s05).sq, _, _, rfl, rfl, _, rfl, ?_⟩
      rw [List.length_map]
      refine ite2 (fun k => q1 (fun v => by have := v.li; have := of_decide_eq_true k; omega) H5 s05) (fun k => ?_)
      have k1 : ¬ (3 : Int) < ins.length := fun y => k (decide_eq_true y)
      refine ⟨_, rfl, o, _, rfl, (ho.same s05).sq, _, _, rfl, rfl, _, rfl, ?_⟩
      rw [List.length_map]
      refine ite2 (fun k => q1 (fun v => by have := v.lo; have := of_decide_eq_true k; omega) H5 s05) (fun k => ?_)
      have k2 : ¬ (3 : Int) < outs.length := fun y => k (decide_eq_true y)
      refine ⟨_, rfl, _, _, rfl, rfl, _, rfl, ite2 (fun k => q1 (fun v => by have := v.l0; have := of_decide_eq_true k; omega) H5 s05) (fun k => ?_)⟩
      have k3 : ¬ L < -3 := fun y => k (decide_eq_true y)
      refine ⟨_, rfl, _, _, rfl, rfl, _, rfl, ite2 (fun k => q1 (fun v => by have := v.l1; have := of_decide_eq_true k; omega) H5 s05) (fun k => ?_)⟩
      have k4 : ¬ (2 : Int) < L := fun y => k (decide_eq_true y)
      have gd : GoodS ins outs L := ⟨by rw [hns]; exact hnm, by rw [hns]; exact hnd, by omega, by omega, by omega, by omega⟩
      have hx5 := s05 _ _ hx
      -- the parts
      refine ⟨_, rfl, ?_⟩
      dsimp only [tNil]
      refine tupq (hi.same s05) fun H6 i' s6 ei => ?_
      have hx6 := s6 _ _ hx5
      have s06 := s05.trans s6
      have nix : i' ≠ x := fun z => by rw [z, hx6] at ei; cases ei
      refine ⟨_, rfl, x, C, dx, _, rfl, hx6, PC.cl, PC.ni, by decide, ?_⟩
      have k7 : Kp x H6 (upd H6 x (.ins C dx (putF "inputs" (.ref i') []))) := Kp.own
      have hx7 := upd_same (H := H6) (a := x) (o := .ins C dx (putF "inputs" (.ref i') []))
      have sk : ∀ {z : Addr} {xs : List V} {H1 H2 : Hp}, H1 x ≠ some (.lst xs) → H1 x ≠ some (.tup xs) → Kp x H1 H2 → SeqV H1 z xs → SeqV H2 z xs := fun {z xs H1 H2} n1 n2 k h => by
        have nz : z ≠ x := fun e => by
          rcases h with h | h
          · exact n1 (by rw [← e]; exact h)
          · exact n2 (by rw [← e]; exact h)
        exact h.imp (k _ _ nz) (k _ _ nz)
      have ho7 := sk (by rw [hx6]; exact fun z => by cases z) (by rw [hx6]; exact fun z => by cases z) k7 (ho.same s06)
      have ha7 := sk (by rw [hx6]; exact fun z => by cases z) (by rw [hx6]; exact fun z => by cases z) k7 (ha.same s06)
      have hg7 := sk (by rw [hx6]; exact fun z => by cases z) (by rw [hx6]; exact fun z => by cases z) k7 (hg.same s06)
      have ei7 := k7 _ _ nix ei
      have k07 : Kp x H (upd H6 x (.ins C dx (putF "inputs" (.ref i') []))) := fun b u nb hb => k7 _ _ nb (s06 _ _ hb)
      generalize upd H6 x (.ins C dx (putF "inputs" (.ref i') [])) = H7 at k7 hx7 ho7 ha7 hg7 ei7 k07 ⊢
      refine ⟨_, rfl, ?_⟩
      dsimp only [tNil]
      refine tupq ho7 fun H8 o' s8 eo => ?_
      have hx8 := s8 _ _ hx7
      have nox : o' ≠ x := fun z => by rw [z, hx8] at eo; cases eo
      refine ⟨_, rfl, x, C, dx, _, rfl, hx8, PC.cl, PC.no, (show 1 < 1000 by decide), ?_⟩
      refine ⟨_, rfl, _, rfl, x, C, dx, _, rfl, upd_same, PC.cl, PC.nl, (show 2 < 1000 by decide), ?_⟩
      rw [upd_upd]
      have k9 : Kp x H8 (upd H8 x (.ins C dx (putF "lead" (.int L) (putF "outputs" (.ref o') (putF "inputs" (.ref i') []))))) := Kp.own
      have hx9 := upd_same (H := H8) (a := x) (o := .ins C dx (putF "lead" (.int L) (putF "outputs" (.ref o') (putF "inputs" (.ref i') []))))
      have ha9 := sk (by rw [hx8]; exact fun z => by cases z) (by rw [hx8]; exact fun z => by cases z) k9 (ha7.same s8)
      have hg9 := sk (by rw [hx8]; exact fun z => by cases z) (by rw [hx8]; exact fun z => by cases z) k9 (hg7.same s8)
      have ei9 := k9 _ _ nix (s8 _ _ ei7)
      have eo9 := k9 _ _ nox eo
      have k09 : Kp x H (upd H8 x (.ins C dx (putF "lead" (.int L) (putF "outputs" (.ref o') (putF "inputs" (.ref i') []))))) := fun b u nb hb => k9 _ _ nb (s8 _ _ (k07 _ _ nb hb))
      generalize upd H8 x (.ins C dx (putF "lead" (.int L) (putF "outputs" (.ref o') (putF "inputs" (.ref i') [])))) = H9 at k9 hx9 ha9 hg9 ei9 eo9 k09 ⊢
      refine ⟨_, rfl, ?_⟩
      dsimp only [tNil]
      refine tupq ha9 fun HA a' sA ea => ?_
      have hxA := sA _ _ hx9
      have nax : a' ≠ x := fun z => by rw [z, hxA] at ea; cases ea
      refine ⟨_, rfl, x, C, dx, _, rfl, hxA, PC.cl, PC.na, (show 3 < 1000 by decide), ?_⟩
      have kB : Kp x HA (upd HA x (.ins C dx (putF "assumptions" (.ref a') (putF "lead" (.int L) (putF "outputs" (.ref o') (putF "inputs" (.ref i') [])))))) := Kp.own
      have hxB := upd_same (H := HA) (a := x) (o := .ins C dx (putF "assumptions" (.ref a') (putF "lead" (.int L) (putF "outputs" (.ref o') (putF "inputs" (.ref i') [])))))
      have hgB := sk (by rw [hxA]; exact fun z => by cases z) (by rw [hxA]; exact fun z => by cases z) kB (hg9.same sA)
      have eiB := kB _ _ nix (sA _ _ ei9)
      have eoB := kB _ _ nox (sA _ _ eo9)
      have eaB := kB _ _ nax ea
      have k0B : Kp x H (upd HA x (.ins C dx (putF "assumptions" (.ref a') (putF "lead" (.int L) (putF "outputs" (.ref o') (putF "inputs" (.ref i') [])))))) := fun b u nb hb => kB _ _ nb (sA _ _ (k09 _ _ nb hb))
      generalize upd HA x (.ins C dx (putF "assumptions" (.ref a') (putF "lead" (.int L) (putF "outputs" (.ref o') (putF "inputs" (.ref i') []))))) = HB at kB hxB hgB eiB eoB eaB k0B ⊢
      refine ⟨_, rfl, ?_⟩
      dsimp only [tNil]
      refine tupq hgB fun HC g' sC eg => ?_
      have hxC := sC _ _ hxB
      have ngx : g' ≠ x := fun z => by rw [z, hxC] at eg; cases eg
      refine ⟨_, rfl, x, C, dx, _, rfl, hxC, PC.cl, PC.ng, (show 4 < 1000 by decide), ?_⟩
      refine ⟨_, rfl, _, rfl, x, C, dx, _, rfl, upd_same, PC.cl, PC.nn, (show 5 < 1000 by decide), ?_⟩
      rw [upd_upd]
      have kD : Kp x HC (upd HC x (.ins C dx (Spx.sf i' o' L a' g' n))) := Kp.own
      exact q2 gd _ (fun b u nb hb => kD _ _ nb (sC _ _ (k0B _ _ nb hb))) ⟨dx, i', o', a', g', upd_same, kD _ _ nix (sC _ _ eiB), kD _ _ nox (sC _ _ eoB), kD _ _ nax (sC _ _ eaB), kD _ _ ngx eg⟩
section
open TL
/-! the text of a specification -/
def cat (ls : List Str) : Str := Txt.join sE (ls.map (· ++ sN))
theorem tl_cat (ls : List Str) : tl (cat ls) = ((ls.map tl).map (· ++ [10])).flatten := by
  unfold cat
  rw [show sE = Str.ofString "" from rfl, joinE, List.map_map, List.map_map]
  congr 1
  apply List.map_congr_left
  intro l _
  show tl (l ++ sN) = tl l ++ [10]
  rw [tl_app, tl_sN]
theorem cat_snoc (ls : List Str) (x : Str) : cat (ls ++ [x]) = cat ls ++ (x ++ sN) := ext_tl (by
  rw [tl_cat, tl_app, tl_app, tl_sN, tl_cat, List.map_append, List.map_append, List.flatten_append]
  simp)
theorem cat_split {ls : List Str} (h : ∀ l ∈ ls, 10 ∉ tl l) : Txt.split (cat ls) sN = ls ++ [sE] := by
  have e : cat ls = Txt.join sN (ls ++ [sE]) := ext_tl (by
    rw [tl_cat, tl_jn, List.map_append, tl_sN]
    show _ = joinL [10] (_ ++ [tl sE])
    rw [tl_sE, joinL_end])
  rw [e]
  refine split_join tl_sN (by decide +kernel) (by simp) fun p hp => ?_
  rcases List.mem_append.mp hp with hp | hp
  · exact h p hp
  · rw [List.mem_singleton.mp hp, tl_sE]; simp
theorem okw_c : okW false 10 = false ∧ okW false 32 = false := by decide +kernel
theorem word_free {s : Str} {c : Nat} (h : wholeW s.cps.toList = true) (hc : okW false c = false) : c ∉ tl s := fun hm => by
  have hi := (wholeW_iff (word_ne h)).mp h
  obtain ⟨i, hi2⟩ := List.mem_iff_getElem?.mp hm
  have := hi i c hi2
  have h2 : okW false c = true := by
    unfold okW at this ⊢
    rw [Bool.or_eq_true] at this ⊢
    rcases this with h | h
    · exact .inl h
    · rw [Bool.and_eq_true] at h
      exact .inr (by rw [h.2]; rfl)
  rw [h2] at hc
  cases hc
theorem name_free {s : Str} {c : Nat} (h : nameOk s = true) (hc : okW false c = false) : c ∉ tl s := word_free (name_w h).1 hc
theorem sg_free : (∀ k ∈ unOps, 10 ∉ tl (psg k)) ∧ (∀ k ∈ binOps, 10 ∉ tl (isg k)) ∧ (∀ k ∈ (["true", "false", "exists", "forall", "(", " ", ")", ", ", ": ", "lead ", "assume ", "guarantee ", "negated", "inputs", "outputs"] : List Str), 10 ∉ tl k) := by decide +kernel
theorem app_free {c : Nat} {a b : Str} (h1 : c ∉ tl a) (h2 : c ∉ tl b) : c ∉ tl (a ++ b) := by
  rw [tl_app]
  intro h
  exact (List.mem_append.mp h).elim h1 h2
theorem prF_free : ∀ {f : Fm}, Okf f → 10 ∉ tl (prF f)
  | .c0 k, h => by
    have h : k = "true" ∨ k = "false" := h
    exact sg_free.2.2 k (by rcases h with h | h <;> rw [h] <;> simp)
  | .sg s, h => name_free h okw_c.1
  | .un k f, h => app_free (sg_free.1 k h.1) (prF_free h.2)
  | .bin k f g, h => by
    have h1 := prF_free h.2.1
    have h2 := prF_free h.2.2
    have s := sg_free.2.2
    exact app_free (app_free (app_free (app_free (app_free (app_free (s "(" (by simp)) h1) (s " " (by simp))) (sg_free.2.1 k h.1)) (s " " (by simp))) h2) (s ")" (by simp))
theorem cat_len {ls : List Str} {k : Nat} (h : ∀ l ∈ ls, l.length ≤ k) : (cat ls).length ≤ (k + 1) * ls.length := by
  have := jlen (y := sE) (ps := ls.map (· ++ sN)) (k := k + 1) fun p hp => by
    obtain ⟨z, hz, rfl⟩ := List.mem_map.mp hp
    have h1 := h z hz
    have h2 : sN.length = 1 := by decide +kernel
    show (z ++ sN).length ≤ _
    rw [slen]; omega
  have h3 : sE.length = 0 := by decide +kernel
  rw [h3, List.length_map, Nat.add_zero] at this
  unfold cat
  exact this
end
/-- what is known of the class Spec -/
structure Sk (P : Program) (w : World) (K : PySem.W.Frag) (mg : Str → Option Value) (base : Heap) (C cS : Addr) : Prop where
  PC : Spx.SpcC K C
  MS : Spx.MakH P w K mg base 4 "Spec" C 5 "negated" (.bl false) (spInit C cS)
  gSP : mg "Spec" = some (.ref C)
  hIC : C8.InsC K C
theorem gloC (T : Txt K mg w P) : ∃ (u0 u1 u2 u3 u4 u5 u6 u7 u8 u9 : Tok), mg "LEAST_LEAD" = some (.int (-3) u0) ∧ mg "GREATEST_LEAD" = some (.int 2 u1) ∧ mg "MOST_NAMES" = some (.int 3 u2) ∧ mg "PIECE" = some (.int 1000000000000000000 u3) ∧ mg "DIGITS_IN_A_PIECE" = some (.int 18 u4) ∧ mg "ASSUME" = some (.str "assume " u5) ∧ mg "GUARANTEE" = some (.str "guarantee " u6) ∧ mg "NEGATED" = some (.str "negated" u7) ∧ mg "FIRST_PROPERTY" = some (.int 3 u8) ∧ mg "MOST_PROPERTIES" = some (.int 6 u9) := T.er.2.2.2.2.2.2.2.2.1
theorem sk (T : Txt K mg w P) : ∃ (C cS : Addr), Sk P w K mg base C cS := by
  obtain ⟨u0, u1, u2, u3, u4, u5, u6, u7, u8, u9, gLL, gGL, gMN, _⟩ := gloC T
  obtain ⟨cS, C, fI, fdI, eS, PC, MC, gC, FI, hIC⟩ := T.er.2.2.2.2.2.2.2.1
  refine ⟨C, cS, PC, ⟨fI, fdI, ["self", "inputs", "outputs", "lead", "assumptions", "guarantees", "negated"], MC, ok_init T eS PC gLL gGL gMN FI, gC, ?_, ?_⟩, gC, hIC⟩
  · exact FI.binds0 6 (by intro z; cases z) rfl fun D doc pm an cdv ct us ks l1 l2 => match us, ks, l1, l2 with | [_, _, _, _, _, _], [_], _, _ => ⟨_, _, _, _, _, _, rfl, rfl, rfl⟩
  · exact FI.kbinds0 6 ["negated"] [] (fun us mv ws => us ++ mv ++ ws) (by intro z; cases z) (fun q hq => by cases hq) (fun r1 r2 r3 => (r1.append r2).append r3) fun D doc pm an cdv ct us mv ws l1 l2 l3 => match us, mv, ws, l1, l2, l3 with | [_, _, _, _, _, _], [], [_], _, _, _ => rfl
/-- making a specification -/
theorem mkS {C cS : Addr} {H : Hp} {i o a g : Addr} {ins outs : List Str} {L : Int} {as gs : List V} {n : Bool} (G : GoodS ins outs L) (n4 : ∀ s ∈ ins ++ outs, s.length ≤ 4) (hi : SeqV H i (ins.map V.str)) (ho : SeqV H o (outs.map V.str)) (ha : SeqV H a as) (hg : SeqV H g gs) (l3 : as.length ≤ 100) (l4 : gs.length ≤ 100)
    {y dy : Addr} {Q' : VK} {E' : XK} (hy : H y = none) (hdy : H dy = none) (hne : dy ≠ y) (q : ∀ H', Same H H' → SpcAt C H' y ins outs L as gs n → Q' .non H') :
    spInit C cS [.ref y, .ref i, .ref o, .int L, .ref a, .ref g, .bl n] (upd (upd H dy (.own y)) y (.ins C dy [])) Q' E' := by
  have s0 : Same H (upd (upd H dy (.own y)) y (.ins C dy [])) := fun b u hb => by
    rw [upd_ne (ne_of_none hb hy), upd_ne (ne_of_none hb hdy)]
    exact hb
  refine ⟨y, dy, i, o, a, g, ins, outs, L, as, gs, n, rfl, upd_same, hi.same s0, ho.same s0, ha.same s0, hg.same s0, by have := G.li; omega, by have := G.lo; omega, l3, l4, fun s hs => Nat.le_trans (n4 s hs) (by decide), fun ng => absurd G ng, fun gd H' k' A' => q H' (fun b u hb => ?_) A'⟩
  exact k' _ _ (ne_of_none hb hy) (s0 _ _ hb)
section
open TL
theorem XS.mono {c : Addr} {a : Str} {v : V} {H H1 : Hp} {E : XK} (q : XS c a v H E) (s : Same H H1) : XS c a v H1 E := fun H' d s' => q H' d (s.trans s')
def spZl (C : Addr) : Sp := fun vs H Q _ => ∃ (a : Addr) (p : Nat), vs = [.ref a, .int (p : Int)] ∧ p ≤ 1000000 ∧ H a = some (exo a C none) ∧ ∀ H1 d, Same H H1 → H1 d = none → d ≠ a → Q .non (upd (upd H1 d (exd d [("line", .int (p : Int))])) a (exo a C (some d)))
/-- all about this error -/
structure LnE (P : Program) (K : PySem.W.Frag) (mg : Str → Option Value) (cL f : Addr) (fd : FuncData) : Prop where
  I : Sup.InitK P K mg "SpecSyntaxError" cL f "__init__" "SpecSyntaxError.__init__" (defArgs s_SpecSyntaxError_init) (defBody s_SpecSyntaxError_init) (defScope s_SpecSyntaxError_init) fd
  no : PySem.W.findIn K (.ref cL) "line" = some none
  pc : ∃ tk : Tok, mg "PIECE" = some (.int 1000000000000000000 tk)
theorem ok_zl {cL f : Addr} {fd : FuncData} (T : Txt K mg w P) (Z : LnE P K mg cL f fd) : FnOk P w K mg base CX0 3 f fd ["self", "line"] (spZl cL) := by
  obtain ⟨tk, hpc⟩ := Z.pc
  have C_decimal : C8.Cal P w K mg base 1 "decimal" spDec [] := cal_dec T hpc
  refine Z.I.ok sc_SpecSyntaxError_init rfl rfl (fun en => rfl) (fun en => rfl) (fun en => rfl) (fun vs H Q E h => ?_) (fun cda cc A outer s H vs Q E hr h => ?_)
  · obtain ⟨a, p, rfl, _⟩ := h
    rfl
  · obtain ⟨a, p, rfl, hl, ha, q⟩ := h
    refine ⟨_, _, a, (pe_op op_add_str pe_str (C8.pe_c C_decimal hr (by decide) (by rfl) (pa_cons (pv 1) pa_nil))), (pss_one (ps_ost (pv 0) (pv 1))), rfl, ha, ?_⟩
    have big : (100000 : Nat) ≤ sizeLine := by decide
    have hw : (Str.ofString "there is an error in line ").length = 26 := by decide +kernel
    refine ⟨_, rfl, (p : Int), rfl, by omega, by omega, fun H1 s1 => ?_⟩
    have h1 := ts_len (n := (p : Int)) (by omega) (by omega)
    refine ⟨_, _, rfl, rfl, by rw [hw]; omega, ?_⟩
    have ha1 := s1 _ _ ha
    exact ⟨ha1, _, rfl, _, rfl, a, cL, rfl, Z.I.T, Z.no, .inl ⟨ha1, fun d hd hne => q H1 d s1 hd hne⟩⟩
theorem mk_xl {C : Addr} {p : Nat} {H H1 : Hp} {E : XK} (s : Same H H1) (hl : p ≤ 1000000) (q : XS C "line" (.int (p : Int)) H E) : ∀ a, H1 a = none → spZl C (.ref a :: ([.int (p : Int)] ++ [])) (upd H1 a (exo a C none))
    (fun v H2 => v = .non ∧ ∃ (d : Addr) (fs : List (Str × V)), H2 a = some (exo a C (some d)) ∧ H2 d = some (exd d fs) ∧ H1 d = none ∧ E (.ref C) (some d) (upd (del H2 a) d (.xd fs))) (fun _ _ _ => False) := fun a na => by
  refine ⟨a, p, rfl, hl, upd_same, fun H2 d s2 hd hne => ?_⟩
  have hd1 := Same_fr s2 hd
  rw [upd_ne hne] at hd1
  refine ⟨rfl, d, [("line", .int (p : Int))], upd_same, by rw [upd_ne hne, upd_same], hd1, q _ d (fun b o hb => ?_) upd_same⟩
  have hb := s _ _ hb
  have h1 := s2 b o (by rw [upd_ne (ne_of_none hb na)]; exact hb)
  rw [upd_ne (ne_of_none hb hd1), del_ne (ne_of_none hb na), upd_ne (ne_of_none hb na), upd_ne (ne_of_none hb hd1)]
  exact h1
/-! words -/
def wds (l : Str) : List Str := Txt.split l sB
theorem spl_ne (S : List Nat) : ∀ (k : Nat) (acc l : List Nat), spl S k acc l ≠ []
  | k, acc, [] => by rw [spl_nil]; simp
  | 0, acc, c :: r => by
    show (if pre S (c :: r) = true then acc :: spl S (S.length - 1) [] r else spl S 0 (acc ++ [c]) r) ≠ []
    split
    · simp
    · exact spl_ne S 0 _ r
  | k + 1, acc, _ :: r => spl_ne S k acc r
theorem spl_le (S : List Nat) : ∀ (k : Nat) (acc l : List Nat), (∀ p ∈ spl S k acc l, p.length ≤ acc.length + l.length) ∧ (spl S k acc l).length ≤ l.length + 1
  | k, acc, [] => by rw [spl_nil]; simp
  | 0, acc, c :: r => by
    show (∀ p ∈ (if pre S (c :: r) = true then acc :: spl S (S.length - 1) [] r else spl S 0 (acc ++ [c]) r), _) ∧ (if pre S (c :: r) = true then acc :: spl S (S.length - 1) [] r else spl S 0 (acc ++ [c]) r).length ≤ _
    split
    · have := spl_le S (S.length - 1) [] r
      refine ⟨fun p hp => ?_, by simp only [List.length_cons]; omega⟩
      rcases List.mem_cons.mp hp with rfl | hp
      · omega
      · have h := this.1 p hp
        simp only [List.length_cons, List.length_nil] at h ⊢
        omega
    · have := spl_le S 0 (acc ++ [c]) r
      refine ⟨fun p hp => ?_, by simp only [List.length_cons]; omega⟩
      have h := this.1 p hp
      rw [List.length_append, List.length_singleton] at h
      rw [List.length_cons]
      omega
  | k + 1, acc, c :: r => by
    have := spl_le S k acc r
    exact ⟨fun p hp => by have h := this.1 p hp; rw [List.length_cons]; omega, by show (spl S k acc r).length ≤ _; rw [List.length_cons]; omega⟩
theorem k1 (l : Str) : ¬ Builtin.Str.strKind l < Builtin.Str.strKind sB := kind_ok (by decide +kernel)
theorem wds_tl (l : Str) : (wds l).map tl = spl [32] 0 [] (tl l) := by
  have := split_spl l sB (by rw [tl_sB]; simp) (k1 l)
  rw [tl_sB] at this
  exact this
theorem wds_ne (l : Str) : wds l ≠ [] := fun z => by
  have := wds_tl l
  rw [z] at this
  exact spl_ne _ _ _ _ this.symm
theorem wds_le (l : Str) : (∀ p ∈ wds l, p.length ≤ l.length) ∧ (wds l).length ≤ l.length + 1 := by
  have h := spl_le [32] 0 [] (tl l)
  rw [← wds_tl] at h
  refine ⟨fun p hp => ?_, ?_⟩
  · have := h.1 (tl p) (List.mem_map_of_mem hp)
    rw [List.length_nil, Nat.zero_add] at this
    rw [len_tl p, len_tl l]
    exact this
  · have := h.2
    rw [List.length_map] at this
    rw [len_tl l]
    exact this
section
variable {cL fL : Addr} {fdL : FuncData}
def spLa (cL : Addr) : Sp := fun vs H Q E => ∃ (a : Addr) (j : Nat) (ls : List Str), vs = [.ref a, .int (j : Int)] ∧ H a = some (.lst (ls.map V.str)) ∧ ls.length ≤ 1000 ∧ (∀ l, ls[j]? = some l → Q (.str l) H) ∧ (ls[j]? = none → XS cL "line" (.int (ls.length : Int)) H E)
theorem cal_la (T : Txt K mg w P) (Z : LnE P K mg cL fL fdL) : CalX P w K mg base 5 "line_at" (spLa cL) := by
  have IL := Z.I
  have FL : FnOk P w K mg base CX0 3 fL fdL ["self", "line"] (spZl cL) := ok_zl T Z
  have bL : Binds K fdL ["self", "line"] [] := IL.binds fun _ _ _ _ _ _ _ us hl => match us, hl with | [_, _], _ => rfl
  obtain ⟨f, fd, F, hm, hb⟩ := T.h_line_at
  refine ⟨f, fd, _, F.okX sc_line_at (fun vs H Q E h => ?_) (fun cdv A outer s H vs Q E hr h => ?_), hm, F.kp, hb⟩
  · obtain ⟨a, j, ls, rfl, _⟩ := h
    rfl
  · obtain ⟨a, j, ls, rfl, ha, hl, q, qe⟩ := h
    refine ⟨_, (pss_cons
      (ps_if (pt_cmpR op_ge (pv 1) (pe_callB (call_lenK (K := K) rfl) (by rfl) T.z_len PySem.boot_len (pa_cons (pv 0) pa_nil)) (nomark _)) (pss_one
      (ps_raise rfl (takes_of rfl rfl rfl rfl) (pmk_oex IL.T IL.iC IL.tI FL (hr.mono (by omega)) bL .nil pass0 (by rfl) IL.gC (pa_cons (pe_callB (call_lenK (K := K) rfl) (by rfl) T.z_len PySem.boot_len (pa_cons (pv 0) pa_nil)) pa_nil)))) pss_nil)
      (pss_one
      (ps_ret (pe_ix (ix_listK (K := K) rfl) (pv 0) (pv 1) (fun _ _ => rfl))))), ?_⟩
    refine ⟨_, rfl, _, rfl, a, _, rfl, .inl (.of ha), _, _, rfl, rfl, _, rfl, ?_⟩
    rw [List.length_map]
    by_cases c : j < ls.length
    · refine iteB_f (decide_eq_false (by omega)) ?_
      have hj := List.getElem?_eq_getElem c
      exact ⟨_, rfl, _, rfl, a, _, _, .str _, rfl, rfl, .of ha, atI_nat (by rw [List.getElem?_map, hj]; rfl), q _ hj⟩
    · refine iteB_t (decide_eq_true (by omega)) ?_
      refine ⟨_, rfl, a, _, rfl, .inl (.of ha), by show 1 ≤ 1000; decide, ?_⟩
      rw [List.length_map]
      exact mk_xl (Same.refl _) (by omega) (qe (List.getElem?_eq_none_iff.mpr (by omega)))
end
end
theorem cut_drop (xs : List V) (n : Nat) : cutV xs (some (n : Int)) none = xs.drop n := by
  unfold cutV
  rw [HT.sIx_none, HT.sIx_nat]
  rcases Nat.le_total n xs.length with c | c
  · rw [Nat.min_eq_left c, List.take_of_length_le (by rw [List.length_drop]; exact Nat.le_refl _)]
  · rw [Nat.min_eq_right c, List.drop_of_length_le (Nat.le_refl _), List.drop_of_length_le c, List.take_nil]
theorem cut_take (xs : List V) (n : Nat) : cutV xs none (some (n : Int)) = xs.take n := by
  unfold cutV
  rw [HT.sIx_none, HT.sIx_nat, List.drop_zero, Nat.sub_zero]
  rcases Nat.le_total n xs.length with c | c
  · rw [Nat.min_eq_left c]
  · rw [Nat.min_eq_right c, List.take_of_length_le c, List.take_of_length_le (Nat.le_refl _)]
section
open TL
variable {cL fL : Addr} {fdL : FuncData}
/-- what stands in a line of names: the line of the error, or the names -/
def rnE (ls : List Str) (j : Nat) (wd : Str) (os : List Str) : Sum Nat (List Str) :=
  match ls[j]? with
  | none => .inl ls.length
  | some l => if (wds l).head? = some wd ∧ (wds l).tail.length ≤ 3 ∧ (wds l).tail.all nameOk = true ∧ ((wds l).tail ++ os).Nodup then .inr (wds l).tail else .inl j
def spRn (cL : Addr) : Sp := fun vs H Q E => ∃ (a o : Addr) (j : Nat) (ls os : List Str) (wd : Str), vs = [.ref a, .int (j : Int), .str wd, .ref o] ∧ H a = some (.lst (ls.map V.str)) ∧ ls.length ≤ 1000 ∧ j ≤ 1000 ∧ (∀ l ∈ ls, l.length ≤ 1000) ∧ H o = some (.lst (os.map V.str)) ∧ os.length ≤ 3 ∧
  (∀ p, rnE ls j wd os = .inl p → XS cL "line" (.int (p : Int)) H E) ∧ (∀ ss, rnE ls j wd os = .inr ss → ∀ (H' : Hp) (p : Addr), Same H H' → H' p = some (.lst (ss.map V.str)) → Q (.ref p) H')
theorem cal_rn (T : Txt K mg w P) (Z : LnE P K mg cL fL fdL) : CalX P w K mg base 7 "read_names" (spRn cL) := by
  obtain ⟨u0, u1, u2, u3, u4, u5, u6, u7, u8, u9, gLL, gGL, gMN, gPC, gDP, gAS, gGU, gNG, gFP, gMP⟩ := gloC T
  have IL := Z.I
  have FL : FnOk P w K mg base CX0 3 fL fdL ["self", "line"] (spZl cL) := ok_zl T Z
  have bL : Binds K fdL ["self", "line"] [] := IL.binds fun _ _ _ _ _ _ _ us hl => match us, hl with | [_, _], _ => rfl
  have C_is_name : C8.Cal P w K mg base 2 "is_name" spNm [] := cal_nm T
  have X_line_at : CalX P w K mg base 5 "line_at" (spLa cL) := cal_la T Z
  obtain ⟨f, fd, F, hm, hb⟩ := T.h_read_names
  refine ⟨f, fd, _, F.okX sc_read_names (fun vs H Q E h => ?_) (fun cdv A outer s H vs Q E hr h => ?_), hm, F.kp, hb⟩
  · obtain ⟨a, o, j, ls, os, wd, rfl, _⟩ := h
    rfl
  · obtain ⟨a, o, j, ls, os, wd, rfl, ha, hls, hj, hll, ho, ho3, qe, q⟩ := h
    refine ⟨_, (pss_cons
      (ps_set (i := 4) sc_read_names.nd rfl (Or.inl rfl) (pe_m1 PySem.F.slot_str_split PySem.F.type_str_split mt_split (pe_cx X_line_at hr (by omega) (takes_of rfl rfl rfl rfl) (by rfl) (pa_cons (pv 0) (pa_cons (pv 1) pa_nil))) pe_str))
      (pss_cons
      (ps_set (i := 5) sc_read_names.nd rfl (Or.inl rfl) (pe_slice (sl_listK (K := K) rfl) (pv 4) (po_some pe_int) po_none))
      (pss_cons
      (ps_if (PW.pt (pw_or (pt_cmpR op_ne (pe_ix (ix_listK (K := K) rfl) (pv 4) pe_int (fun _ _ => rfl)) (pv 2) (nomark _)) (pw_or (pt_cmpR op_gt (pe_callB (call_lenK (K := K) rfl) (by rfl) T.z_len PySem.boot_len (pa_cons (pv 5) pa_nil)) (pe_glob (v := .int 3) (by rfl) gMN ⟨_, rfl⟩) (nomark _)) (pw_or1 (pt_not (pt_val (pe_callB (Spx.cr_allK (K := K) rfl rfl) (by rfl) T.z_all (by decide +kernel) (pa_cons (pe_lc (own := [("name", 6)]) (g := gName 6) (tt := tYes) rfl sc_read_names.nd (pi_list (pv 5)) (blkOk_by (N := N_read_names) (sc := defScope s_read_names) (by decide +kernel)) (fun _ _ _ _ _ => (pg_name (i := 6) sc_read_names.nd rfl (Or.inl rfl))) (fun _ _ _ _ _ => pts_nil) (fun _ _ _ _ _ => (C8.pe_c C_is_name hr (by omega) (by rfl) (pa_cons (pv 6) pa_nil)))) pa_nil)))))))) (pss_one
      (ps_raise rfl (takes_of rfl rfl rfl rfl) (pmk_oex IL.T IL.iC IL.tI FL (hr.mono (by omega)) bL .nil pass0 (by rfl) IL.gC (pa_cons (pv 1) pa_nil)))) pss_nil)
      (pss_cons
      (ps_if (pt_cmpR op_lt (pe_callB (Spx.call_lenTx (P := P) (w := w) rfl rfl) (by rfl) T.z_len PySem.boot_len (pa_cons (pe_callTy (Sxt.cr_setTx (K := K) (P := P) (w := w) rfl rfl rfl rfl) (by rfl) T.z_set (by decide +kernel) (pa_cons (pe_op op_cat (pv 5) (pv 3)) pa_nil)) pa_nil)) (pe_op op_add (pe_callB (call_lenK (K := K) rfl) (by rfl) T.z_len PySem.boot_len (pa_cons (pv 5) pa_nil)) (pe_callB (call_lenK (K := K) rfl) (by rfl) T.z_len PySem.boot_len (pa_cons (pv 3) pa_nil))) (nomark _)) (pss_one
      (ps_raise rfl (takes_of rfl rfl rfl rfl) (pmk_oex IL.T IL.iC IL.tI FL (hr.mono (by omega)) bL .nil pass0 (by rfl) IL.gC (pa_cons (pv 1) pa_nil)))) pss_nil)
      (pss_one
      (ps_ret (pv 5))))))), ?_⟩
    refine ⟨_, rfl, _, rfl, a, j, ls, rfl, ha, hls, fun l hl => ⟨⟨_, rfl⟩, l, sB, rfl, rfl, by decide +kernel, Nat.le_trans (Nat.add_le_add_right (hll l (List.mem_of_getElem? hl)) 2) (by decide), fun p1 np1 => ?_⟩, fun hn => qe _ (by unfold rnE; rw [hn])⟩
    have hll := hll l (List.mem_of_getElem? hl)
    have hle := wds_le l
    show _
    rw [show Txt.split l sB = wds l from rfl]
    have he : rnE ls j wd os = if (wds l).head? = some wd ∧ (wds l).tail.length ≤ 3 ∧ (wds l).tail.all nameOk = true ∧ ((wds l).tail ++ os).Nodup then .inr (wds l).tail else .inl j := by unfold rnE; rw [hl]
    rw [he] at q qe
    obtain ⟨w0, ss, hw⟩ : ∃ w0 ss, wds l = w0 :: ss := by
      cases e : wds l with
      | nil => exact absurd e (wds_ne l)
      | cons a b => exact ⟨a, b, rfl⟩
    rw [hw] at q qe hle ⊢
    have hssl : ∀ s ∈ ss, s.length ≤ 1000 := fun s hs => Nat.le_trans (hle.1 s (List.mem_cons_of_mem _ hs)) hll
    have hsn : ss.length ≤ 1000 := by
      have := hle.2
      rw [List.length_cons] at this
      omega
    have bad : ¬ ((w0 :: ss).head? = some wd ∧ (w0 :: ss).tail.length ≤ 3 ∧ (w0 :: ss).tail.all nameOk = true ∧ ((w0 :: ss).tail ++ os).Nodup) → XS cL "line" (.int (j : Int)) H E := fun n => qe j (if_neg n)
    clear qe he
    generalize hX : upd H p1 _ = H1; obtain ⟨sH1, ep1⟩ := nw np1 hX; clear hX
    refine ⟨_, rfl, (1 : Int), rfl, p1, _, rfl, .of ep1, fun p2 np2 => ?_⟩
    rw [show cutV ((w0 :: ss).map V.str) (some 1) none = ss.map V.str from cut_drop _ 1]
    generalize hX : upd H1 p2 _ = H2; obtain ⟨sH2, ep2⟩ := nw np2 hX; clear hX
    have s2 := sH1.trans sH2
    refine ⟨_, rfl, p1, _, _, .str w0, rfl, rfl, .of (sH2 _ _ ep1), at0, ?_⟩
    have lss : (ss.map V.str).length = ss.length := List.length_map _
    have los : (os.map V.str).length = os.length := List.length_map _
    refine ⟨_, rfl, rfl, _, rfl, ite_sn (fun k => ?_) (fun k => ?_)⟩
    · exact ⟨_, rfl, by show 1 ≤ 1000; decide, mk_xl s2 (by omega) (bad fun z => k (Option.some.inj z.1))⟩
    refine ⟨_, rfl, p2, _, rfl, .inl (.of ep2), _, _, rfl, rfl, _, rfl, ?_⟩
    rw [lss]
    by_cases c3 : ss.length ≤ 3
    case neg => exact iteB_t (decide_eq_true (by omega)) ⟨_, rfl, by show 1 ≤ 1000; decide, mk_xl s2 (by omega) (bad fun z => c3 z.2.1)⟩
    refine iteB_f (decide_eq_false (by omega)) ?_
    refine ⟨_, rfl, p2, rfl, ⟨_, .of ep2⟩, fun D hD => lc_list (K := K) (a := p2) (xs := ss.map V.str) (fun i H' => Same H2 H' ∧ H' D = some (.lst (((ss.take i).map nameOk).map V.bl))) ⟨same_new hD, upd_same⟩ (fun i H' _ ⟨z, _⟩ => .of (z _ _ ep2)) ?_ ?_⟩
    · rintro i y H' hi ⟨s', e'⟩
      obtain ⟨z, hz, rfl⟩ := mapg hi
      have et : ss.take (i + 1) = ss.take i ++ [z] := by rw [List.take_add_one, hz]; rfl
      have hzl := hssl z (List.mem_of_getElem? hz)
      refine ⟨rfl, _, rfl, z, rfl, Nat.le_trans hzl (by decide), _, e', by rw [List.length_map, List.length_map, List.length_take]; exact Nat.lt_of_le_of_lt (show min i ss.length ≤ 100 by omega) (by decide), fun b u hb => by rw [upd_ne (ne_of_none hb hD)]; exact s' _ _ hb, ?_⟩
      rw [upd_same, et, List.map_append, List.map_append]
      rfl
    rintro H3 ⟨s3, e3⟩
    rw [lss, List.take_length] at e3
    have s03 := s2.trans s3
    refine ⟨D, ss.map nameOk, rfl, .of e3, _, rfl, ?_⟩
    have eall : (ss.map nameOk).all id = ss.all nameOk := by rw [List.all_map]; rfl
    rw [eall]
    cases hall : ss.all nameOk with
    | false =>
      refine iteT ⟨_, rfl, by show 1 ≤ 1000; decide, mk_xl s03 (by omega) (bad fun z => ?_)⟩
      have := z.2.2.1
      rw [show (w0 :: ss).tail = ss from rfl, hall] at this
      cases this
    | true =>
    refine iteF ?_
    -- all differ
    refine ⟨_, rfl, _, rfl, p2, o, _, _, rfl, rfl, s3 _ _ ep2, s03 _ _ ho, by rw [lss, los]; exact Nat.le_trans (show ss.length + os.length ≤ 10 by omega) (by decide), fun p4 np4 => ?_⟩
    generalize hX : upd H3 p4 _ = H4; obtain ⟨sH4, ep4⟩ := nw np4 hX; clear hX
    rw [← List.map_append] at ep4
    refine ⟨p4, ss ++ os, rfl, .of ep4, Nat.lt_of_le_of_lt (show (ss ++ os).length + 1 ≤ 100 by rw [List.length_append]; omega) (by decide), fun p5 us np5 h1 h2 h3 => ⟨p5, us, rfl, upd_same, by rw [List.length_append] at h1; omega, ?_⟩⟩
    have s5 : Same H4 (upd H4 p5 (Sxt.SetTxO P w p5 us)) := same_new np5
    generalize upd H4 p5 (Sxt.SetTxO P w p5 us) = H5 at s5 ⊢
    have s45 := sH4.trans s5
    refine ⟨_, rfl, p2, _, rfl, .inl (.of (s45 _ _ (s3 _ _ ep2))), _, rfl, o, _, rfl, .inl (.of (s45 _ _ (s03 _ _ ho))), _, _, rfl, rfl, _, _, rfl, rfl, _, rfl, ?_⟩
    rw [lss, los]
    by_cases hnd : (ss ++ os).Nodup
    · have hul : us.length = ss.length + os.length := by
        have := (Sxt.perm_of_sub (ss ++ os) us hnd (fun z hz => (h2 z).mpr hz) h1).length_eq
        rw [List.length_append] at this
        omega
      refine iteB_f (decide_eq_false (by omega)) ?_
      have hh : (w0 :: ss).head? = some wd ∧ (w0 :: ss).tail.length ≤ 3 ∧ (w0 :: ss).tail.all nameOk = true ∧ ((w0 :: ss).tail ++ os).Nodup := ⟨by rw [k]; rfl, c3, hall, hnd⟩
      exact ⟨_, rfl, q ss (if_pos hh) H5 p2 (s03.trans s45) (s45 _ _ (s3 _ _ ep2))⟩
    · have hul : us.length < ss.length + os.length := by
        rcases Nat.lt_or_ge us.length (ss.length + os.length) with c | c
        · exact c
        · exact absurd ((Sxt.perm_of_sub us (ss ++ os) h3 (fun z hz => (h2 z).mp hz) (by rw [List.length_append]; omega)).nodup_iff.mpr h3) hnd
      refine iteB_t (decide_eq_true (by omega)) ?_
      exact ⟨_, rfl, by show 1 ≤ 1000; decide, mk_xl (s03.trans s45) (by omega) (bad fun z => hnd z.2.2.2)⟩
/-- what stands in the line of the lead -/
def rlE (ls : List Str) (j : Nat) : Sum Nat Int :=
  match ls[j]? with
  | none => .inl ls.length
  | some l => match whV (tl (Txt.partition l sB).2.2) with
    | .int L => if (Txt.partition l sB).1 = Str.ofString "lead" ∧ -3 ≤ L ∧ L ≤ 2 then .inr L else .inl j
    | _ => .inl j
theorem whV_or (l : List Nat) : whV l = .non ∨ ∃ n : Int, whV l = .int n := by
  unfold whV
  split
  · split
    · exact .inr ⟨_, rfl⟩
    · exact .inl rfl
  · cases natF l with
    | none => exact .inl rfl
    | some n => exact .inr ⟨_, rfl⟩
def spRl (cL : Addr) : Sp := fun vs H Q E => ∃ (a : Addr) (j : Nat) (ls : List Str), vs = [.ref a, .int (j : Int)] ∧ H a = some (.lst (ls.map V.str)) ∧ ls.length ≤ 1000 ∧ j ≤ 1000 ∧ (∀ l ∈ ls, l.length ≤ 1000 ∧ (Txt.partition l sB).2.2.length ≤ 1000) ∧
  (∀ p, rlE ls j = .inl p → XS cL "line" (.int (p : Int)) H E) ∧ (∀ L, rlE ls j = .inr L → ∀ H', Same H H' → Q (.int L) H')
theorem cal_rl (T : Txt K mg w P) (Z : LnE P K mg cL fL fdL) : CalX P w K mg base 7 "read_lead" (spRl cL) := by
  obtain ⟨u0, u1, u2, u3, u4, u5, u6, u7, u8, u9, gLL, gGL, gMN, gPC, gDP, gAS, gGU, gNG, gFP, gMP⟩ := gloC T
  obtain ⟨tk1, tk2, gLC, gDI⟩ := gloS T
  have IL := Z.I
  have FL : FnOk P w K mg base CX0 3 fL fdL ["self", "line"] (spZl cL) := ok_zl T Z
  have bL : Binds K fdL ["self", "line"] [] := IL.binds fun _ _ _ _ _ _ _ us hl => match us, hl with | [_, _], _ => rfl
  have C_whole : C8.Cal P w K mg base 2 "whole" spWh [] := cal_wh T gDI
  have X_line_at : CalX P w K mg base 5 "line_at" (spLa cL) := cal_la T Z
  obtain ⟨f, fd, F, hm, hb⟩ := T.h_read_lead
  refine ⟨f, fd, _, F.okX sc_read_lead (fun vs H Q E h => ?_) (fun cdv A outer s H vs Q E hr h => ?_), hm, F.kp, hb⟩
  · obtain ⟨a, j, ls, rfl, _⟩ := h
    rfl
  · obtain ⟨a, j, ls, rfl, ha, hls, hj, hll, qe, q⟩ := h
    refine ⟨_, (pss_cons
      (ps_asg (pe_m1 PySem.F.slot_str_partition PySem.F.type_str_partition mt_partition (pe_cx X_line_at hr (by omega) (takes_of rfl rfl rfl rfl) (by rfl) (pa_cons (pv 0) (pa_cons (pv 1) pa_nil))) pe_str) (pg_tup (by rfl) (pgs_cons (pg_name (i := 2) sc_read_lead.nd rfl (.inl rfl)) (pgs_cons (pg_name (i := 3) sc_read_lead.nd rfl (.inl rfl)) (pgs_cons (pg_name (i := 4) sc_read_lead.nd rfl (.inl rfl)) pgs_nil)))))
      (pss_cons
      (ps_set (i := 5) sc_read_lead.nd rfl (Or.inl rfl) (C8.pe_c C_whole hr (by omega) (by rfl) (pa_cons (pv 4) pa_nil)))
      (pss_cons
      (ps_if (PW.pt (pw_or (pt_cmpR op_ne (pv 2) pe_str (nomark _)) (pw_or (pt_cmpR op_isN (pv 5) pe_non (nomark _)) (pw_or (pt_cmpR op_lt (pv 5) (pe_glob (v := .int (-3)) (by rfl) gLL ⟨_, rfl⟩) (nomark _)) (pw_or1 (pt_cmpR op_gt (pv 5) (pe_glob (v := .int 2) (by rfl) gGL ⟨_, rfl⟩) (nomark _))))))) (pss_one
      (ps_raise rfl (takes_of rfl rfl rfl rfl) (pmk_oex IL.T IL.iC IL.tI FL (hr.mono (by omega)) bL .nil pass0 (by rfl) IL.gC (pa_cons (pv 1) pa_nil)))) pss_nil)
      (pss_one
      (ps_ret (pv 5)))))), ?_⟩
    refine ⟨_, rfl, _, rfl, a, j, ls, rfl, ha, hls, fun l hl => ⟨⟨_, rfl⟩, l, sB, rfl, rfl, by decide +kernel, Nat.le_trans (hll l (List.mem_of_getElem? hl)).1 (by decide), fun p1 np1 => ?_⟩, fun hn => qe _ (by unfold rlE; rw [hn])⟩
    have hll := hll l (List.mem_of_getElem? hl)
    have he : rlE ls j = match whV (tl (Txt.partition l sB).2.2) with
      | .int L => if (Txt.partition l sB).1 = Str.ofString "lead" ∧ -3 ≤ L ∧ L ≤ 2 then .inr L else .inl j
      | _ => .inl j := by unfold rlE; rw [hl]
    rw [he] at q qe
    clear he
    generalize hX : upd H p1 _ = H1; obtain ⟨sH1, ep1⟩ := nw np1 hX; clear hX
    refine ⟨p1, _, rfl, .of ep1, rfl, _, _, rfl, _, _, rfl, _, _, rfl, rfl, ?_⟩
    refine ⟨_, rfl, _, rfl, Nat.le_trans hll.2 (by decide), ?_⟩
    rcases whV_or (tl (Txt.partition l sB).2.2) with e | ⟨L, e⟩
    · rw [e] at qe ⊢
      refine ⟨_, rfl, rfl, _, rfl, ite_sn (fun k => ?_) (fun k => ?_)⟩
      · exact ⟨_, rfl, by show 1 ≤ 1000; decide, mk_xl sH1 (by omega) (qe j rfl)⟩
      refine ⟨_, rfl, rfl, _, rfl, iteB_t (by rfl) ?_⟩
      exact ⟨_, rfl, by show 1 ≤ 1000; decide, mk_xl sH1 (by omega) (qe j rfl)⟩
    · rw [e] at qe q ⊢
      dsimp only at qe q
      refine ⟨_, rfl, rfl, _, rfl, ite_sn (fun k => ?_) (fun k => ?_)⟩
      · exact ⟨_, rfl, by show 1 ≤ 1000; decide, mk_xl sH1 (by omega) (qe j (if_neg fun z => k z.1))⟩
      refine ⟨_, rfl, rfl, _, rfl, iteB_f (by rfl) ?_⟩
      by_cases c1 : L < -3
      · refine ⟨_, rfl, _, _, rfl, rfl, _, rfl, iteB_t (decide_eq_true c1) ?_⟩
        exact ⟨_, rfl, by show 1 ≤ 1000; decide, mk_xl sH1 (by omega) (qe j (if_neg fun z => by omega))⟩
      refine ⟨_, rfl, _, _, rfl, rfl, _, rfl, iteB_f (decide_eq_false c1) ?_⟩
      by_cases c2 : 2 < L
      · refine ⟨_, rfl, _, _, rfl, rfl, _, rfl, iteB_t (decide_eq_true c2) ?_⟩
        exact ⟨_, rfl, by show 1 ≤ 1000; decide, mk_xl sH1 (by omega) (qe j (if_neg fun z => by omega))⟩
      refine ⟨_, rfl, _, _, rfl, rfl, _, rfl, iteB_f (decide_eq_false c2) ?_⟩
      exact ⟨_, rfl, q L (if_pos ⟨k, by omega, by omega⟩) H1 sH1⟩
end
section
open TL
variable {cL fL cT cU cF : Addr} {fdL : FuncData}
/-- what comes of one property -/
inductive Res where
  | ok (f : Fm)
  | unk (x : Str)
  | big
  | pos (p : Nat)
/-- the text t gives this with these names -/
def PpR (nm : List Str) (t : Str) : Res → Prop
  | .ok f => t.length ≤ 200 ∧ Txt.count t (Str.ofString "(") ≤ 20 ∧ ∃ tz, Tks t.cps.toList 0 tz ∧ Rda 24 tz "" [] f ∧ Kok f ∧ sz f ≤ 1000 ∧ unkL nm (pre f) = none ∧ Bnds [] f ∧ Okf f
  | .unk x => t.length ≤ 200 ∧ Txt.count t (Str.ofString "(") ≤ 20 ∧ ∃ tz f, Tks t.cps.toList 0 tz ∧ Rda 24 tz "" [] f ∧ Kok f ∧ sz f ≤ 1000 ∧ unkL nm (pre f) = some x
  | .big => t.length ≤ 200 ∧ Txt.count t (Str.ofString "(") ≤ 20 ∧ ∃ tz f, Tks t.cps.toList 0 tz ∧ Rda 24 tz "" [] f ∧ Kok f ∧ sz f ≤ 1000 ∧ unkL nm (pre f) = none ∧ ¬ Bnds [] f
  | .pos p => t.length ≤ 200 ∧ Txt.count t (Str.ofString "(") ≤ 20 ∧ ∃ tz, Tks t.cps.toList 0 tz ∧ RaE 24 tz p
inductive Er where
  | line (p : Nat)
  | unk (x : Str)
  | big
  | pos (p : Nat)
def XEr (cL cT cU cF : Addr) (H : Hp) (E : XK) : Er → Prop
  | .line p => XS cL "line" (.int (p : Int)) H E
  | .unk x => XS cU "name" (.str x) H E
  | .big => ∀ H', Same H H' → E (.ref cT) none H'
  | .pos p => XS cF "position" (.int (p : Int)) H E
inductive Rp where
  | err (e : Er)
  | done (as gs : List Fm) (neg : Bool)
def wA : Str := Str.ofString "assume "
def wG : Str := Str.ofString "guarantee "
def wN : Str := Str.ofString "negated"
def bdA (l : Str) : Str := cutS l (some (wA.length : Int)) none
def bdG (l : Str) : Str := cutS l (some (wG.length : Int)) none
def rpG (Rf : Str → Res) (n : Nat) : Nat → List Str → List Fm → List Fm → Rp
  | _, [], as, gs => .done as gs false
  | k, l :: r, as, gs =>
    if l = wN ∧ k + 1 = n then .done as gs true
    else if 9 ≤ k then .err (.line k)
    else if Txt.startswith l wA = true ∧ gs.length = 0 then
      match Rf (bdA l) with
      | .ok f => rpG Rf n (k + 1) r (as ++ [f]) gs
      | .unk x => .err (.unk x)
      | .big => .err .big
      | .pos p => .err (.pos p)
    else if Txt.startswith l wG = true then
      match Rf (bdG l) with
      | .ok f => rpG Rf n (k + 1) r as (gs ++ [f])
      | .unk x => .err (.unk x)
      | .big => .err .big
      | .pos p => .err (.pos p)
    else .err (.line k)
theorem wd_tl : tl wA = [97, 115, 115, 117, 109, 101, 32] ∧ tl wG = [103, 117, 97, 114, 97, 110, 116, 101, 101, 32] ∧ tl wN = [110, 101, 103, 97, 116, 101, 100] := by decide +kernel
theorem sw_excl {l : Str} (h1 : Txt.startswith l wA = true) (h2 : Txt.startswith l wG = true) : False := by
  obtain ⟨w1, w2, _⟩ := wd_tl
  rw [sw_iff, w1] at h1
  rw [sw_iff, w2] at h2
  cases e : tl l with
  | nil => rw [e] at h1; cases h1
  | cons c r =>
    rw [e] at h1 h2
    have := (List.cons.inj h1).1
    have := (List.cons.inj h2).1
    omega
/-- a property is read: what comes of it -/
theorem pp_call {na : Addr} {t : Str} {nm : List Str} {r : Res} {H : Hp} {Q : VK} {E : XK} (hna : H na = some (.lst (nm.map V.str))) (hnl : nm.length ≤ 100) (h : PpR nm t r)
    (qf : ∀ f, r = .ok f → ∀ (H' : Hp) (v : V), Same H H' → FmAt K H' v f → Q v H')
    (qe : ∀ e, (r = .unk e → XS cU "name" (.str e) H E)) (qb : r = .big → ∀ H', Same H H' → E (.ref cT) none H') (qp : ∀ p, r = .pos p → XS cF "position" (.int (p : Int)) H E) : spPp8 K 24 cT cU cF [.str t, .ref na] H Q E := by
  cases r with
  | ok f =>
    obtain ⟨h1, h2, tz, h3, h4, h5, h6, h7, h8, _⟩ := h
    exact ⟨na, t, nm, tz, rfl, hna, h1, h2, h3, .inl ⟨f, h4, h5, h6, hnl, fun x hx => by (rw [h7] at hx; cases hx), fun _ => ⟨fun n => absurd h8 n, fun _ => qf f rfl⟩⟩⟩
  | unk x =>
    obtain ⟨h1, h2, tz, f, h3, h4, h5, h6, h7⟩ := h
    refine ⟨na, t, nm, tz, rfl, hna, h1, h2, h3, .inl ⟨f, h4, h5, h6, hnl, fun y hy => ?_, fun z => ?_⟩⟩
    · rw [h7] at hy
      cases hy
      exact qe x rfl
    · rw [h7] at z
      cases z
  | big =>
    obtain ⟨h1, h2, tz, f, h3, h4, h5, h6, h7, h8⟩ := h
    exact ⟨na, t, nm, tz, rfl, hna, h1, h2, h3, .inl ⟨f, h4, h5, h6, hnl, fun x hx => by (rw [h7] at hx; cases hx), fun _ => ⟨fun _ => qb rfl, fun b => absurd b h8⟩⟩⟩
  | pos p =>
    obtain ⟨h1, h2, tz, h3, h4⟩ := h
    exact ⟨na, t, nm, tz, rfl, hna, h1, h2, h3, .inr ⟨p, h4, qp p rfl⟩⟩
/-- what is wanted of the lines -/
structure LnsOk (nm : List Str) (Rf : Str → Res) (ls : List Str) : Prop where
  le : ls.length ≤ 100
  l3 : 3 ≤ ls.length
  ll : ∀ l ∈ ls, l.length ≤ 1000
  ra : ∀ l ∈ ls, Txt.startswith l wA = true → PpR nm (bdA l) (Rf (bdA l))
  rg : ∀ l ∈ ls, Txt.startswith l wG = true → PpR nm (bdG l) (Rf (bdG l))
  nl : nm.length ≤ 100
def spRp (K : PySem.W.Frag) (cL cT cU cF : Addr) : Sp := fun vs H Q E => ∃ (a na : Addr) (ls nm : List Str) (Rf : Str → Res), vs = [.ref a, .ref na] ∧ H a = some (.lst (ls.map V.str)) ∧ H na = some (.lst (nm.map V.str)) ∧ LnsOk nm Rf ls ∧
  (∀ e, rpG Rf ls.length 3 (ls.drop 3) [] [] = .err e → XEr cL cT cU cF H E e) ∧
  (∀ fs gs n, rpG Rf ls.length 3 (ls.drop 3) [] [] = .done fs gs n → ∀ (H' : Hp) (t A G : Addr) (us vs : List V), Same H H' → H' t = some (.tup [.ref A, .ref G, .bl n]) → H' A = some (.lst us) → H' G = some (.lst vs) → PvsAt K H' us (fs.map Pr.f) → PvsAt K H' vs (gs.map Pr.f) → Q (.ref t) H')
theorem cal_rp {cD fD fU fF : Addr} {fdD fdU fdF : FuncData} (T : Txt K mg w P) (Z : LnE P K mg cL fL fdL) (eT : ErrC K mg "TooLarge" cT)
    (ID : Sup.InitK P K mg "DuplicateSignal" cD fD "__init__" "DuplicateSignal.__init__" (defArgs s_DuplicateSignal_init) (defBody s_DuplicateSignal_init) (defScope s_DuplicateSignal_init) fdD) (nD : PySem.W.findIn K (.ref cD) "name" = some none)
    (IU : Sup.InitK P K mg "UnknownSignal" cU fU "__init__" "UnknownSignal.__init__" (defArgs s_UnknownSignal_init) (defBody s_UnknownSignal_init) (defScope s_UnknownSignal_init) fdU) (nU : PySem.W.findIn K (.ref cU) "name" = some none) (ZF : FsE P K mg cF fF fdF) : CalX P w K mg base 46 "read_properties" (spRp K cL cT cU cF) := by
  obtain ⟨u0, u1, u2, u3, u4, u5, u6, u7, u8, u9, gLL, gGL, gMN, gPC, gDP, gAS, gGU, gNG, gFP, gMP⟩ := gloC T
  have IL := Z.I
  have FL : FnOk P w K mg base CX0 3 fL fdL ["self", "line"] (spZl cL) := ok_zl T Z
  have bL : Binds K fdL ["self", "line"] [] := IL.binds fun _ _ _ _ _ _ _ us hl => match us, hl with | [_, _], _ => rfl
  have X_parse_property : CalX P w K mg base 44 "parse_property" (spPp8 K 24 cT cU cF) := cal_pp (n := 24) T eT ID nD IU nU ZF
  obtain ⟨f, fd, F, hm, hb⟩ := T.h_read_properties
  refine ⟨f, fd, _, F.okX sc_read_properties (fun vs H Q E h => ?_) (fun cdv A outer s H vs Q E hr h => ?_), hm, F.kp, hb⟩
  · obtain ⟨a, na, ls, nm, Rf, rfl, _⟩ := h
    rfl
  · obtain ⟨a, na, ls, nm, Rf, rfl, ha, hna, hT, qe, q⟩ := h
    refine ⟨_, (pss_cons
      (ps_set (i := 2) sc_read_properties.nd rfl (Or.inl rfl) (pe_lst pa_nil))
      (pss_cons
      (ps_set (i := 3) sc_read_properties.nd rfl (Or.inl rfl) (pe_lst pa_nil))
      (pss_cons
      (ps_for (passes_of rfl) rfl (pi_range2 (by rfl) T.z_range (pa_cons (pe_glob (v := .int 3) (by rfl) gFP ⟨_, rfl⟩) (pa_cons (pe_callB (call_lenK (K := K) rfl) (by rfl) T.z_len PySem.boot_len (pa_cons (pv 0) pa_nil)) pa_nil))) (pg_name (i := 4) sc_read_properties.nd rfl (.inl rfl)) (pss_cons
      (ps_set (i := 5) sc_read_properties.nd rfl (Or.inl rfl) (pe_ix (ix_listK (K := K) rfl) (pv 0) (pv 4) (fun _ _ => rfl)))
      (C8.pss_cut
      (ps_if (PW.pt (pw_and (pt_cmpR op_eq (pv 5) (pe_glob (v := .str "negated") (by rfl) gNG ⟨_, rfl⟩) (nomark _)) (pw_and1 (pt_cmpR op_eq (pv 4) (pe_op op_sub (pe_callB (call_lenK (K := K) rfl) (by rfl) T.z_len PySem.boot_len (pa_cons (pv 0) pa_nil)) pe_int) (nomark _))))) (pss_one
      (ps_ret (pe_tup (pa_cons (pv 2) (pa_cons (pv 3) (pa_cons pe_bl pa_nil)))))) pss_nil)
      (pss_cons
      (ps_if (pt_cmpR op_ge (pv 4) (pe_op op_add (pe_glob (v := .int 3) (by rfl) gFP ⟨_, rfl⟩) (pe_glob (v := .int 6) (by rfl) gMP ⟨_, rfl⟩)) (nomark _)) (pss_one
      (ps_raise rfl (takes_of rfl rfl rfl rfl) (pmk_oex IL.T IL.iC IL.tI FL (hr.mono (by omega)) bL .nil pass0 (by rfl) IL.gC (pa_cons (pv 4) pa_nil)))) pss_nil)
      (pss_one
      (ps_if (PW.pt (pw_and (pt_val (pe_m1 PySem.F.slot_str_startswith PySem.F.type_str_startswith mt_startswith (pv 5) (pe_glob (v := .str "assume ") (by rfl) gAS ⟨_, rfl⟩))) (pw_and1 (pt_cmpR op_eq (pe_callB (call_lenK (K := K) rfl) (by rfl) T.z_len PySem.boot_len (pa_cons (pv 3) pa_nil)) pe_int (nomark _))))) (pss_one
      (ps_expr (pe_bm PySem.F.plainAttrs_list PySem.F.slot_list_append PySem.F.type_list_append mt_append (pv 2) (pa_cons (pe_cx X_parse_property hr (by omega) (takes_of rfl rfl rfl rfl) (by rfl) (pa_cons (pe_slice sl_str (pv 5) (po_some (pe_callB call_len_str (by rfl) T.z_len PySem.boot_len (pa_cons (pe_glob (v := .str "assume ") (by rfl) gAS ⟨_, rfl⟩) pa_nil))) po_none) (pa_cons (pv 1) pa_nil))) pa_nil)))) (pss_one
      (ps_if (pt_val (pe_m1 PySem.F.slot_str_startswith PySem.F.type_str_startswith mt_startswith (pv 5) (pe_glob (v := .str "guarantee ") (by rfl) gGU ⟨_, rfl⟩))) (pss_one
      (ps_expr (pe_bm PySem.F.plainAttrs_list PySem.F.slot_list_append PySem.F.type_list_append mt_append (pv 3) (pa_cons (pe_cx X_parse_property hr (by omega) (takes_of rfl rfl rfl rfl) (by rfl) (pa_cons (pe_slice sl_str (pv 5) (po_some (pe_callB call_len_str (by rfl) T.z_len PySem.boot_len (pa_cons (pe_glob (v := .str "guarantee ") (by rfl) gGU ⟨_, rfl⟩) pa_nil))) po_none) (pa_cons (pv 1) pa_nil))) pa_nil)))) (pss_one
      (ps_raise rfl (takes_of rfl rfl rfl rfl) (pmk_oex IL.T IL.iC IL.tI FL (hr.mono (by omega)) bL .nil pass0 (by rfl) IL.gC (pa_cons (pv 4) pa_nil))))))))))))
      (pss_one
      (ps_ret (pe_tup (pa_cons (pv 2) (pa_cons (pv 3) (pa_cons pe_bl pa_nil))))))))), ?_⟩
    obtain ⟨out, hout⟩ : ∃ out, out = rpG Rf ls.length 3 (ls.drop 3) [] [] := ⟨_, rfl⟩
    rw [← hout] at qe q
    refine ⟨Nat.zero_le _, fun A nA => ?_⟩
    generalize hX : upd H A _ = H1; obtain ⟨sH1, eA⟩ := nw nA hX; clear hX
    refine ⟨Nat.zero_le _, fun G nG => ?_⟩
    generalize hX : upd H1 G _ = H2; obtain ⟨sH2, eG⟩ := nw nG hX; clear hX
    have nAG : A ≠ G := fun z => by rw [z] at eA; rw [eA] at nG; cases nG
    have n0A : H A = none := nA
    have n0G : H G = none := Same_fr sH1 nG
    have s2 := sH1.trans sH2
    have eA2 := sH2 _ _ eA
    have hnl := hT.le
    have hl3 := hT.l3
    have hwl : (Str.ofString "assume ").length = 7 ∧ (Str.ofString "guarantee ").length = 10 := by decide +kernel
    have hlsl : (ls.map V.str).length = ls.length := List.length_map _
    have hN : ((((ls.map V.str).length : Nat) : Int) - 3).toNat = ls.length - 3 := by rw [hlsl]; omega
    refine ⟨_, rfl, a, _, rfl, .inl (.of (s2 _ _ ha)), _, _, rfl, ⟨by decide, by decide, by rw [hlsl]; omega, by rw [hlsl]; exact Int.lt_of_le_of_lt (show _ ≤ (100 : Int) by omega) (by decide)⟩, for_range (lo := 3) (n := ((((ls.map V.str).length : Nat) : Int) - 3).toNat) (fun i σ H' => ∃ (us vs : List V) (fs gs : List Fm) (v4 v5 : Option V), σ = [some (.ref a), some (.ref na), some (.ref A), some (.ref G), v4, v5] ∧ Same H H' ∧ H' A = some (.lst us) ∧ H' G = some (.lst vs) ∧ PvsAt K H' us (fs.map Pr.f) ∧ PvsAt K H' vs (gs.map Pr.f) ∧ fs.length + gs.length ≤ i ∧ out = rpG Rf ls.length (3 + i) (ls.drop (3 + i)) fs gs)
      ⟨[], [], [], [], none, none, rfl, s2, eA2, eG, trivial, trivial, Nat.le_refl _, hout⟩ ?_ ?_⟩
    · rintro i σ H' hi ⟨us, vs, fs, gs, v4, v5, rfl, s', e1, e2, p1, p2, hfg, ho⟩
      rw [hN] at hi
      have hk : 3 + i < ls.length := by omega
      obtain ⟨l, hl⟩ : ∃ l, ls[3 + i]? = some l := ⟨_, List.getElem?_eq_getElem hk⟩
      have hlm := List.mem_of_getElem? hl
      have hdr : ls.drop (3 + i) = l :: ls.drop (3 + i + 1) := by
        rw [List.drop_eq_getElem_cons hk]
        rw [List.getElem?_eq_getElem hk] at hl
        rw [Option.some.inj hl]
      rw [hdr] at ho
      have al := p1.len
      have gl := p2.len
      rw [List.length_map] at al gl
      have hll := hT.ll l hlm
      have look : atI (ls.map V.str) ((3 : Int) + (i : Nat)) = some (V.str l) := by
        rw [show (3 : Int) + (i : Nat) = ((3 + i : Nat) : Int) by omega]
        exact atI_nat (by rw [List.getElem?_map, hl]; rfl)
      refine ⟨_, rfl, _, rfl, a, _, _, _, rfl, rfl, .of (s' _ _ ha), look, ?_⟩
      refine ⟨fun σ' H2 => σ' = [some (.ref a), some (.ref na), some (.ref A), some (.ref G), some (.int ((3 : Int) + (i : Nat))), some (.str l)] ∧ H2 = H' ∧ ¬ (l = wN ∧ 3 + i + 1 = ls.length), ?_, ?_⟩
      · refine ⟨_, rfl, rfl, _, rfl, ?_⟩
        by_cases c : l = wN
        · refine iteB_t (decide_eq_true (by rw [c]; rfl)) ⟨_, rfl, _, rfl, a, _, rfl, .inl (.of (s' _ _ ha)), _, _, rfl, rfl, rfl, _, rfl, ?_⟩
          rw [hlsl]
          by_cases c2 : 3 + i + 1 = ls.length
          · refine iteB_t (decide_eq_true (congrArg V.int (by omega))) ?_
            have : out = .done fs gs true := by
              rw [ho]
              unfold rpG
              exact if_pos ⟨c, c2⟩
            refine ⟨_, rfl, _, rfl, sz3, fun t nt => ?_⟩
            generalize hX : upd H' t _ = H9; obtain ⟨sH9, et⟩ := nw nt hX; clear hX
            exact q _ _ _ this H9 t A G us vs (s'.trans sH9) et (sH9 _ _ e1) (sH9 _ _ e2) (p1.same sH9) (p2.same sH9)
          · refine iteB_f (decide_eq_false fun z => c2 (by have := V.int.inj z; omega)) ?_
            exact ⟨rfl, rfl, fun z => c2 z.2⟩
        · exact iteB_f (decide_eq_false fun z => c (V.str.inj z)) (iteB_f rfl ⟨rfl, rfl, fun z => c z.1⟩)
      rintro σ' H2 ⟨rfl, rfl, hng⟩
      unfold rpG at ho
      rw [if_neg hng] at ho
      refine ⟨_, rfl, _, _, rfl, rfl, _, _, rfl, rfl, _, rfl, ?_⟩
      by_cases c9 : 9 ≤ 3 + i
      · rw [if_pos c9] at ho
        refine iteB_t (decide_eq_true (by omega)) ?_
        refine ⟨_, rfl, by show 1 ≤ 1000; decide, ?_⟩
        rw [show (3 : Int) + (i : Nat) = ((3 + i : Nat) : Int) by omega]
        exact mk_xl s' (by omega) (qe _ ho)
      rw [if_neg c9] at ho
      refine iteB_f (decide_eq_false (by omega)) ?_
      refine ⟨_, rfl, ⟨_, rfl⟩, _, _, rfl, rfl, _, rfl, ?_⟩
      by_cases cA : Txt.startswith l wA = true
      · by_cases g0 : gs.length = 0
        · -- an assumption
          rw [if_pos ⟨cA, g0⟩] at ho
          refine iteB_t cA ⟨_, rfl, G, _, rfl, .inl (.of e2), rfl, _, rfl, ?_⟩
          refine iteB_t (decide_eq_true (by rw [gl, g0]; rfl)) ?_
          refine ⟨_, rfl, .inl ⟨rfl, _, .of e1⟩, _, rfl, _, rfl, by rw [hwl.1]; decide, _, rfl, l, rfl, Nat.le_trans hll (by decide), _, rfl, ?_⟩
          refine pp_call (s' _ _ hna) hT.nl (hT.ra l hlm cA) (fun f hf H3 v s3 hv => ?_) (fun x hx H3 d s3 hd => ?_) (fun hx H3 s3 => ?_) (fun p hx H3 d s3 hd => ?_)
          · rw [hf] at ho
            have s13 := s'.trans s3
            have e13 := s3 _ _ e1
            have e23 := s3 _ _ e2
            refine ⟨A, _, _, rfl, rfl, e13, Nat.lt_of_le_of_lt (show us.length ≤ 100 by omega) (by decide), ?_⟩
            have kp : Kp A H3 (upd H3 A (.lst (us ++ [v]))) := Kp.own
            have p13 := ((p1.same s3).snoc (p := Pr.f f) hv).kp e13 kp
            have p23 := (p2.same s3).kp e13 kp
            have e24 := kp _ _ nAG.symm e23
            exact ⟨us ++ [v], vs, fs ++ [f], gs, _, _, rfl, fun b u hb => by rw [upd_ne (ne_of_none hb n0A)]; exact s13 _ _ hb, upd_same, e24, by rw [List.map_append]; exact p13, p23, by rw [List.length_append, List.length_singleton]; omega, ho⟩
          · rw [hx] at ho
            exact qe _ ho H3 d (s'.trans s3) hd
          · rw [hx] at ho
            exact qe _ ho H3 (s'.trans s3)
          · rw [hx] at ho
            exact qe _ ho H3 d (s'.trans s3) hd
        · have nG : ¬ Txt.startswith l wG = true := fun z => sw_excl cA z
          rw [if_neg (fun z => g0 z.2), if_neg nG] at ho
          refine iteB_t cA ⟨_, rfl, G, _, rfl, .inl (.of e2), rfl, _, rfl, ?_⟩
          refine iteB_f (decide_eq_false (fun z => g0 (by have := V.int.inj z; omega))) ?_
          refine ⟨_, rfl, ⟨_, rfl⟩, _, _, rfl, rfl, _, rfl, iteB_f (by cases e : Txt.startswith l wG with | true => exact absurd e nG | false => exact e) ?_⟩
          refine ⟨_, rfl, by show 1 ≤ 1000; decide, ?_⟩
          rw [show (3 : Int) + (i : Nat) = ((3 + i : Nat) : Int) by omega]
          exact mk_xl s' (by omega) (qe _ ho)
      · rw [if_neg (fun z => cA z.1)] at ho
        have cA' : Txt.startswith l wA = false := by cases e : Txt.startswith l wA with | true => exact absurd e cA | false => rfl
        refine iteB_f cA' (iteB_f rfl ?_)
        refine ⟨_, rfl, ⟨_, rfl⟩, _, _, rfl, rfl, _, rfl, ?_⟩
        by_cases cG : Txt.startswith l wG = true
        · rw [if_pos cG] at ho
          refine iteB_t cG ?_
          refine ⟨_, rfl, .inl ⟨rfl, _, .of e2⟩, _, rfl, _, rfl, by rw [hwl.2]; decide, _, rfl, l, rfl, Nat.le_trans hll (by decide), _, rfl, ?_⟩
          refine pp_call (s' _ _ hna) hT.nl (hT.rg l hlm cG) (fun f hf H3 v s3 hv => ?_) (fun x hx H3 d s3 hd => ?_) (fun hx H3 s3 => ?_) (fun p hx H3 d s3 hd => ?_)
          · rw [hf] at ho
            have s13 := s'.trans s3
            have e13 := s3 _ _ e1
            have e23 := s3 _ _ e2
            refine ⟨G, _, _, rfl, rfl, e23, Nat.lt_of_le_of_lt (show vs.length ≤ 100 by rw [List.length_map] at *; omega) (by decide), ?_⟩
            have kp : Kp G H3 (upd H3 G (.lst (vs ++ [v]))) := Kp.own
            have p13 := (p1.same s3).kp e23 kp
            have p23 := ((p2.same s3).snoc (p := Pr.f f) hv).kp e23 kp
            have e14 := kp _ _ nAG e13
            exact ⟨us, vs ++ [v], fs, gs ++ [f], _, _, rfl, fun b u hb => by rw [upd_ne (ne_of_none hb n0G)]; exact s13 _ _ hb, e14, upd_same, p13, by rw [List.map_append]; exact p23, by rw [List.length_append, List.length_singleton]; omega, ho⟩
          · rw [hx] at ho
            exact qe _ ho H3 d (s'.trans s3) hd
          · rw [hx] at ho
            exact qe _ ho H3 (s'.trans s3)
          · rw [hx] at ho
            exact qe _ ho H3 d (s'.trans s3) hd
        · rw [if_neg cG] at ho
          refine iteB_f (by cases e : Txt.startswith l wG with | true => exact absurd e cG | false => exact e) ?_
          refine ⟨_, rfl, by show 1 ≤ 1000; decide, ?_⟩
          rw [show (3 : Int) + (i : Nat) = ((3 + i : Nat) : Int) by omega]
          exact mk_xl s' (by omega) (qe _ ho)
    · rintro σ H' ⟨us, vs, fs, gs, v4, v5, rfl, s', e1, e2, p1, p2, hfg, ho⟩
      rw [hN, show 3 + (ls.length - 3) = ls.length by omega, List.drop_length] at ho
      refine ⟨_, rfl, _, rfl, sz3, fun t nt => ?_⟩
      generalize hX : upd H' t _ = H9; obtain ⟨sH9, et⟩ := nw nt hX; clear hX
      exact q _ _ _ ho H9 t A G us vs (s'.trans sH9) et (sH9 _ _ e1) (sH9 _ _ e2) (p1.same sH9) (p2.same sH9)
end
def isq : Pr → Bool
  | .f _ => false
  | .q _ _ _ => true
def spIq (K : PySem.W.Frag) : Sp := fun vs H Q _ => ∃ (v : V) (p : Pr), vs = [v] ∧ PvAt K H v p ∧ Okp p ∧ Q (.bl (isq p)) H
theorem cal_iq (T : Txt K mg w P) : C8.Cal P w K mg base 1 "is_quantified" (spIq K) [] := by
  obtain ⟨aQ, aN, gQ, gN⟩ := gloQ T
  obtain ⟨f, fd, F, hm, hb⟩ := T.h_is_quantified
  refine ⟨f, fd, _, [], F.ok sc_is_quantified (fun vs H Q E h => ?_) (fun cdv A outer s H vs Q E hr h => ?_), hm, F.kp, hb, .nil⟩
  · obtain ⟨v, p, rfl, _⟩ := h
    rfl
  · obtain ⟨v, p, rfl, hp, ho, q⟩ := h
    refine ⟨_, (pss_one
      (ps_ret (pe_cmpR (op_inK (K := K) rfl) (pe_ix (ix_tupK (K := K) rfl) (pv 0) pe_int (fun _ _ => rfl)) (pe_glob (v := .ref aQ) (by rfl) gQ.g rfl) (by rfl)))), ?_⟩
    cases p with
    | f f =>
      obtain ⟨a, xs, rfl, ha⟩ := FmAt.tup hp
      refine ⟨_, rfl, a, _, _, .str (kd f), rfl, rfl, ha, (show atI (V.str (kd f) :: xs) 0 = some (V.str (kd f)) from atI_nat (j := 0) rfl), inC (gQ.q H) ?_⟩
      rw [decide_eq_false (kd_q ho)]
      exact q
    | q k hs f =>
      obtain ⟨a, b, u, rfl, ha, hb, hu⟩ := hp
      refine ⟨_, rfl, a, _, _, _, rfl, rfl, ha, rfl, inC (gQ.q H) ?_⟩
      rw [decide_eq_true ho.1]
      exact q
section
open TL
variable {cL fL cT cU cF : Addr} {fdL : FuncData}
def spFo (K : PySem.W.Frag) : Sp := fun vs H Q _ => ∃ (v : V) (p : Pr), vs = [v] ∧ PvAt K H v p ∧ Okp p ∧ ∀ v', FmAt K H v' (foP p) → Q v' H
theorem cal_fo (T : Txt K mg w P) : C8.Cal P w K mg base 2 "formula_of" (spFo K) [] := by
  have C_is_quantified : C8.Cal P w K mg base 1 "is_quantified" (spIq K) [] := cal_iq T
  obtain ⟨f, fd, F, hm, hb⟩ := T.h_formula_of
  refine ⟨f, fd, _, [], F.ok sc_formula_of (fun vs H Q E h => ?_) (fun cdv A outer s H vs Q E hr h => ?_), hm, F.kp, hb, .nil⟩
  · obtain ⟨v, p, rfl, _⟩ := h
    rfl
  · obtain ⟨v, p, rfl, hp, ho, q⟩ := h
    refine ⟨_, (pss_one
      (ps_ret (pe_ifExp (pt_val (C8.pe_c C_is_quantified hr (by decide) (by rfl) (pa_cons (pv 0) pa_nil))) (pe_ix (ix_tupK (K := K) rfl) (pv 0) pe_int (fun _ _ => rfl)) (pv 0)))), ?_⟩
    refine ⟨_, rfl, v, p, rfl, hp, ho, _, rfl, ?_⟩
    cases p with
    | f f => exact iteF ⟨_, rfl, q v hp⟩
    | q k hs f =>
      obtain ⟨a, b, u, rfl, ha, hb, hu⟩ := hp
      exact iteT ⟨_, rfl, a, _, _, _, rfl, rfl, ha, rfl, q u hu⟩
theorem pvs_app {K : PySem.W.Frag} {H : Hp} {gs : List V} {qs : List Pr} (g : PvsAt K H gs qs) : ∀ {as : List V} {ps : List Pr}, PvsAt K H as ps → PvsAt K H (as ++ gs) (ps ++ qs)
  | [], [], _ => g
  | _ :: _, _ :: _, h => ⟨h.1, pvs_app g h.2⟩
theorem PvsAt.get {K : PySem.W.Frag} {H : Hp} : ∀ {vs : List V} {ps : List Pr} {i : Nat} {v : V}, PvsAt K H vs ps → vs[i]? = some v → ∃ p, ps[i]? = some p ∧ PvAt K H v p
  | [], _, i, v, _, h => by cases i <;> cases h
  | _ :: _, [], _, _, h, _ => h.elim
  | _ :: vs, p :: ps, 0, v, h, e => by cases e; exact ⟨p, rfl, h.1⟩
  | _ :: vs, p :: ps, i + 1, v, h, e => PvsAt.get (vs := vs) (ps := ps) (i := i) h.2 e
/-- a formula that was read -/
def Fgd (f : Fm) : Prop := Kok f ∧ sz f ≤ 1000 ∧ Okf f
theorem rpG_all {nm : List Str} {Rf : Str → Res} {n : Nat} : ∀ {ls : List Str} {k : Nat} {as gs fs hs : List Fm} {b : Bool}, (∀ l ∈ ls, Txt.startswith l wA = true → PpR nm (bdA l) (Rf (bdA l))) → (∀ l ∈ ls, Txt.startswith l wG = true → PpR nm (bdG l) (Rf (bdG l))) → (∀ f ∈ as ++ gs, Fgd f) →
    rpG Rf n k ls as gs = .done fs hs b → (∀ f ∈ fs ++ hs, Fgd f) ∧ fs.length + hs.length ≤ as.length + gs.length + ls.length
  | [], k, as, gs, fs, hs, b, _, _, h, e => by
    unfold rpG at e
    cases e
    exact ⟨h, Nat.le_add_right _ _⟩
  | l :: r, k, as, gs, fs, hs, b, ra, rg, h, e => by
    unfold rpG at e
    have ra' := fun l' (h : l' ∈ r) => ra l' (List.mem_cons_of_mem _ h)
    have rg' := fun l' (h : l' ∈ r) => rg l' (List.mem_cons_of_mem _ h)
    split at e
    · cases e
      exact ⟨h, Nat.le_add_right _ _⟩
    split at e
    · cases e
    split at e
    · rename_i hA
      have hp := ra l List.mem_cons_self hA.1
      split at e
      · rename_i f hf
        rw [hf] at hp
        obtain ⟨_, _, tz, _, _, h5, h6, _, _, h9⟩ := hp
        have := rpG_all (as := as ++ [f]) ra' rg' (fun g hg => by
          rcases List.mem_append.mp hg with hg | hg
          · rcases List.mem_append.mp hg with hg | hg
            · exact h g (List.mem_append_left _ hg)
            · rw [List.mem_singleton.mp hg]; exact ⟨h5, h6, h9⟩
          · exact h g (List.mem_append_right _ hg)) e
        refine ⟨this.1, ?_⟩
        have := this.2
        rw [List.length_append, List.length_singleton] at this
        rw [List.length_cons]
        omega
      all_goals cases e
    split at e
    · rename_i hG
      have hp := rg l List.mem_cons_self hG
      split at e
      · rename_i f hf
        rw [hf] at hp
        obtain ⟨_, _, tz, _, _, h5, h6, _, _, h9⟩ := hp
        have := rpG_all (gs := gs ++ [f]) ra' rg' (fun g hg => by
          rcases List.mem_append.mp hg with hg | hg
          · exact h g (List.mem_append_left _ hg)
          · rcases List.mem_append.mp hg with hg | hg
            · exact h g (List.mem_append_right _ hg)
            · rw [List.mem_singleton.mp hg]; exact ⟨h5, h6, h9⟩) e
        refine ⟨this.1, ?_⟩
        have := this.2
        rw [List.length_append, List.length_singleton] at this
        rw [List.length_cons]
        omega
      all_goals cases e
    · cases e
theorem rnE_ok {ls : List Str} {j : Nat} {wd : Str} {os ss : List Str} (h : rnE ls j wd os = .inr ss) : ∃ l, ls[j]? = some l ∧ (wds l).head? = some wd ∧ ss = (wds l).tail ∧ ss.length ≤ 3 ∧ (∀ s ∈ ss, nameOk s = true) ∧ (ss ++ os).Nodup := by
  unfold rnE at h
  split at h
  · cases h
  · rename_i l hl
    split at h
    · rename_i c
      cases h
      exact ⟨l, hl, c.1, rfl, c.2.1, fun s hs => List.all_eq_true.mp c.2.2.1 s hs, c.2.2.2⟩
    · cases h
theorem rlE_ok {ls : List Str} {j : Nat} {L : Int} (h : rlE ls j = .inr L) : (∃ l, ls[j]? = some l) ∧ -3 ≤ L ∧ L ≤ 2 := by
  unfold rlE at h
  split at h
  · cases h
  · rename_i l hl
    split at h
    · split at h
      · rename_i c
        cases h
        exact ⟨⟨l, hl⟩, c.2.1, c.2.2⟩
      · cases h
    · cases h
def wI : Str := Str.ofString "inputs"
def wO : Str := Str.ofString "outputs"
def cnT (f : Fm) : Int := (cntK tpK (pre f) : Nat)
inductive Ps8 where
  | err (e : Er)
  | done (ins outs : List Str) (L : Int) (as gs : List Fm) (neg : Bool)
/-- what comes of the lines and of what stands behind the last -/
def psE (Rf : List Str → Str → Res) (ls : List Str) (rest : Str) : Ps8 :=
  match rnE ls 0 wI [] with
  | .inl p => .err (.line p)
  | .inr ins => match rnE ls 1 wO ins with
    | .inl p => .err (.line p)
    | .inr outs => match rlE ls 2 with
      | .inl p => .err (.line p)
      | .inr L => match rpG (Rf (ins ++ outs)) ls.length 3 (ls.drop 3) [] [] with
        | .err e => .err e
        | .done fs gs n => if rest ≠ sE then .err (.line ls.length) else if 8 < ((fs ++ gs).map cnT).sum then .err .big else .done ins outs L fs gs n
structure TxOk (Rf : List Str → Str → Res) (t : Str) (ls : List Str) (rest : Str) : Prop where
  sp : Txt.split t sN = ls ++ [rest]
  tl : t.length ≤ 100000
  le : ls.length ≤ 100
  ll : ∀ l ∈ ls, l.length ≤ 1000 ∧ (Txt.partition l sB).2.2.length ≤ 1000
  n4 : ∀ ins outs, rnE ls 0 wI [] = .inr ins → rnE ls 1 wO ins = .inr outs → (∀ s ∈ ins ++ outs, s.length ≤ 4) ∧
    (∀ l ∈ ls, Txt.startswith l wA = true → PpR (ins ++ outs) (bdA l) (Rf (ins ++ outs) (bdA l))) ∧ (∀ l ∈ ls, Txt.startswith l wG = true → PpR (ins ++ outs) (bdG l) (Rf (ins ++ outs) (bdG l)))
def spPs (K : PySem.W.Frag) (C cL cT cU cF : Addr) : Sp := fun vs H Q E => ∃ (t : Str) (ls : List Str) (rest : Str) (Rf : List Str → Str → Res), vs = [.str t] ∧ TxOk Rf t ls rest ∧
  (∀ e, psE Rf ls rest = .err e → XEr cL cT cU cF H E e) ∧
  (∀ ins outs L fs gs n, psE Rf ls rest = .done ins outs L fs gs n → ∀ (H' : Hp) (x : Addr) (as us : List V), Same H H' → SpcAt C H' x ins outs L as us n → as.length = fs.length → us.length = gs.length → Q (.ref x) H')
theorem XEr.mono {H H1 : Hp} {E : XK} (s : Same H H1) : ∀ {e : Er}, XEr cL cT cU cF H E e → XEr cL cT cU cF H1 E e
  | .line _, q => XS.mono q s
  | .unk _, q => XS.mono q s
  | .big, q => fun H' s' => q H' (s.trans s')
  | .pos _, q => XS.mono q s
theorem cal_ps {cD fD fU fF C cS : Addr} {fdD fdU fdF : FuncData} (T : Txt K mg w P) (S : Sk P w K mg base C cS) (Z : LnE P K mg cL fL fdL) (eT : ErrC K mg "TooLarge" cT)
    (ID : Sup.InitK P K mg "DuplicateSignal" cD fD "__init__" "DuplicateSignal.__init__" (defArgs s_DuplicateSignal_init) (defBody s_DuplicateSignal_init) (defScope s_DuplicateSignal_init) fdD) (nD : PySem.W.findIn K (.ref cD) "name" = some none)
    (IU : Sup.InitK P K mg "UnknownSignal" cU fU "__init__" "UnknownSignal.__init__" (defArgs s_UnknownSignal_init) (defBody s_UnknownSignal_init) (defScope s_UnknownSignal_init) fdU) (nU : PySem.W.findIn K (.ref cU) "name" = some none) (ZF : FsE P K mg cF fF fdF) : CalX P w K mg base 48 "parse_spec" (spPs K C cL cT cU cF) := by
  have IL := Z.I
  have FL : FnOk P w K mg base CX0 3 fL fdL ["self", "line"] (spZl cL) := ok_zl T Z
  have bL : Binds K fdL ["self", "line"] [] := IL.binds fun _ _ _ _ _ _ _ us hl => match us, hl with | [_, _], _ => rfl
  have X_read_names : CalX P w K mg base 7 "read_names" (spRn cL) := cal_rn T Z
  have X_read_lead : CalX P w K mg base 7 "read_lead" (spRl cL) := cal_rl T Z
  have X_read_properties : CalX P w K mg base 46 "read_properties" (spRp K cL cT cU cF) := cal_rp T Z eT ID nD IU nU ZF
  have C_formula_of : C8.Cal P w K mg base 2 "formula_of" (spFo K) [] := cal_fo T
  have C_temporal_count : C8.Cal P w K mg base 4 "temporal_count" (spTmp K) [] := cal_tmp T
  obtain ⟨PC, MS, gSP, hIC⟩ := S
  obtain ⟨tm1, tm2, tm3, tm4, tm5, tm6, gM1, gM2, gM3, gM4, gM5, gM6⟩ := gloM T
  obtain ⟨f, fd, F, hm, hb⟩ := T.h_parse_spec
  refine ⟨f, fd, _, F.okX sc_parse_spec (fun vs H Q E h => ?_) (fun cdv A outer s H vs Q E hr h => ?_), hm, F.kp, hb⟩
  · obtain ⟨t, ls, rest, Rf, rfl, _⟩ := h
    rfl
  · obtain ⟨t, ls, rest, Rf, rfl, hT, qe, q⟩ := h
    refine ⟨_, (pss_cons
      (ps_set (i := 1) sc_parse_spec.nd rfl (Or.inl rfl) (pe_m1 PySem.F.slot_str_split PySem.F.type_str_split mt_split (pv 0) pe_str))
      (pss_cons
      (ps_set (i := 2) sc_parse_spec.nd rfl (Or.inl rfl) (pe_slice (sl_listK (K := K) rfl) (pv 1) po_none (po_some (pe_un un_neg pe_int))))
      (pss_cons
      (ps_set (i := 3) sc_parse_spec.nd rfl (Or.inl rfl) (pe_cx X_read_names hr (by omega) (takes_of rfl rfl rfl rfl) (by rfl) (pa_cons (pv 2) (pa_cons pe_int (pa_cons pe_str (pa_cons (pe_lst pa_nil) pa_nil))))))
      (pss_cons
      (ps_set (i := 4) sc_parse_spec.nd rfl (Or.inl rfl) (pe_cx X_read_names hr (by omega) (takes_of rfl rfl rfl rfl) (by rfl) (pa_cons (pv 2) (pa_cons pe_int (pa_cons pe_str (pa_cons (pv 3) pa_nil))))))
      (pss_cons
      (ps_set (i := 5) sc_parse_spec.nd rfl (Or.inl rfl) (pe_cx X_read_lead hr (by omega) (takes_of rfl rfl rfl rfl) (by rfl) (pa_cons (pv 2) (pa_cons pe_int pa_nil))))
      (pss_cons
      (ps_asg (pe_cx X_read_properties hr (by omega) (takes_of rfl rfl rfl rfl) (by rfl) (pa_cons (pv 2) (pa_cons (pe_op op_cat (pv 3) (pv 4)) pa_nil))) (pg_tup (by rfl) (pgs_cons (pg_name (i := 6) sc_parse_spec.nd rfl (.inl rfl)) (pgs_cons (pg_name (i := 7) sc_parse_spec.nd rfl (.inl rfl)) (pgs_cons (pg_name (i := 8) sc_parse_spec.nd rfl (.inl rfl)) pgs_nil)))))
      (pss_cons
      (ps_if (pt_cmpR op_ne (pe_ix (ix_listK (K := K) rfl) (pv 1) (pe_un un_neg pe_int) (fun _ _ => rfl)) pe_str (nomark _)) (pss_one
      (ps_raise rfl (takes_of rfl rfl rfl rfl) (pmk_oex IL.T IL.iC IL.tI FL (hr.mono (by omega)) bL .nil pass0 (by rfl) IL.gC (pa_cons (pe_callB (call_lenK (K := K) rfl) (by rfl) T.z_len PySem.boot_len (pa_cons (pv 2) pa_nil)) pa_nil)))) pss_nil)
      (pss_cons
      (ps_if (pt_cmpR op_gt (pe_callB (cr_sum rfl) (by rfl) T.z_sum (by decide +kernel) (pa_cons (pe_lc (own := [("prop", 9)]) (g := gName 9) (tt := tYes) rfl sc_parse_spec.nd (pi_list (pe_op op_cat (pv 6) (pv 7))) (blkOk_by (N := N_parse_spec) (sc := defScope s_parse_spec) (by decide +kernel)) (fun _ _ _ _ _ => (pg_name (i := 9) sc_parse_spec.nd rfl (Or.inl rfl))) (fun _ _ _ _ _ => pts_nil) (fun _ _ _ _ _ => (C8.pe_c C_temporal_count hr (by omega) (by rfl) (pa_cons (C8.pe_c C_formula_of hr (by omega) (by rfl) (pa_cons (pv 9) pa_nil)) pa_nil)))) pa_nil)) (pe_glob (v := .int 8) (by rfl) gM5 ⟨_, rfl⟩) (nomark _)) (pss_one
      (ps_raise rfl (takes_of rfl rfl rfl rfl) (eT.made rfl))) pss_nil)
      (pss_one
      (ps_ret (Spx.pe_mkK MS hr (by omega) Spx.hxN (by rfl) (pa_cons (pv 3) (pa_cons (pv 4) (pa_cons (pv 5) (pa_cons (pv 6) (pa_cons (pv 7) pa_nil))))) (pk_cons (pv 8) pk_nil)))))))))))), ?_⟩
    have hle := hT.le
    obtain ⟨out, hout⟩ : ∃ out, out = psE Rf ls rest := ⟨_, rfl⟩
    rw [← hout] at qe q
    unfold psE at hout
    refine ⟨_, rfl, ⟨_, rfl⟩, t, sN, rfl, rfl, by decide +kernel, Nat.le_trans (Nat.add_le_add_right hT.tl 2) (by decide), fun p1 np1 => ?_⟩
    rw [hT.sp]
    generalize hX : upd H p1 _ = H1; obtain ⟨sH1, ep1⟩ := nw np1 hX; clear hX
    refine ⟨_, rfl, ?_⟩
    refine ⟨_, rfl, _, rfl, p1, _, rfl, .of ep1, fun p2 np2 => ?_⟩
    have ec : cutV ((ls ++ [rest]).map V.str) none (some (-1)) = ls.map V.str := by
      rw [cut_last, List.map_append]
      exact List.dropLast_concat
    rw [ec]
    generalize hX : upd H1 p2 _ = H2; obtain ⟨sH2, ep2⟩ := nw np2 hX; clear hX
    have s2 := sH1.trans sH2
    have hl1 : ∀ l ∈ ls, l.length ≤ 1000 := fun l hl => (hT.ll l hl).1
    refine ⟨_, rfl, Nat.zero_le _, fun p3 np3 => ?_⟩
    generalize hX : upd H2 p3 _ = H3; obtain ⟨sH3, ep3⟩ := nw np3 hX; clear hX
    have s03 := s2.trans sH3
    refine ⟨p2, p3, 0, ls, [], wI, rfl, sH3 _ _ ep2, by omega, by omega, hl1, ep3, Nat.zero_le _, fun p hp => ?_, fun ins hins H4 p4 s4 e4 => ?_⟩
    · rw [hp] at hout
      exact XS.mono (qe _ hout) s03
    rw [hins] at hout
    dsimp only at hout
    obtain ⟨_, _, _, _, li, nmI, ndI⟩ := rnE_ok hins
    have s24 := sH3.trans s4
    have s04 := s2.trans s24
    refine ⟨_, rfl, _, rfl, p2, p4, 1, ls, ins, wO, rfl, s24 _ _ ep2, by omega, by omega, hl1, e4, li, fun p hp => ?_, fun outs houts H5 p5 s5 e5 => ?_⟩
    · rw [hp] at hout
      exact XS.mono (qe _ hout) s04
    rw [houts] at hout
    dsimp only at hout
    obtain ⟨_, _, _, _, lo, nmO, ndO⟩ := rnE_ok houts
    have s25 := s24.trans s5
    have s05 := s2.trans s25
    refine ⟨_, rfl, p2, 2, ls, rfl, s25 _ _ ep2, by omega, by omega, hT.ll, fun p hp => ?_, fun L hL H6 s6 => ?_⟩
    · rw [hp] at hout
      exact XS.mono (qe _ hout) s05
    rw [hL] at hout
    dsimp only at hout
    obtain ⟨⟨l2, hl2⟩, L0, L1⟩ := rlE_ok hL
    have hl3 := (List.getElem?_eq_some_iff.mp hl2).1
    obtain ⟨n4, ra, rg⟩ := hT.n4 ins outs hins houts
    have s26 := s25.trans s6
    have e46 := s6 _ _ (s5 _ _ e4)
    have e56 := s6 _ _ e5
    refine ⟨_, rfl, _, rfl, _, rfl, p4, p5, _, _, rfl, rfl, e46, e56, by rw [List.length_map, List.length_map]; exact Nat.le_trans (show ins.length + outs.length ≤ 6 by omega) (by decide), fun p7 np7 => ?_⟩
    generalize hX : upd H6 p7 _ = H7; obtain ⟨sH7, ep7⟩ := nw np7 hX; clear hX
    rw [← List.map_append] at ep7
    have s07 := (s2.trans s26).trans sH7
    refine ⟨p2, p7, ls, ins ++ outs, Rf (ins ++ outs), rfl, sH7 _ _ (s26 _ _ ep2), ep7, ⟨hle, by omega, hl1, ra, rg, by rw [List.length_append]; omega⟩, fun e he => ?_, fun fs gs n hd H8 tt A' G us vs s8 et eA eG pA pG => ?_⟩
    · rw [he] at hout
      exact XEr.mono s07 (qe _ hout)
    rw [hd] at hout
    dsimp only at hout
    obtain ⟨hall, hlen⟩ := rpG_all (fun l hl => ra l (List.mem_of_mem_drop hl)) (fun l hl => rg l (List.mem_of_mem_drop hl)) (fun f hf => by cases hf) hd
    rw [List.length_drop, List.length_nil] at hlen
    refine ⟨tt, _, rfl, .of et, rfl, _, _, rfl, _, _, rfl, _, _, rfl, rfl, ?_⟩
    have s68 := sH7.trans s8
    have s28 := s26.trans s68
    have s08 := s2.trans s28
    have e1 := s28 _ _ (sH2 _ _ ep1)
    refine ⟨_, rfl, _, rfl, p1, _, _, .str rest, rfl, rfl, .of e1, ?_, ?_⟩
    · rw [List.map_append]
      exact atI_last _ _
    have hal := pA.len
    have hgl := pG.len
    rw [List.length_map] at hal hgl
    refine ⟨rfl, _, rfl, ite_sn (fun k => ?_) (fun k => ?_)⟩
    · rw [if_pos (show rest ≠ sE from k)] at hout
      refine ⟨_, rfl, p2, _, rfl, .inl (.of (s28 _ _ ep2)), by show 1 ≤ 1000; decide, ?_⟩
      rw [List.length_map]
      exact mk_xl s08 (by omega) (qe _ hout)
    rw [if_neg (show ¬ rest ≠ sE from fun z => z k)] at hout
    have hpg : PvsAt K H8 (us ++ vs) ((fs ++ gs).map Pr.f) := by rw [List.map_append]; exact pvs_app pG pA
    refine ⟨_, rfl, _, rfl, A', G, _, _, rfl, rfl, eA, eG, by rw [hal, hgl]; exact Nat.le_trans (show fs.length + gs.length ≤ 100 by omega) (by decide), fun p9 np9 => ?_⟩
    generalize hX : upd H8 p9 _ = H9; obtain ⟨sH9, ep9⟩ := nw np9 hX; clear hX
    refine ⟨p9, rfl, ⟨_, .of ep9⟩, fun D hD => lc_list (K := K) (a := p9) (xs := us ++ vs) (fun i H' => Same H9 H' ∧ H' D = some (.lst ((((fs ++ gs).take i).map cnT).map V.int))) ⟨same_new hD, upd_same⟩ (fun i H' _ ⟨z, _⟩ => .of (z _ _ ep9)) ?_ ?_⟩
    · rintro i y H' hi ⟨s', e'⟩
      obtain ⟨p, hp, hy⟩ := hpg.get hi
      obtain ⟨f, hf, rfl⟩ := mapg hp
      have hg := hall f (List.mem_of_getElem? hf)
      have et : (fs ++ gs).take (i + 1) = (fs ++ gs).take i ++ [f] := by rw [List.take_add_one, hf]; rfl
      refine ⟨rfl, _, rfl, y, .f f, rfl, hy.same (sH9.trans s'), hg.2.2, fun v' hv' => ⟨v', f, sgF f, rfl, hv', wf_sg hg.1, hg.2.1, fun H3 s3 => ?_⟩⟩
      refine ⟨_, s3 _ _ e', by rw [List.length_map, List.length_map, List.length_take, List.length_append]; exact Nat.lt_of_le_of_lt (show min i (fs.length + gs.length) ≤ 100 by omega) (by decide), fun b u hb => by rw [upd_ne (ne_of_none hb hD)]; exact s3 _ _ (s' _ _ hb), ?_⟩
      rw [upd_same, et, List.map_append, List.map_append]
      rfl
    rintro HA ⟨sA, e2A⟩
    rw [hpg.len, List.length_map, List.take_length] at e2A
    have s8A := sH9.trans sA
    refine ⟨D, (fs ++ gs).map cnT, rfl, .of e2A, _, _, rfl, rfl, _, rfl, ?_⟩
    by_cases c8 : 8 < ((fs ++ gs).map cnT).sum
    · rw [if_pos c8] at hout
      exact iteB_t (decide_eq_true c8) (qe _ hout HA (s08.trans s8A))
    rw [if_neg c8] at hout
    refine iteB_f (decide_eq_false c8) ?_
    have s6A := s68.trans s8A
    have s2A := s26.trans s6A
    refine ⟨_, rfl, _, rfl, _, rfl, _, rfl, _, rfl, _, rfl, rfl, rfl, fun y dy hy hdy hne => ?_⟩
    have gd : GoodS ins outs L := ⟨fun s hs => (List.mem_append.mp hs).elim (nmI s) (nmO s), List.perm_append_comm.nodup_iff.mp ndO, li, lo, L0, L1⟩
    exact mkS gd n4 (.inl (s6A _ _ e46)) (.inl (s6A _ _ e56)) (.inl (s8A _ _ eA)) (.inl (s8A _ _ eG)) (by rw [hal]; omega) (by rw [hgl]; omega) hy hdy hne fun H' s' A'' => ⟨rfl, q _ _ _ _ _ _ hout H' y us vs (s2.trans (s2A.trans s')) A'' hal hgl⟩
end
theorem pe_fldK {X : Cx} {K : PySem.W.Frag} {e : Expr} {f : Str} {pos : Pos} {ta : TE} (hK : X.K = K) (he : PE X e ta) (hb : attributeBase e f X.env (eval e X.env) = eval e X.env) : PE X (.Attribute e f pos) (tFld K ta f) := by
  subst hK
  exact pe_fld he hb
section
open TL
def outV : Ps8 → List V
  | .err (.line p) => [.str "line", .int (p : Int)]
  | .err (.pos p) => [.str "position", .int (p : Int)]
  | .err (.unk x) => [.str "unknown", .str x]
  | .err .big => [.str "large"]
  | .done _ _ _ fs gs n => [.str "spec", .int (fs.length : Int), .int (gs.length : Int), .bl n]
def spOut8 : Sp := fun vs H Q _ => ∃ (t : Str) (ls : List Str) (rest : Str) (Rf : List Str → Str → Res), vs = [.str t] ∧ TxOk Rf t ls rest ∧ ∀ (H' : Hp) (r : Addr), Same H H' → H' r = some (.tup (outV (psE Rf ls rest))) → Q (.ref r) H'
theorem cal_out8 (T : Txt K mg w P) : C8.Cal P w K mg base 50 "_law_outcome" spOut8 [] := by
  obtain ⟨cT, cD, fD, cU, fU, cF, fF, cL, fL, fdD, fdU, fdF, fdL, eT, ID, XFD, nD, IU, XFU, nU, IF, XFF, nF, IL, XFL, nL, mLL, mFL, mFF, mUL, mUF, mUU, mTL, mTF, mTU⟩ := T.er.2.2.2.2.2.2.2.2.2
  obtain ⟨u0, u1, u2, u3, u4, u5, u6, u7, u8, u9, gLL, gGL, gMN, gPC, gDP, gAS, gGU, gNG, gFP, gMP⟩ := gloC T
  obtain ⟨C, cS, S⟩ := sk (P := P) (w := w) (base := base) T
  have X_parse_spec : CalX P w K mg base 48 "parse_spec" (spPs K C cL cT cU cF) := cal_ps T S ⟨IL, nL, ⟨_, gPC⟩⟩ eT ID nD IU nU ⟨IF, nF, ⟨_, gPC⟩⟩
  obtain ⟨PC, MS, gSP, hIC⟩ := S
  obtain ⟨f, fd, F, hm, hb⟩ := T.h_law_outcome
  refine ⟨f, fd, _, [], F.ok sc_law_outcome (fun vs H Q E h => ?_) (fun cdv A outer s H vs Q E hr h => ?_), hm, F.kp, hb, .nil⟩
  · obtain ⟨t, ls, rest, Rf, rfl, _⟩ := h
    rfl
  · obtain ⟨t, ls, rest, Rf, rfl, hT, q⟩ := h
    refine ⟨_, (pss_one
      (Tm2.ps_try_al (i := 2) rfl rfl sc_law_outcome.nd rfl rfl takes0 (fun W pn xe tk _ => (pss_cons (ps_set (i := 1) sc_law_outcome.nd rfl (Or.inl rfl) (pe_cx X_parse_spec hr (by decide) tk (by rfl) (pa_cons (pv 0) pa_nil))) (pss_one
      (ps_ret (pe_tup (pa_cons pe_str (pa_cons (pe_callB (call_lenK (K := K) rfl) (by rfl) T.z_len PySem.boot_len (pa_cons (pe_fldK (K := K) rfl (pv 1) (by rfl)) pa_nil)) (pa_cons (pe_callB (call_lenK (K := K) rfl) (by rfl) T.z_len PySem.boot_len (pa_cons (pe_fldK (K := K) rfl (pv 1) (by rfl)) pa_nil)) (pa_cons (pe_fldK (K := K) rfl (pv 1) (by rfl)) pa_nil))))))))) (Tm2.Hd.more ⟨rfl, by decide, .inl IL.gC⟩ (fun a oe cls d pn hz hf => (pss_one (ps_ret (pe_tup (pa_cons pe_str (pa_cons (pe_xf XFL nL hz hf (pv 2)) pa_nil)))))) (Tm2.Hd.more ⟨rfl, by decide, .inl IF.gC⟩ (fun a oe cls d pn hz hf => (pss_one (ps_ret (pe_tup (pa_cons pe_str (pa_cons (pe_xf XFF nF hz hf (pv 2)) pa_nil)))))) (Tm2.Hd.more ⟨rfl, by decide, .inl IU.gC⟩ (fun a oe cls d pn hz hf => (pss_one (ps_ret (pe_tup (pa_cons pe_str (pa_cons (pe_xf XFU nU hz hf (pv 2)) pa_nil)))))) (Tm2.Hd.bare ⟨rfl, by decide, .inl eT.g⟩ (fun a oe cls d pn hz hf => (pss_one
      (ps_ret (pe_tup (pa_cons pe_str pa_nil))))) Tm2.Hd.nil)))))), ?_⟩
    refine ⟨_, rfl, t, ls, rest, Rf, rfl, hT, fun e he => ?_, fun ins outs L fs gs n he H' x as us s' hx la lu => ?_⟩
    · rw [he] at q
      cases e with
      | line p =>
        intro H' d s' hd
        refine ⟨true, mLL, fun _ a ha => ?_, fun z => by (cases z)⟩
        exact ⟨_, rfl, rfl, rfl, d, [("line", .int (p : Int))], .int (p : Int), rfl, hd, rfl, sz2, fun r nr => q _ r (s'.trans (same_new nr)) upd_same⟩
      | pos p =>
        intro H' d s' hd
        refine ⟨false, mFL, fun z => by (cases z), fun _ => ⟨true, mFF, fun _ a ha => ?_, fun z => by (cases z)⟩⟩
        exact ⟨_, rfl, rfl, rfl, d, [("position", .int (p : Int))], .int (p : Int), rfl, hd, rfl, sz2, fun r nr => q _ r (s'.trans (same_new nr)) upd_same⟩
      | unk x =>
        intro H' d s' hd
        refine ⟨false, mUL, fun z => by (cases z), fun _ => ⟨false, mUF, fun z => by (cases z), fun _ => ⟨true, mUU, fun _ a ha => ?_, fun z => by (cases z)⟩⟩⟩
        exact ⟨_, rfl, rfl, rfl, d, [("name", .str x)], .str x, rfl, hd, rfl, sz2, fun r nr => q _ r (s'.trans (same_new nr)) upd_same⟩
      | big =>
        intro H' s'
        refine ⟨false, mTL, fun z => by (cases z), fun _ => ⟨false, mTF, fun z => by (cases z), fun _ => ⟨false, mTU, fun z => by (cases z), fun _ => ⟨true, eT.me, fun _ a ha => ?_, fun z => by (cases z)⟩⟩⟩⟩
        exact ⟨by decide, fun r nr => q _ r (s'.trans (same_new nr)) upd_same⟩
    · rw [he] at q
      obtain ⟨dx, i, o, a, g, h1, h2, h3, h4, h5⟩ := hx
      refine ⟨_, rfl, x, C, dx, _, _, rfl, h1, PC.cl, PC.na, Spx.sl_a _ _ _ _ _ _, a, _, rfl, .inr (.of h4), ?_⟩
      refine ⟨_, rfl, x, C, dx, _, _, rfl, h1, PC.cl, PC.ng, Spx.sl_g _ _ _ _ _ _, g, _, rfl, .inr (.of h5), ?_⟩
      refine ⟨_, rfl, x, C, dx, _, _, rfl, h1, PC.cl, PC.nn, Spx.sl_n _ _ _ _ _ _, by show 4 ≤ sizeLine; decide, fun r nr => ?_⟩
      rw [la, lu]
      exact q _ r (s'.trans (same_new nr)) upd_same
end
theorem cal_leaf (T : Txt K mg w P) : C8.Cal P w K mg base 2 "_law_leaf" (spLeaf K) [] := by
  have C_law_take : C8.Cal P w K mg base 1 "_law_take" spTake [] := cal_take T
  obtain ⟨f, fd, F, hm, hb⟩ := T.h_law_leaf
  refine ⟨f, fd, _, [], F.ok sc_law_leaf (fun vs H Q E h => ?_) (fun cdv A outer s H vs Q E hr h => ?_), hm, F.kp, hb, .nil⟩
  · obtain ⟨d, n, nm, rfl, _⟩ := h
    rfl
  · obtain ⟨d, n, nm, rfl, hd, hnd, hn, hl, q⟩ := h
    refine ⟨_, (pss_cons
      (ps_set (i := 2) sc_law_leaf.nd rfl (Or.inl rfl) (C8.pe_c C_law_take hr (by decide) (by rfl) (pa_cons (pv 0) (pa_cons pe_int pa_nil))))
      (pss_cons
      (ps_if (PW.pt (pw_or (pt_cmpR op_eq (pe_callB (call_lenK (K := K) rfl) (by rfl) T.z_len PySem.boot_len (pa_cons (pv 1) pa_nil)) pe_int (nomark _)) (pw_or1 (pt_cmpR op_eq (pv 2) pe_int (nomark _))))) (pss_one
      (ps_ret (pe_tup (pa_cons (pe_ix (ix_listK (K := K) rfl) (pe_lst (pa_cons pe_str (pa_cons pe_str pa_nil))) (pe_op op_mod (pv 2) pe_int) (fun _ _ => rfl)) pa_nil)))) pss_nil)
      (pss_one
      (ps_ret (pe_tup (pa_cons pe_str (pa_cons (pe_ix (ix_listK (K := K) rfl) (pv 1) (C8.pe_c C_law_take hr (by decide) (by rfl) (pa_cons (pv 0) (pa_cons (pe_callB (call_lenK (K := K) rfl) (by rfl) T.z_len PySem.boot_len (pa_cons (pv 1) pa_nil)) pa_nil))) (fun _ _ => rfl)) pa_nil))))))), ?_⟩
    refine ⟨_, rfl, d, _, rfl, hd, by decide, fun r ds r0 r1 => ?_⟩
    have k1 : Kp d H (upd H d (.lst (ds.map V.int))) := Kp.own
    have d1 : Drw (upd H d (.lst (ds.map V.int))) d := Drw.own
    have hn1 := k1 _ _ hnd hn
    generalize upd H d (.lst (ds.map V.int)) = H1 at k1 d1 hn1 ⊢
    have lit : ∀ (Q2 : VK), (∀ (H' : Hp) (v : V) (f : Fm), Kp d H H' → Drw H' d → FmAt K H' v f → Wo nm f → sz f ≤ 1 → Q2 v H') → ∀ t, H1 t = none → ∃ p xs i v, V.ref t = V.ref p ∧ V.int (r % 2) = V.int i ∧ SqL K (upd H1 t (.lst [.str "true", .str "false"])) p xs ∧ atI xs i = some v ∧
        ([v].length ≤ sizeLine ∧ ∀ t2, (upd H1 t (.lst [.str "true", .str "false"])) t2 = none → Q2 (.ref t2) (upd (upd H1 t (.lst [.str "true", .str "false"])) t2 (.tup [v]))) := fun Q2 q2 t ht => by
      obtain ⟨z, hz, ha⟩ := pick_at (ss := ["true", "false"]) (i := r % 2) (Int.emod_nonneg _ (by decide)) (Int.emod_lt_of_pos _ (by decide))
      refine ⟨t, _, _, .str z, rfl, rfl, .of upd_same, ha, by show 1 ≤ sizeLine; decide, fun t2 ht2 => ?_⟩
      exact q2 _ _ (.c0 z) (k1.trans ((Kp.new ht).trans (Kp.new ht2))) ((d1.new ht).new ht2) ⟨t2, rfl, .of upd_same⟩ (show z = "true" ∨ z = "false" by simpa using hz) (Nat.le_refl _)
    refine ⟨_, rfl, n, _, rfl, .inl (.of hn1), rfl, _, rfl, ite_eq (fun c => ?_) (fun c => ⟨_, rfl, rfl, _, rfl, ite_eq (fun c2 => ?_) (fun c2 => ?_)⟩)⟩
    · exact ⟨by show 2 ≤ sizeLine; decide, fun t ht => ⟨_, rfl, _, _, rfl, rfl, by show (0 : Int) < 2; decide, lit Q q t ht⟩⟩
    · exact ⟨by show 2 ≤ sizeLine; decide, fun t ht => ⟨_, rfl, _, _, rfl, rfl, by show (0 : Int) < 2; decide, lit Q q t ht⟩⟩
    · rw [List.length_map] at c
      refine ⟨_, rfl, _, rfl, _, rfl, n, _, rfl, .inl (.of hn1), d, _, rfl, d1, by rw [List.length_map]; omega, fun u us u0 u1 => ?_⟩
      rw [List.length_map] at u1
      have k2 : Kp d H1 (upd H1 d (.lst (us.map V.int))) := Kp.own
      have d2 : Drw (upd H1 d (.lst (us.map V.int))) d := Drw.own
      have hn2 := k2 _ _ hnd hn1
      generalize upd H1 d (.lst (us.map V.int)) = H2 at k2 d2 hn2 ⊢
      obtain ⟨z, hz, ha⟩ := pick_at (ss := nm) u0 u1
      refine ⟨n, _, _, .str z, rfl, rfl, .of hn2, ha, by show 2 ≤ sizeLine; decide, fun t ht => ?_⟩
      exact q _ _ (.sg z) (k1.trans (k2.trans (Kp.new ht))) (d2.new ht) ⟨t, rfl, .of upd_same⟩ hz (Nat.le_refl _)
theorem str_ite {k x : Str} {A B : Prop} (h1 : k = x → A) (h2 : k ≠ x → B) : if decide (V.str k = V.str x) = true then A else B := by
  by_cases c : k = x
  · rw [if_pos (by rw [c]; exact decide_eq_true rfl)]
    exact h1 c
  · rw [if_neg (by rw [decide_eq_false (fun z => c (V.str.inj z))]; exact Bool.false_ne_true)]
    exact h2 c
abbrev L7 : List Str := ["next", "eventually", "always", "previous", "weak_previous", "once", "historically"]
abbrev M7 : List Str := ["until", "release", "since", "trigger", "weak_until", "until", "since"]
abbrev L4 : List Str := ["and", "or", "implies", "iff"]
theorem l7_un : ∀ s, s ∈ L7 → s ∈ unOps := by decide
theorem m7_bin : ∀ s, s ∈ M7 → s ∈ binOps := by decide
theorem l4_bin : ∀ s, s ∈ L4 → s ∈ binOps := by decide
/-! how often signs of a kind occur -/
def cnt (ks : List Str) : Fm → Nat
  | .c0 k => if k ∈ ks then 1 else 0
  | .sg _ => if sSig ∈ ks then 1 else 0
  | .un k f => (if k ∈ ks then 1 else 0) + cnt ks f
  | .bin k f g => (if k ∈ ks then 1 else 0) + cnt ks f + cnt ks g
theorem cntK_cons (ks : List Str) (g : Fm) (l : List Fm) : cntK ks (g :: l) = (if kd g ∈ ks then 1 else 0) + cntK ks l := by
  unfold cntK
  by_cases c : kd g ∈ ks
  · rw [List.filter_cons_of_pos (by simpa using c), List.length_cons, if_pos c, Nat.add_comm]
  · rw [List.filter_cons_of_neg (by simpa using c), if_neg c, Nat.zero_add]
theorem cntK_app (ks : List Str) (a b : List Fm) : cntK ks (a ++ b) = cntK ks a + cntK ks b := by
  unfold cntK
  rw [List.filter_append, List.length_append]
theorem cntK_pre (ks : List Str) : ∀ f : Fm, cntK ks (pre f) = cnt ks f
  | .c0 k => by
    show cntK ks [.c0 k] = _
    rw [cntK_cons]
    rfl
  | .sg s => by
    show cntK ks [.sg s] = _
    rw [cntK_cons]
    rfl
  | .un k f => by
    show cntK ks (.un k f :: pre f) = _
    rw [cntK_cons, cntK_pre ks f]
    rfl
  | .bin k f g => by
    show cntK ks (.bin k f g :: (pre f ++ pre g)) = _
    rw [cntK_cons, cntK_app, cntK_pre ks f, cntK_pre ks g, ← Nat.add_assoc]
    rfl
def dblK : List Str := ["iff", "weak_until"]
def Dd : Nat → Nat
  | 0 => 0
  | 1 => 0
  | n + 2 => 1 + 2 * Dd (n + 1)
theorem dd_le (n : Nat) : Dd n ≤ Dd (n + 1) := by
  cases n with
  | zero => exact Nat.zero_le _
  | succ n => show Dd (n + 1) ≤ 1 + 2 * Dd (n + 1); omega
/-- within the budget -/
def Bg (f : Fm) (b : Int) (dp : Nat) : Prop := (cnt tpK f : Int) ≤ b ∧ cnt dblK f ≤ Dd dp
theorem leaf_k : ∀ k ∈ (["true", "false", "signal"] : List Str), k ∉ tpK ∧ k ∉ dblK := by decide +kernel
theorem bg_leaf {nm : List Str} {f : Fm} {b : Int} {n : Nat} (h : Wo nm f) (hz : sz f ≤ 1) (hb : 0 ≤ b) : Bg f b n := by
  cases f with
  | c0 k =>
    have hk : k ∈ (["true", "false", "signal"] : List Str) := by
      have h : k = "true" ∨ k = "false" := h
      rcases h with h | h
      · rw [h]; simp
      · rw [h]; simp
    obtain ⟨h1, h2⟩ := leaf_k k hk
    unfold Bg cnt
    rw [if_neg h1, if_neg h2]
    exact ⟨hb, Nat.zero_le _⟩
  | sg s =>
    obtain ⟨h1, h2⟩ := leaf_k sSig (by simp)
    unfold Bg cnt
    rw [if_neg h1, if_neg h2]
    exact ⟨hb, Nat.zero_le _⟩
  | un k f =>
    have := sz_pos f
    have hz : sz f + 1 ≤ 1 := hz
    omega
  | bin k f g =>
    have := sz_pos f
    have hz : sz f + sz g + 1 ≤ 1 := hz
    omega
theorem un_db : ∀ s ∈ unOps, s ∉ dblK := by decide +kernel
theorem bg_un {s : Str} {g : Fm} {b b2 : Int} {n : Nat} (hs : s ∈ unOps) (h : Bg g b2 n) (hle : (if s ∈ tpK then 1 else 0) + b2 ≤ b) : Bg (.un s g) b (n + 1) := by
  have hd := dd_le n
  have h1 := h.1
  have h2 := h.2
  refine ⟨?_, ?_⟩
  · show (((if s ∈ tpK then 1 else 0) + cnt tpK g : Nat) : Int) ≤ b
    split at hle <;> rename_i c <;> simp only [c, if_true, if_false] <;> omega
  · show (if s ∈ dblK then 1 else 0) + cnt dblK g ≤ _
    rw [if_neg (un_db s hs)]
    omega
theorem bg_bin {s : Str} {g g2 : Fm} {b b1 b2 : Int} {n : Nat} (h : Bg g b1 n) (h' : Bg g2 b2 n) (hle : (if s ∈ tpK then 1 else 0) + b1 + b2 ≤ b) (hdb : n = 0 → s ∉ dblK) : Bg (.bin s g g2) b (n + 1) := by
  have h1 := h.1
  have h2 := h.2
  have h3 := h'.1
  have h4 := h'.2
  refine ⟨?_, ?_⟩
  · show (((if s ∈ tpK then 1 else 0) + cnt tpK g + cnt tpK g2 : Nat) : Int) ≤ b
    split at hle <;> rename_i c <;> simp only [c, if_true, if_false] <;> omega
  · show (if s ∈ dblK then 1 else 0) + cnt dblK g + cnt dblK g2 ≤ _
    cases n with
    | zero =>
      rw [if_neg (hdb rfl)]
      show 0 + cnt dblK g + cnt dblK g2 ≤ 0
      have : Dd 0 = 0 := rfl
      omega
    | succ n =>
      show _ ≤ 1 + 2 * Dd (n + 1)
      split <;> omega
def spForm (K : PySem.W.Frag) : Nat → Sp
  | 0 => fun _ _ _ _ => False
  | dp + 1 => fun vs H Q _ => ∃ (d n : Addr) (nm : List Str) (b : Int), vs = [.ref d, .ref n, .int b, .int (dp : Int)] ∧ Drw H d ∧ n ≠ d ∧ H n = some (.lst (nm.map V.str)) ∧ nm.length ≤ 30 ∧ 0 ≤ b ∧ b ≤ 1000 ∧
    ∀ (H' : Hp) (v : V) (f : Fm), Kp d H H' → Drw H' d → FmAt K H' v f → Wo nm f → Szd f dp → Bg f b dp → Q v H'
theorem l7_tp : ∀ s, s ∈ L7 → s ∈ tpK := by decide +kernel
theorem not_tp : (Str.ofString "not") ∉ tpK := by decide +kernel
theorem m7_tp : ∀ s, s ∈ M7 → s ∈ tpK := by decide +kernel
theorem m7_db : ∀ s, s ∈ M7 → s ≠ "weak_until" → s ∉ dblK := by decide +kernel
theorem l4_tp : ∀ s, s ∈ L4 → s ∉ tpK := by decide +kernel
theorem l4_db : ∀ s, s ∈ L4 → s ≠ "iff" → s ∉ dblK := by decide +kernel
theorem two_pow_pos' (n : Nat) : 1 ≤ 2 ^ n := Nat.one_le_two_pow
theorem cal_form_step {n : Nat} (T : Txt K mg w P) (C_law_formula : C8.Cal P w K mg base (2 + n) "_law_formula" (spForm K n) []) : C8.Cal P w K mg base (2 + n + 1) "_law_formula" (spForm K (n + 1)) [] := by
  have C_law_take : C8.Cal P w K mg base 1 "_law_take" spTake [] := cal_take T
  have C_law_leaf : C8.Cal P w K mg base 2 "_law_leaf" (spLeaf K) [] := cal_leaf T
  obtain ⟨f, fd, F, hm, hb⟩ := T.h_law_formula
  refine ⟨f, fd, _, [], F.ok sc_law_formula (fun vs H Q E h => ?_) (fun cdv A outer s H vs Q E hr h => ?_), hm, F.kp, hb, .nil⟩
  · obtain ⟨d, n, nm, b, rfl, _⟩ := h
    rfl
  · obtain ⟨d, na, nm, b, rfl, hd, hnd, hn, hl, hb0, hb1, q⟩ := h
    refine ⟨_, (pss_cons
      (ps_set (i := 4) sc_law_formula.nd rfl (Or.inl rfl) (C8.pe_c C_law_take hr (by omega) (by rfl) (pa_cons (pv 0) (pa_cons pe_int pa_nil))))
      (pss_cons
      (ps_if (PW.pt (pw_or (pt_cmpR op_eq (pv 3) pe_int (nomark _)) (pw_or1 (pt_cmpR op_lt (pv 4) pe_int (nomark _))))) (pss_one
      (ps_ret (C8.pe_c C_law_leaf hr (by omega) (by rfl) (pa_cons (pv 0) (pa_cons (pv 1) pa_nil))))) pss_nil)
      (C8.pss_cut
      (ps_if (PW.pt (pw_and (pt_cmpR op_gt (pv 2) pe_int (nomark _)) (pw_and1 (pt_cmpR op_lt (pv 4) pe_int (nomark _))))) (pss_cons
      (ps_set (i := 5) sc_law_formula.nd rfl (Or.inl rfl) (pe_lst (pa_cons pe_str (pa_cons pe_str (pa_cons pe_str (pa_cons pe_str (pa_cons pe_str (pa_cons pe_str (pa_cons pe_str pa_nil)))))))))
      (pss_cons
      (ps_if (pt_cmpR op_lt (pv 4) pe_int (nomark _)) (pss_one
      (ps_ret (pe_tup (pa_cons (pe_ix (ix_listK (K := K) rfl) (pv 5) (pe_op op_sub (pv 4) pe_int) (fun _ _ => rfl)) (pa_cons (C8.pe_c C_law_formula hr (by omega) (by rfl) (pa_cons (pv 0) (pa_cons (pv 1) (pa_cons (pe_op op_sub (pv 2) pe_int) (pa_cons (pe_op op_sub (pv 3) pe_int) pa_nil))))) pa_nil))))) pss_nil)
      (pss_cons
      (ps_set (i := 6) sc_law_formula.nd rfl (Or.inl rfl) (pe_ix (ix_listK (K := K) rfl) (pe_lst (pa_cons pe_str (pa_cons pe_str (pa_cons pe_str (pa_cons pe_str (pa_cons pe_str (pa_cons pe_str (pa_cons pe_str pa_nil)))))))) (pe_op op_sub (pv 4) pe_int) (fun _ _ => rfl)))
      (C8.pss_cut
      (ps_if (PW.pt (pw_and (pt_cmpR op_eq (pv 3) pe_int (nomark _)) (pw_and1 (pt_cmpR op_eq (pv 6) pe_str (nomark _))))) (pss_one
      (ps_set (i := 6) sc_law_formula.nd rfl (Or.inl rfl) pe_str)) pss_nil)
      (pss_cons
      (ps_set (i := 7) sc_law_formula.nd rfl (Or.inl rfl) (C8.pe_c C_law_take hr (by omega) (by rfl) (pa_cons (pv 0) (pa_cons (pv 2) pa_nil))))
      (pss_cons
      (ps_set (i := 8) sc_law_formula.nd rfl (Or.inl rfl) (C8.pe_c C_law_formula hr (by omega) (by rfl) (pa_cons (pv 0) (pa_cons (pv 1) (pa_cons (pv 7) (pa_cons (pe_op op_sub (pv 3) pe_int) pa_nil))))))
      (pss_one
      (ps_ret (pe_tup (pa_cons (pv 6) (pa_cons (pv 8) (pa_cons (C8.pe_c C_law_formula hr (by omega) (by rfl) (pa_cons (pv 0) (pa_cons (pv 1) (pa_cons (pe_op op_sub (pe_op op_sub (pv 2) pe_int) (pv 7)) (pa_cons (pe_op op_sub (pv 3) pe_int) pa_nil))))) pa_nil)))))))))))) pss_nil)
      (pss_cons
      (ps_if (pt_cmpR op_eq (pe_op op_mod (pv 4) pe_int) pe_int (nomark _)) (pss_one
      (ps_ret (pe_tup (pa_cons pe_str (pa_cons (C8.pe_c C_law_formula hr (by omega) (by rfl) (pa_cons (pv 0) (pa_cons (pv 1) (pa_cons (pv 2) (pa_cons (pe_op op_sub (pv 3) pe_int) pa_nil))))) pa_nil))))) pss_nil)
      (pss_cons
      (ps_set (i := 6) sc_law_formula.nd rfl (Or.inl rfl) (pe_ix (ix_listK (K := K) rfl) (pe_lst (pa_cons pe_str (pa_cons pe_str (pa_cons pe_str (pa_cons pe_str pa_nil))))) (pe_op op_mod (pv 4) pe_int) (fun _ _ => rfl)))
      (C8.pss_cut
      (ps_if (PW.pt (pw_and (pt_cmpR op_eq (pv 3) pe_int (nomark _)) (pw_and1 (pt_cmpR op_eq (pv 6) pe_str (nomark _))))) (pss_one
      (ps_set (i := 6) sc_law_formula.nd rfl (Or.inl rfl) pe_str)) pss_nil)
      (pss_cons
      (ps_set (i := 7) sc_law_formula.nd rfl (Or.inl rfl) (C8.pe_c C_law_take hr (by omega) (by rfl) (pa_cons (pv 0) (pa_cons (pe_op op_add (pv 2) pe_int) pa_nil))))
      (pss_cons
      (ps_set (i := 8) sc_law_formula.nd rfl (Or.inl rfl) (C8.pe_c C_law_formula hr (by omega) (by rfl) (pa_cons (pv 0) (pa_cons (pv 1) (pa_cons (pv 7) (pa_cons (pe_op op_sub (pv 3) pe_int) pa_nil))))))
      (pss_one
      (ps_ret (pe_tup (pa_cons (pv 6) (pa_cons (pv 8) (pa_cons (C8.pe_c C_law_formula hr (by omega) (by rfl) (pa_cons (pv 0) (pa_cons (pv 1) (pa_cons (pe_op op_sub (pv 2) (pv 7)) (pa_cons (pe_op op_sub (pv 3) pe_int) pa_nil))))) pa_nil)))))))))))))), ?_⟩
    refine ⟨_, rfl, d, _, rfl, hd, by decide, fun r ds r0 r1 => ?_⟩
    have k1 : Kp d H (upd H d (.lst (ds.map V.int))) := Kp.own
    have d1 : Drw (upd H d (.lst (ds.map V.int))) d := Drw.own
    have hn1 := k1 _ _ hnd hn
    generalize upd H d (.lst (ds.map V.int)) = H1 at k1 d1 hn1 ⊢
    have leaf : tRet (tCall (spLeaf K) [] C8.E0 (tCons (tVar 0) (tCons (tVar 1) tNil))) { nx := fun _ _ => True, rt := Q } [some (.ref d), some (.ref na), some (.int b), some (.int (n : Int)), some (.int r), none, none, none, none] H1 := by
      refine ⟨_, rfl, _, rfl, d, na, nm, rfl, d1, hnd, hn1, hl, fun H2 v g k2 d2 g2 w2 z2 => q H2 v g (k1.trans k2) d2 g2 w2 (szd_leaf z2 n) (bg_leaf w2 z2 hb0)⟩
    refine ⟨_, rfl, rfl, _, rfl, ite_eq (fun _ => leaf) (fun cn => ⟨_, rfl, _, _, rfl, rfl, _, rfl, ite_lt (fun _ => leaf) (fun c3 => ?_)⟩)⟩
    clear leaf
    obtain ⟨n', rfl⟩ : ∃ n', n = n' + 1 := ⟨n - 1, by omega⟩
    have hdp : (((n' + 1 : Nat) : Int) - 1) = (n' : Int) := by omega
    have rcl : ∀ (H2 : Hp) (b2 : Int) (Q2 : VK) (E2 : XK), Kp d H H2 → Drw H2 d → 0 ≤ b2 → b2 ≤ 1000 → (∀ (H' : Hp) (v : V) (g : Fm), Kp d H2 H' → Drw H' d → FmAt K H' v g → Wo nm g → Szd g n' → Bg g b2 n' → Q2 v H') → spForm K (n' + 1) [.ref d, .ref na, .int b2, .int (((n' + 1 : Nat) : Int) - 1)] H2 Q2 E2 := fun H2 b2 Q2 E2 k2 d2 z0 z1 q2 =>
      ⟨d, na, nm, b2, by rw [hdp], d2, hnd, k2 _ _ hnd hn, hl, z0, z1, q2⟩
    have fin1 : ∀ (H2 H3 : Hp) (s : Str) (v : V) (g : Fm) (b2 : Int), Kp d H H2 → Drw H2 d → s ∈ unOps → FmAt K H2 v g → Wo nm g → Szd g n' → Bg g b2 n' → (if s ∈ tpK then 1 else 0) + b2 ≤ b → ∀ t, H2 t = none → Q (.ref t) (upd H2 t (.tup [.str s, v])) := fun H2 H3 s v g b2 k2 d2 hs hg hw hz hy hle t ht =>
      q _ _ (.un s g) (k2.trans (Kp.new ht)) (d2.new ht) ⟨t, v, rfl, .of upd_same, hg.same (same_new ht)⟩ ⟨hs, hw⟩ (szd_un s hz) (bg_un hs hy hle)
    have fin2 : ∀ (H2 : Hp) (s : Str) (v u : V) (g g2 : Fm) (b1 b2 : Int), Kp d H H2 → Drw H2 d → s ∈ binOps → FmAt K H2 v g → Wo nm g → Szd g n' → Bg g b1 n' → FmAt K H2 u g2 → Wo nm g2 → Szd g2 n' → Bg g2 b2 n' → (if s ∈ tpK then 1 else 0) + b1 + b2 ≤ b → (n' = 0 → s ∉ dblK) → ∀ t, H2 t = none → Q (.ref t) (upd H2 t (.tup [.str s, v, u])) := fun H2 s v u g g2 b1 b2 k2 d2 hs hg hw hz hy hg2 hw2 hz2 hy2 hle hdb t ht =>
      q _ _ (.bin s g g2) (k2.trans (Kp.new ht)) (d2.new ht) ⟨t, v, u, rfl, .of upd_same, hg.same (same_new ht), hg2.same (same_new ht)⟩ ⟨hs, hw, hw2⟩ (szd_bin s hz hz2) (bg_bin hy hy2 hle hdb)
    refine ⟨fun σ H' => σ = [some (.ref d), some (.ref na), some (.int b), some (.int ((n' + 1 : Nat) : Int)), some (.int r), none, none, none, none] ∧ H1 = H', ?_, ?_⟩
    · refine ⟨_, rfl, _, _, rfl, rfl, _, rfl, ite_lt (fun c1 => ⟨_, rfl, _, _, rfl, rfl, _, rfl, ite_lt (fun c2 => ?_) (fun _ => ⟨rfl, rfl⟩)⟩) (fun _ => ⟨rfl, rfl⟩)⟩
      refine ⟨by show 7 ≤ sizeLine; decide, fun t1 n1 => ?_⟩
      have k2 := k1.trans (Kp.new (o := .lst (L7.map V.str)) n1)
      have d2 := d1.new (o := .lst (L7.map V.str)) n1
      refine ⟨_, rfl, _, _, rfl, rfl, _, rfl, ite_lt (fun c4 => ?_) (fun c4 => ?_)⟩
      · obtain ⟨s, hs, ha⟩ := pick_at (ss := L7) (i := r - 3) (by omega) (by show r - 3 < 7; omega)
        refine ⟨_, rfl, _, rfl, _, _, rfl, rfl, t1, _, _, .str s, rfl, rfl, .of upd_same, ha, ?_⟩
        refine ⟨_, rfl, _, rfl, _, rfl, _, _, rfl, rfl, _, rfl, _, _, rfl, rfl, rcl _ _ _ C8.E0 k2 d2 (by omega) (by omega) fun H3 v g k3 d3 g3 w3 z3 y3 => ?_⟩
        exact ⟨by show 2 ≤ sizeLine; decide, fun t ht => fin1 _ H3 s v g _ (k2.trans k3) d3 (l7_un s hs) g3 w3 z3 y3 (by rw [if_pos (l7_tp s hs)]; omega) t ht⟩
      · obtain ⟨s, hs, ha⟩ := pick_at (ss := M7) (i := r - 10) (by omega) (by show r - 10 < 7; omega)
        refine ⟨by show 7 ≤ sizeLine; decide, fun t2 n2 => ?_⟩
        have k3 := k2.trans (Kp.new (o := .lst (M7.map V.str)) n2)
        have d3 := d2.new (o := .lst (M7.map V.str)) n2
        refine ⟨_, rfl, _, _, rfl, rfl, t2, _, _, .str s, rfl, rfl, .of upd_same, ha, ?_⟩
        refine ⟨fun σ H' => ∃ s' : Str, s' ∈ binOps ∧ s' ∈ tpK ∧ (n' = 0 → s' ∉ dblK) ∧ σ = [some (.ref d), some (.ref na), some (.int b), some (.int ((n' + 1 : Nat) : Int)), some (.int r), some (.ref t1), some (.str s'), none, none] ∧ Kp d H H' ∧ Drw H' d, ?_, ?_⟩
        · refine ⟨_, rfl, rfl, _, rfl, ite_eq (fun _ => ⟨_, rfl, rfl, _, rfl, str_ite (fun _ => ?_) (fun hne => ?_)⟩) (fun hn1 => ?_)⟩
          · exact ⟨_, by decide, by decide, fun _ => by decide, rfl, k3, d3⟩
          · exact ⟨s, m7_bin s hs, m7_tp s hs, fun _ => m7_db s hs hne, rfl, k3, d3⟩
          · exact ⟨s, m7_bin s hs, m7_tp s hs, fun z => absurd (by rw [z]; rfl) hn1, rfl, k3, d3⟩
        · rintro σ H4 ⟨s', hs', htp, hdb, rfl, k4, d4⟩
          refine ⟨_, rfl, _, rfl, d, _, rfl, d4, c1, fun u us u0 u1 => ?_⟩
          have k5 : Kp d H (upd H4 d (.lst (us.map V.int))) := k4.trans Kp.own
          have d5 : Drw (upd H4 d (.lst (us.map V.int))) d := Drw.own
          generalize upd H4 d (.lst (us.map V.int)) = H5 at k5 d5 ⊢
          refine ⟨_, rfl, _, rfl, _, rfl, _, rfl, _, _, rfl, rfl, rcl _ _ _ C8.E0 k5 d5 (by omega) (by omega) fun H6 v g k6 d6 g6 w6 z6 y6 => ?_⟩
          refine ⟨_, rfl, _, rfl, _, rfl, _, rfl, _, rfl, _, _, rfl, rfl, _, rfl, _, _, rfl, rfl, _, rfl, _, _, rfl, rfl, rcl _ _ _ C8.E0 (k5.trans k6) d6 (by omega) (by omega) fun H7 v2 g2 k7 d7 g7 w7 z7 y7 => ?_⟩
          obtain ⟨ys, hys⟩ := d6
          exact ⟨by show 3 ≤ sizeLine; decide, fun t ht => fin2 H7 s' v v2 g g2 _ _ ((k5.trans k6).trans k7) d7 hs' (g6.kp hys k7) w6 z6 y6 g7 w7 z7 y7 (by rw [if_pos htp]; omega) hdb t ht⟩
    · rintro σ H' ⟨rfl, rfl⟩
      refine ⟨_, rfl, _, _, rfl, rfl, by show (0 : Int) < 5; decide, rfl, _, rfl, ite_eq (fun _ => ?_) (fun _ => ?_)⟩
      · refine ⟨_, rfl, _, rfl, _, rfl, _, rfl, _, _, rfl, rfl, rcl _ _ _ C8.E0 k1 d1 hb0 hb1 fun H3 v g k3 d3 g3 w3 z3 y3 => ?_⟩
        exact ⟨by show 2 ≤ sizeLine; decide, fun t ht => fin1 _ H3 _ v g _ (k1.trans k3) d3 (by decide) g3 w3 z3 y3 (by rw [if_neg not_tp]; omega) t ht⟩
      · obtain ⟨s, hs, ha⟩ := pick_at (ss := L4) (i := r % 4) (Int.emod_nonneg _ (by decide)) (Int.emod_lt_of_pos _ (by decide))
        refine ⟨by show 4 ≤ sizeLine; decide, fun t2 n2 => ?_⟩
        have k3 := k1.trans (Kp.new (o := .lst (L4.map V.str)) n2)
        have d3 := d1.new (o := .lst (L4.map V.str)) n2
        refine ⟨_, rfl, _, _, rfl, rfl, by show (0 : Int) < 4; decide, t2, _, _, .str s, rfl, rfl, .of upd_same, ha, ?_⟩
        refine ⟨fun σ H' => ∃ s' : Str, s' ∈ binOps ∧ s' ∉ tpK ∧ (n' = 0 → s' ∉ dblK) ∧ σ = [some (.ref d), some (.ref na), some (.int b), some (.int ((n' + 1 : Nat) : Int)), some (.int r), none, some (.str s'), none, none] ∧ Kp d H H' ∧ Drw H' d, ?_, ?_⟩
        · refine ⟨_, rfl, rfl, _, rfl, ite_eq (fun _ => ⟨_, rfl, rfl, _, rfl, str_ite (fun _ => ?_) (fun hne => ?_)⟩) (fun hn1 => ?_)⟩
          · exact ⟨_, by decide, by decide, fun _ => by decide, rfl, k3, d3⟩
          · exact ⟨s, l4_bin s hs, l4_tp s hs, fun _ => l4_db s hs hne, rfl, k3, d3⟩
          · exact ⟨s, l4_bin s hs, l4_tp s hs, fun z => absurd (by rw [z]; rfl) hn1, rfl, k3, d3⟩
        · rintro σ H4 ⟨s', hs', htp, hdb, rfl, k4, d4⟩
          refine ⟨_, rfl, _, rfl, _, _, rfl, rfl, d, _, rfl, d4, by omega, fun u us u0 u1 => ?_⟩
          have k5 : Kp d H (upd H4 d (.lst (us.map V.int))) := k4.trans Kp.own
          have d5 : Drw (upd H4 d (.lst (us.map V.int))) d := Drw.own
          generalize upd H4 d (.lst (us.map V.int)) = H5 at k5 d5 ⊢
          refine ⟨_, rfl, _, rfl, _, rfl, _, rfl, _, _, rfl, rfl, rcl _ _ _ C8.E0 k5 d5 (by omega) (by omega) fun H6 v g k6 d6 g6 w6 z6 y6 => ?_⟩
          refine ⟨_, rfl, _, rfl, _, rfl, _, rfl, _, rfl, _, rfl, _, _, rfl, rfl, _, rfl, _, _, rfl, rfl, rcl _ _ _ C8.E0 (k5.trans k6) d6 (by omega) (by omega) fun H7 v2 g2 k7 d7 g7 w7 z7 y7 => ?_⟩
          obtain ⟨ys, hys⟩ := d6
          exact ⟨by show 3 ≤ sizeLine; decide, fun t ht => fin2 H7 s' v v2 g g2 _ _ ((k5.trans k6).trans k7) d7 hs' (g6.kp hys k7) w6 z6 y6 g7 w7 z7 y7 (by rw [if_neg htp]; omega) hdb t ht⟩
theorem cal_form (T : Txt K mg w P) : ∀ n, C8.Cal P w K mg base (2 + n) "_law_formula" (spForm K n) []
  | 0 => by
    obtain ⟨f, fd, F, hm, hb⟩ := T.h_law_formula
    exact ⟨f, fd, _, [], ⟨fun vs H Q E h => h.elim, fun A outer s H args us vs Q E _ _ _ _ h => h.elim⟩, hm, F.kp, hb, .nil⟩
  | n + 1 => cal_form_step T (cal_form T n)
/-! the law's own printing -/
abbrev L1 : List (Str × Str) := [("not", "!"), ("next", "X"), ("eventually", "F"), ("always", "G"), ("previous", "Y"), ("weak_previous", "Z")]
abbrev L2' : List (Str × Str) := [("once", "O"), ("historically", "H"), ("and", "&"), ("or", "|"), ("implies", "->"), ("iff", "<->")]
abbrev L3' : List (Str × Str) := [("until", "U"), ("weak_until", "W"), ("release", "R"), ("since", "S"), ("trigger", "T")]
abbrev dsp (l : List (Str × Str)) : List (L2.Key × V) := l.map fun p => (Sum.inr p.1, V.str p.2)
def sgL (k : Str) : V := (valV (mergeK [] (dsp L1)) (Sum.inr k)).getD ((valV (mergeK [] (dsp L2')) (Sum.inr k)).getD ((valV (mergeK [] (dsp L3')) (Sum.inr k)).getD (.str "")))
theorem sgL_un : ∀ k ∈ unOps, sgL k = V.str (psg k) := by decide +kernel
theorem sgL_bin : ∀ k ∈ binOps, sgL k = V.str (isg k) := by decide +kernel
def spLp (K : PySem.W.Frag) : Nat → Sp
  | 0 => fun _ _ _ _ => False
  | n + 1 => fun vs H Q _ => ∃ (v : V) (f : Fm), vs = [v] ∧ FmAt K H v f ∧ Okf f ∧ dpt f ≤ n ∧ (prF f).length ≤ 100000 ∧ ∀ H', Same H H' → Q (.str (prF f)) H'
theorem cal_lp_step {n : Nat} (T : Txt K mg w P) (C_law_print : C8.Cal P w K mg base (1 + n) "_law_print" (spLp K n) []) : C8.Cal P w K mg base (1 + n + 1) "_law_print" (spLp K (n + 1)) [] := by
  obtain ⟨f, fd, F, hm, hb⟩ := T.h_law_print
  refine ⟨f, fd, _, [], F.ok sc_law_print (fun vs H Q E h => ?_) (fun cdv A outer s H vs Q E hr h => ?_), hm, F.kp, hb, .nil⟩
  · obtain ⟨v, f, rfl, _⟩ := h
    rfl
  · obtain ⟨v, f, rfl, hf, ho, hd, hl, q⟩ := h
    refine ⟨_, (pss_cons
      (ps_set (i := 1) sc_law_print.nd rfl (Or.inl rfl) (pe_disp (pps_cons pe_str pe_str (pps_cons pe_str pe_str (pps_cons pe_str pe_str (pps_cons pe_str pe_str (pps_cons pe_str pe_str (pps_cons pe_str pe_str pps_nil)))))) rfl rfl (by simp) (by decide)))
      (pss_cons
      (ps_set (i := 2) sc_law_print.nd rfl (Or.inl rfl) (pe_disp (pps_cons pe_str pe_str (pps_cons pe_str pe_str (pps_cons pe_str pe_str (pps_cons pe_str pe_str (pps_cons pe_str pe_str (pps_cons pe_str pe_str pps_nil)))))) rfl rfl (by simp) (by decide)))
      (pss_cons
      (ps_set (i := 3) sc_law_print.nd rfl (Or.inl rfl) (pe_disp (pps_cons pe_str pe_str (pps_cons pe_str pe_str (pps_cons pe_str pe_str (pps_cons pe_str pe_str (pps_cons pe_str pe_str pps_nil))))) rfl rfl (by simp) (by decide)))
      (pss_cons
      (ps_set (i := 4) sc_law_print.nd rfl (Or.inl rfl) (pe_ix (ix_tupK (K := K) rfl) (pv 0) pe_int (fun _ _ => rfl)))
      (pss_cons
      (ps_if (pt_cmpR op_eq (pv 4) pe_str (nomark _)) (pss_one
      (ps_ret (pe_ix (ix_tupK (K := K) rfl) (pv 0) pe_int (fun _ _ => rfl)))) pss_nil)
      (pss_cons
      (ps_if (pt_cmpR op_eq (pe_callB (call_lenK (K := K) rfl) (by rfl) T.z_len PySem.boot_len (pa_cons (pv 0) pa_nil)) pe_int (nomark _)) (pss_one
      (ps_ret (pv 4))) pss_nil)
      (pss_cons
      (ps_set (i := 5) sc_law_print.nd rfl (Or.inl rfl) (pe_dget2 (hu_of hr) (pv 1) (pv 4) (pe_dget2 (hu_of hr) (pv 2) (pv 4) (pe_dget2 (hu_of hr) (pv 3) (pv 4) pe_str ⟨rfl, rfl, rfl, rfl⟩) ⟨rfl, rfl, rfl, rfl⟩) ⟨rfl, rfl, rfl, rfl⟩))
      (pss_cons
      (ps_if (pt_cmpR op_eq (pe_callB (call_lenK (K := K) rfl) (by rfl) T.z_len PySem.boot_len (pa_cons (pv 0) pa_nil)) pe_int (nomark _)) (pss_one
      (ps_ret (pe_op op_add_str (pv 5) (C8.pe_c C_law_print hr (by omega) (by rfl) (pa_cons (pe_ix (ix_tupK (K := K) rfl) (pv 0) pe_int (fun _ _ => rfl)) pa_nil))))) pss_nil)
      (pss_one
      (ps_ret (pe_op op_add_str (pe_op op_add_str (pe_op op_add_str (pe_op op_add_str (pe_op op_add_str (pe_op op_add_str pe_str (C8.pe_c C_law_print hr (by omega) (by rfl) (pa_cons (pe_ix (ix_tupK (K := K) rfl) (pv 0) pe_int (fun _ _ => rfl)) pa_nil))) pe_str) (pv 5)) pe_str) (C8.pe_c C_law_print hr (by omega) (by rfl) (pa_cons (pe_ix (ix_tupK (K := K) rfl) (pv 0) pe_int (fun _ _ => rfl)) pa_nil))) pe_str))))))))))), ?_⟩
    have big : (100000 : Nat) ≤ sizeLine := by decide
    refine fun D1 n1 => ⟨upd_same, dsp L1, rfl, by decide, ?_⟩
    have s1 : Same H (upd (upd H D1 (.dK [])) D1 (.dK (mergeK [] (dsp L1)))) := fun b o e => by rw [upd_ne (ne_of_none e n1), upd_ne (ne_of_none e n1)]; exact e
    have e1 : (upd (upd H D1 (.dK [])) D1 (.dK (mergeK [] (dsp L1)))) D1 = some (.dK (mergeK [] (dsp L1))) := upd_same
    generalize upd (upd H D1 (.dK [])) D1 (.dK (mergeK [] (dsp L1))) = H1 at s1 e1 ⊢
    refine fun D2 n2 => ⟨upd_same, dsp L2', rfl, by decide, ?_⟩
    have s2 : Same H1 (upd (upd H1 D2 (.dK [])) D2 (.dK (mergeK [] (dsp L2')))) := fun b o e => by rw [upd_ne (ne_of_none e n2), upd_ne (ne_of_none e n2)]; exact e
    have e2 : (upd (upd H1 D2 (.dK [])) D2 (.dK (mergeK [] (dsp L2')))) D2 = some (.dK (mergeK [] (dsp L2'))) := upd_same
    generalize upd (upd H1 D2 (.dK [])) D2 (.dK (mergeK [] (dsp L2'))) = H2 at s2 e2 ⊢
    refine fun D3 n3 => ⟨upd_same, dsp L3', rfl, by decide, ?_⟩
    have s3 : Same H2 (upd (upd H2 D3 (.dK [])) D3 (.dK (mergeK [] (dsp L3')))) := fun b o e => by rw [upd_ne (ne_of_none e n3), upd_ne (ne_of_none e n3)]; exact e
    have e3 : (upd (upd H2 D3 (.dK [])) D3 (.dK (mergeK [] (dsp L3')))) D3 = some (.dK (mergeK [] (dsp L3'))) := upd_same
    generalize upd (upd H2 D3 (.dK [])) D3 (.dK (mergeK [] (dsp L3'))) = H3 at s3 e3 ⊢
    have e23 := s3 _ _ e2
    have e13 := s3 _ _ (s2 _ _ e1)
    have s03 := (s1.trans s2).trans s3
    have hf3 := hf.same s03
    clear s1 s2 s3 e1 e2 n1 n2 n3 hf
    have nz : ∀ {k : Str}, k ≠ sSig → (decide (V.str k = V.str "signal")) = false := fun hk => decide_eq_false fun z => hk (V.str.inj z)
    have call : ∀ (v2 : V) (g : Fm) (Q2 : VK), FmAt K H3 v2 g → Okf g → dpt g + 1 ≤ n → (prF g).length ≤ 100000 → (∀ H', Same H3 H' → Q2 (.str (prF g)) H') → spLp K n [v2] H3 Q2 C8.E0 := fun v2 g Q2 h1 h2 h3 h4 h5 => by
      obtain ⟨m, rfl⟩ : ∃ m, n = m + 1 := ⟨n - 1, by omega⟩
      exact ⟨v2, g, rfl, h1, h2, by omega, h4, h5⟩
    cases f with
    | sg s =>
      obtain ⟨a, rfl, ha⟩ := hf3
      refine ⟨_, rfl, a, _, _, _, rfl, rfl, ha, rfl, ?_⟩
      refine ⟨_, rfl, rfl, _, rfl, iteB_t rfl ?_⟩
      exact ⟨_, rfl, a, _, _, _, rfl, rfl, ha, rfl, q H3 s03⟩
    | c0 k =>
      obtain ⟨a, rfl, ha⟩ := hf3
      refine ⟨_, rfl, a, _, _, _, rfl, rfl, ha, rfl, ?_⟩
      refine ⟨_, rfl, rfl, _, rfl, ?_⟩
      have hk : k ≠ sSig := fun z => by
        have ho : k = "true" ∨ k = "false" := ho
        rw [z] at ho
        exact absurd ho (by decide +kernel)
      rw [nz hk]
      refine iteB_f rfl ⟨_, rfl, a, _, rfl, .inr ha, rfl, _, rfl, iteB_t (by rfl) ⟨_, rfl, q H3 s03⟩⟩
    | un k f =>
      obtain ⟨a, x, rfl, ha, hx⟩ := hf3
      have hl : (prF (.un k f)).length ≤ 100000 := hl
      have hlu := pr_len_un k f
      refine ⟨_, rfl, a, _, _, _, rfl, rfl, ha, rfl, ?_⟩
      refine ⟨_, rfl, rfl, _, rfl, ?_⟩
      rw [nz (un_ne ho.1)]
      refine iteB_f rfl ⟨_, rfl, a, _, rfl, .inr ha, rfl, _, rfl, iteB_f (by rfl) ?_⟩
      refine ⟨_, rfl, D1, rfl, .inl ⟨_, .inl e13⟩, _, rfl, _, rfl, D2, rfl, .inl ⟨_, .inl e23⟩, _, rfl, _, rfl, D3, rfl, .inl ⟨_, .inl e3⟩, _, rfl, _, DGet.k (k := Sum.inr k) e3, _, DGet.k (k := Sum.inr k) e23, _, DGet.k (k := Sum.inr k) e13, ?_⟩
      have hsg := sgL_un k ho.1
      unfold sgL at hsg
      rw [hsg]
      refine ⟨_, rfl, a, _, rfl, .inr ha, rfl, _, rfl, iteB_t (by rfl) ?_⟩
      refine ⟨_, rfl, _, rfl, a, _, _, _, rfl, rfl, ha, rfl, call x f _ hx ho.2 hd (by omega) fun H4 s4 => ⟨_, _, rfl, rfl, ?_, q H4 (s03.trans s4)⟩⟩
      have e : (prF (.un k f)).length = (psg k).length + (prF f).length := app_len _ _
      omega
    | bin k f g =>
      obtain ⟨a, x, y, rfl, ha, hx, hy⟩ := hf3
      have hl : (prF (.bin k f g)).length ≤ 100000 := hl
      have hlb := pr_len_bin k f g
      have hd : max (dpt f) (dpt g) + 1 ≤ n := hd
      refine ⟨_, rfl, a, _, _, _, rfl, rfl, ha, rfl, ?_⟩
      refine ⟨_, rfl, rfl, _, rfl, ?_⟩
      rw [nz (bin_ne ho.1)]
      refine iteB_f rfl ⟨_, rfl, a, _, rfl, .inr ha, rfl, _, rfl, iteB_f (by rfl) ?_⟩
      refine ⟨_, rfl, D1, rfl, .inl ⟨_, .inl e13⟩, _, rfl, _, rfl, D2, rfl, .inl ⟨_, .inl e23⟩, _, rfl, _, rfl, D3, rfl, .inl ⟨_, .inl e3⟩, _, rfl, _, DGet.k (k := Sum.inr k) e3, _, DGet.k (k := Sum.inr k) e23, _, DGet.k (k := Sum.inr k) e13, ?_⟩
      have hsg := sgL_bin k ho.1
      unfold sgL at hsg
      rw [hsg]
      refine ⟨_, rfl, a, _, rfl, .inr ha, rfl, _, rfl, iteB_f (by rfl) ?_⟩
      obtain ⟨o1, o2, o3⟩ := l_one
      have b1 : (Str.ofString "(" ++ prF f).length = 1 + (prF f).length := by rw [app_len, o2]
      have b2 : (Str.ofString "(" ++ prF f ++ Str.ofString " ").length = 1 + (prF f).length + 1 := by rw [app_len, b1, o1]
      have b3 : (Str.ofString "(" ++ prF f ++ Str.ofString " " ++ isg k).length = 1 + (prF f).length + 1 + (isg k).length := by rw [app_len, b2]
      have b4 : (Str.ofString "(" ++ prF f ++ Str.ofString " " ++ isg k ++ Str.ofString " ").length = 1 + (prF f).length + 1 + (isg k).length + 1 := by rw [app_len, b3, o1]
      have b5 : (Str.ofString "(" ++ prF f ++ Str.ofString " " ++ isg k ++ Str.ofString " " ++ prF g).length = 1 + (prF f).length + 1 + (isg k).length + 1 + (prF g).length := by rw [app_len, b4]
      refine ⟨_, rfl, a, _, _, _, rfl, rfl, ha, rfl, call x f _ hx ho.2.1 (by omega) (by omega) fun H4 s4 => ?_⟩
      refine ⟨_, _, rfl, rfl, by rw [o2]; omega, ?_⟩
      refine ⟨_, _, rfl, rfl, by rw [b1, o1]; omega, ?_⟩
      refine ⟨_, rfl, _, _, rfl, rfl, by rw [b2]; omega, ?_⟩
      refine ⟨_, _, rfl, rfl, by rw [b3, o1]; omega, ?_⟩
      obtain ⟨m, rfl⟩ : ∃ m, n = m + 1 := ⟨n - 1, by omega⟩
      refine ⟨_, rfl, a, _, _, _, rfl, rfl, sqt_same s4 ha, rfl, y, g, rfl, hy.same s4, ho.2.2, by omega, by omega, fun H5 s5 => ?_⟩
      refine ⟨_, _, rfl, rfl, by rw [b4]; omega, ?_⟩
      exact ⟨_, _, rfl, rfl, by rw [b5, o3]; omega, q H5 ((s03.trans s4).trans s5)⟩
theorem cal_lp (T : Txt K mg w P) : ∀ n, C8.Cal P w K mg base (1 + n) "_law_print" (spLp K n) []
  | 0 => by
    obtain ⟨f, fd, F, hm, hb⟩ := T.h_law_print
    exact ⟨f, fd, _, [], ⟨fun vs H Q E h => h.elim, fun A outer s H args us vs Q E _ _ _ _ h => h.elim⟩, hm, F.kp, hb, .nil⟩
  | n + 1 => cal_lp_step T (cal_lp T n)
theorem lc40 : okW false 40 = false := by decide +kernel
theorem word_c40 {s : Str} (h : wholeW s.cps.toList = true) : c40 s.cps.toList = 0 := by
  unfold c40
  rw [List.length_eq_zero_iff, List.filter_eq_nil_iff]
  intro c hc
  have hi := (wholeW_iff (word_ne h)).mp h
  obtain ⟨i, hi2⟩ := List.mem_iff_getElem?.mp hc
  have := hi i c hi2
  have h2 : okW false c = true := by
    unfold okW at this ⊢
    rw [Bool.or_eq_true] at this ⊢
    rcases this with h | h
    · exact .inl h
    · rw [Bool.and_eq_true] at h
      exact .inr (by rw [h.2]; rfl)
  simp only [decide_eq_true_eq]
  intro z
  rw [z, lc40] at h2
  cases h2
theorem sg_c40 : (∀ k ∈ unOps, c40 (psg k).cps.toList = 0) ∧ (∀ k ∈ binOps, c40 (isg k).cps.toList = 0) ∧ (∀ k ∈ (["true", "false", "exists", "forall"] : List Str), c40 k.cps.toList = 0) ∧ c40 (Str.ofString "(").cps.toList = 1 ∧ c40 (Str.ofString " ").cps.toList = 0 ∧ c40 (Str.ofString ")").cps.toList = 0 ∧ c40 (Str.ofString ", ").cps.toList = 0 ∧ c40 (Str.ofString ": ").cps.toList = 0 := by decide +kernel
theorem two_pos (n : Nat) : 1 ≤ 2 ^ n := Nat.one_le_two_pow
theorem prF_c40 : ∀ {f : Fm}, Okf f → c40 (prF f).cps.toList + 1 ≤ 2 ^ pdp f
  | .c0 k, h => by
    obtain ⟨s1, s2, s3, s4, s5, s6, s7, s8⟩ := sg_c40
    show c40 k.cps.toList + 1 ≤ 1
    have h : k = "true" ∨ k = "false" := h
    rw [s3 k (by rcases h with h | h <;> rw [h] <;> simp)]
    exact Nat.le_refl 1
  | .sg s, h => by
    show c40 s.cps.toList + 1 ≤ 1
    rw [word_c40 (name_w h).1]
    exact Nat.le_refl 1
  | .un k f, h => by
    obtain ⟨s1, s2, s3, s4, s5, s6, s7, s8⟩ := sg_c40
    show c40 (psg k ++ prF f).cps.toList + 1 ≤ 2 ^ pdp f
    rw [toL_app, c40_app, s1 k h.1, Nat.zero_add]
    exact prF_c40 h.2
  | .bin k f g, h => by
    obtain ⟨s1, s2, s3, s4, s5, s6, s7, s8⟩ := sg_c40
    show c40 (Str.ofString "(" ++ prF f ++ Str.ofString " " ++ isg k ++ Str.ofString " " ++ prF g ++ Str.ofString ")").cps.toList + 1 ≤ 2 ^ (max (pdp f) (pdp g) + 1)
    rw [toL_app, toL_app, toL_app, toL_app, toL_app, toL_app, c40_app, c40_app, c40_app, c40_app, c40_app, c40_app, s4, s5, s6, s2 k h.1]
    have h1 := prF_c40 h.2.1
    have h2 := prF_c40 h.2.2
    have h3 : 2 ^ pdp f ≤ 2 ^ max (pdp f) (pdp g) := Nat.pow_le_pow_right (by decide) (Nat.le_max_left _ _)
    have h4 : 2 ^ pdp g ≤ 2 ^ max (pdp f) (pdp g) := Nat.pow_le_pow_right (by decide) (Nat.le_max_right _ _)
    rw [Nat.pow_succ]
    omega
theorem psg_len : ∀ k ∈ unOps, (psg k).length = 1 := by decide +kernel
theorem isg_len : ∀ k ∈ binOps, (isg k).length ≤ 3 := by decide +kernel
theorem c0_len : ∀ k ∈ (["true", "false"] : List Str), k.length ≤ 5 := by decide +kernel
theorem prF_len {nm : List Str} (hn : ∀ s ∈ nm, s.length ≤ 4) : ∀ {f : Fm}, Wo nm f → (prF f).length + 7 ≤ 12 * 2 ^ dpt f
  | .c0 k, h => by
    have h : k = "true" ∨ k = "false" := h
    have := c0_len k (by rcases h with h | h <;> rw [h] <;> simp)
    show k.length + 7 ≤ 12 * 1
    omega
  | .sg s, h => by
    have := hn s h
    show s.length + 7 ≤ 12 * 1
    omega
  | .un k f, h => by
    have h1 := prF_len hn h.2
    have h2 := psg_len k h.1
    have e : (prF (.un k f)).length = (psg k).length + (prF f).length := app_len _ _
    show _ ≤ 12 * 2 ^ (dpt f + 1)
    rw [e, h2, Nat.pow_succ]
    have := two_pos (dpt f)
    omega
  | .bin k f g, h => by
    have h1 := prF_len hn h.2.1
    have h2 := prF_len hn h.2.2
    have h3 := isg_len k h.1
    rw [pr_len_bin]
    show _ ≤ 12 * 2 ^ (max (dpt f) (dpt g) + 1)
    have h4 : 2 ^ dpt f ≤ 2 ^ max (dpt f) (dpt g) := Nat.pow_le_pow_right (by decide) (Nat.le_max_left _ _)
    have h5 : 2 ^ dpt g ≤ 2 ^ max (dpt f) (dpt g) := Nat.pow_le_pow_right (by decide) (Nat.le_max_right _ _)
    rw [Nat.pow_succ]
    omega
theorem pdp_dpt : ∀ f : Fm, pdp f ≤ dpt f
  | .c0 _ => Nat.le_refl _
  | .sg _ => Nat.le_refl _
  | .un _ f => Nat.le_succ_of_le (pdp_dpt f)
  | .bin _ f g => by
    have h1 := pdp_dpt f
    have h2 := pdp_dpt g
    show max (pdp f) (pdp g) + 1 ≤ max (dpt f) (dpt g) + 1
    omega
theorem wo_ok {nm : List Str} (hn : ∀ s ∈ nm, nameOk s = true) : ∀ {f : Fm}, Wo nm f → Okf f
  | .c0 _, h => h
  | .sg s, h => hn s h
  | .un _ f, h => ⟨h.1, wo_ok hn h.2⟩
  | .bin _ f g, h => ⟨h.1, wo_ok hn h.2.1, wo_ok hn h.2.2⟩
section
open TL
/-! signs in texts -/
def cC (c : Nat) (l : List Nat) : Nat := (l.filter fun d => decide (d = c)).length
theorem cC_app (c : Nat) (a b : List Nat) : cC c (a ++ b) = cC c a + cC c b := by
  unfold cC
  rw [List.filter_append, List.length_append]
theorem spl_cC (n : Nat) : ∀ (l acc : List Nat), (spl [n] 0 acc l).length = cC n l + 1
  | [], acc => by rw [spl_nil]; rfl
  | c :: r, acc => by
    by_cases h : c = n
    · subst h
      rw [spl_hit (show pre [c] (c :: r) = true by simp [TL.pre])]
      show (spl [c] 0 [] r).length + 1 = _
      rw [spl_cC c r []]
      unfold cC
      rw [List.filter_cons_of_pos (by simp), List.length_cons]
    · rw [spl_miss (show pre [n] (c :: r) = false by simp [TL.pre, h, fun z : n = c => h z.symm])]
      rw [spl_cC n r _]
      unfold cC
      rw [List.filter_cons_of_neg (by simpa using h)]
theorem countC {c : Nat} (t : Str) {y : Str} (hy : tl y = [c]) : Txt.count t y = (cC c (tl t) : Int) := by
  rw [count_spl t y (by rw [hy]; simp), hy, spl_cC]
  show ((cC c (tl t) + 1 : Nat) : Int) - 1 = _
  omega
def upL : List Nat := [88, 70, 71, 85, 87, 82, 89, 90, 79, 72, 83, 84]
def up (l : List Nat) : Nat := (upL.map fun c => cC c l).sum
theorem sum_add {α : Type} (f g : α → Nat) : ∀ l : List α, (l.map fun x => f x + g x).sum = (l.map f).sum + (l.map g).sum
  | [] => rfl
  | x :: r => by
    rw [List.map_cons, List.sum_cons, sum_add f g r, List.map_cons, List.sum_cons, List.map_cons, List.sum_cons]
    omega
theorem up_app (a b : List Nat) : up (a ++ b) = up a + up b := by
  unfold up
  rw [← sum_add]
  congr 1
  exact List.map_congr_left fun c _ => cC_app c a b
def nm2 : List Str := ["qa1x", "qb2q"]
theorem up_k : (∀ k ∈ unOps, up (tl (psg k)) = if k ∈ tpK then 1 else 0) ∧ (∀ k ∈ binOps, up (tl (isg k)) = if k ∈ tpK then 1 else 0) ∧ (∀ k ∈ (["true", "false"] : List Str), up (tl k) = 0 ∧ k ∉ tpK) ∧ (∀ s ∈ nm2, up (tl s) = 0) ∧ sSig ∉ tpK ∧ up (tl (Str.ofString "(")) = 0 ∧ up (tl (Str.ofString " ")) = 0 ∧ up (tl (Str.ofString ")")) = 0 := by decide +kernel
theorem up_prF : ∀ {f : Fm}, Wo nm2 f → up (tl (prF f)) = cnt tpK f
  | .c0 k, h => by
    have h := up_k.2.2.1 k (by have h : k = "true" ∨ k = "false" := h; rcases h with h | h <;> rw [h] <;> simp)
    show up (tl k) = if k ∈ tpK then 1 else 0
    rw [h.1, if_neg h.2]
  | .sg s, h => by
    show up (tl s) = if sSig ∈ tpK then 1 else 0
    rw [up_k.2.2.2.1 s h, if_neg up_k.2.2.2.2.1]
  | .un k f, h => by
    show up (tl (psg k ++ prF f)) = (if k ∈ tpK then 1 else 0) + cnt tpK f
    rw [tl_app, up_app, up_k.1 k h.1, up_prF h.2]
  | .bin k f g, h => by
    show up (tl (Str.ofString "(" ++ prF f ++ Str.ofString " " ++ isg k ++ Str.ofString " " ++ prF g ++ Str.ofString ")")) = (if k ∈ tpK then 1 else 0) + cnt tpK f + cnt tpK g
    obtain ⟨_, hb, _, _, _, h1, h2, h3⟩ := up_k
    rw [tl_app, tl_app, tl_app, tl_app, tl_app, tl_app, up_app, up_app, up_app, up_app, up_app, up_app, hb k h.1, up_prF h.2.1, up_prF h.2.2, h1, h2, h3]
    omega
def Ch (a b c : Nat) (l : List Nat) : Prop := cC 32 l = a ∧ cC 40 l = b ∧ cC 110 l = c
theorem ch_k : (∀ k ∈ unOps, cC 32 (tl (psg k)) = 0 ∧ cC 40 (tl (psg k)) = 0 ∧ cC 110 (tl (psg k)) = 0) ∧ (∀ k ∈ binOps, cC 32 (tl (isg k)) = 0 ∧ cC 40 (tl (isg k)) = 0 ∧ cC 110 (tl (isg k)) = 0) ∧ (∀ k ∈ (["true", "false"] : List Str), cC 32 (tl k) = 0 ∧ cC 40 (tl k) = 0 ∧ cC 110 (tl k) = 0 ∧ 4 ≤ (tl k).length) ∧ (∀ k ∈ nm2, cC 32 (tl k) = 0 ∧ cC 40 (tl k) = 0 ∧ cC 110 (tl k) = 0 ∧ 4 ≤ (tl k).length) ∧
    tl (Str.ofString "(") = [40] ∧ tl (Str.ofString " ") = [32] ∧ tl (Str.ofString ")") = [41] := by decide +kernel
theorem ch_prF : ∀ {f : Fm}, Wo nm2 f → cC 32 (tl (prF f)) = 2 * cC 40 (tl (prF f)) ∧ cC 110 (tl (prF f)) = 0 ∧ 4 ≤ (tl (prF f)).length
  | .c0 k, h => by
    have h := ch_k.2.2.1 k (by have h : k = "true" ∨ k = "false" := h; rcases h with h | h <;> rw [h] <;> simp)
    show cC 32 (tl k) = 2 * cC 40 (tl k) ∧ cC 110 (tl k) = 0 ∧ 4 ≤ (tl k).length
    omega
  | .sg s, h => by
    have h := ch_k.2.2.2.1 s h
    show cC 32 (tl s) = 2 * cC 40 (tl s) ∧ cC 110 (tl s) = 0 ∧ 4 ≤ (tl s).length
    omega
  | .un k f, h => by
    have h1 := ch_prF h.2
    have h2 := ch_k.1 k h.1
    show cC 32 (tl (psg k ++ prF f)) = 2 * cC 40 (tl (psg k ++ prF f)) ∧ cC 110 (tl (psg k ++ prF f)) = 0 ∧ 4 ≤ (tl (psg k ++ prF f)).length
    rw [tl_app, cC_app, cC_app, cC_app, List.length_append]
    omega
  | .bin k f g, h => by
    have h1 := ch_prF h.2.1
    have h2 := ch_prF h.2.2
    obtain ⟨_, hb, _, _, e1, e2, e3⟩ := ch_k
    have h3 := hb k h.1
    have et : tl (prF (.bin k f g)) = [40] ++ tl (prF f) ++ [32] ++ tl (isg k) ++ [32] ++ tl (prF g) ++ [41] := by
      show tl (Str.ofString "(" ++ prF f ++ Str.ofString " " ++ isg k ++ Str.ofString " " ++ prF g ++ Str.ofString ")") = _
      rw [tl_app, tl_app, tl_app, tl_app, tl_app, tl_app, e1, e2, e3]
    rw [et]
    simp only [cC_app, List.length_append]
    have d1 : cC 32 [40] = 0 ∧ cC 40 [40] = 1 ∧ cC 110 [40] = 0 ∧ cC 32 [32] = 1 ∧ cC 40 [32] = 0 ∧ cC 110 [32] = 0 ∧ cC 32 [41] = 0 ∧ cC 40 [41] = 0 ∧ cC 110 [41] = 0 := by decide
    omega
/-! where names stand -/
def Bq (r : List Nat) : Prop := ∀ c, r.head? = some c → c = 32 ∨ c = 41
inductive Sg : List Nat → List Str → Prop
  | nil : Sg [] []
  | sep {c : Nat} {r : List Nat} {ns : List Str} : c ≠ 113 → Sg r ns → Sg (c :: r) ns
  | word {w : Str} {r : List Nat} {ns : List Str} : w ∈ nm2 → Bq r → Sg r ns → Sg (tl w ++ r) (w :: ns)
theorem Sg.seps {r : List Nat} {ns : List Str} (h : Sg r ns) : ∀ {s : List Nat}, 113 ∉ s → Sg (s ++ r) ns
  | [], _ => h
  | c :: s, n => .sep (fun z => n (by rw [z]; exact List.mem_cons_self)) (Sg.seps h fun z => n (List.mem_cons_of_mem _ z))
theorem q_free : (∀ k ∈ unOps, 113 ∉ tl (psg k)) ∧ (∀ k ∈ binOps, 113 ∉ tl (isg k)) ∧ (∀ k ∈ (["true", "false"] : List Str), 113 ∉ tl k) := by decide +kernel
theorem sg_prF : ∀ {f : Fm}, Wo nm2 f → ∀ {r : List Nat} {ns : List Str}, Bq r → Sg r ns → Sg (tl (prF f) ++ r) (sgF f ++ ns)
  | .c0 k, h, r, ns, _, hs => hs.seps (q_free.2.2 k (by have h : k = "true" ∨ k = "false" := h; rcases h with h | h <;> rw [h] <;> simp))
  | .sg s, h, r, ns, hb, hs => .word h hb hs
  | .un k f, h, r, ns, hb, hs => by
    show Sg (tl (psg k ++ prF f) ++ r) _
    rw [tl_app, List.append_assoc]
    exact (sg_prF h.2 hb hs).seps (q_free.1 k h.1)
  | .bin k f g, h, r, ns, hb, hs => by
    obtain ⟨_, _, _, _, e1, e2, e3⟩ := ch_k
    have et : tl (prF (.bin k f g)) ++ r = [40] ++ (tl (prF f) ++ (32 :: (tl (isg k) ++ (32 :: (tl (prF g) ++ (41 :: r)))))) := by
      show tl (Str.ofString "(" ++ prF f ++ Str.ofString " " ++ isg k ++ Str.ofString " " ++ prF g ++ Str.ofString ")") ++ r = _
      rw [tl_app, tl_app, tl_app, tl_app, tl_app, tl_app, e1, e2, e3]
      simp
    rw [et, show sgF (.bin k f g) = sgF f ++ sgF g from rfl, List.append_assoc]
    refine Sg.seps ?_ (by decide)
    refine sg_prF h.2.1 (fun c hc => by cases hc; exact .inl rfl) (.sep (by decide) (Sg.seps (.sep (by decide) ?_) (q_free.2.1 k h.1)))
    exact sg_prF h.2.2 (fun c hc => by cases hc; exact .inr rfl) (.sep (by decide) hs)
/-- y stands at place i -/
def oc (y l : List Nat) (i : Nat) : Prop := (l.drop i).take y.length = y
theorem q_tl : tl ("qa1x" : Str) = [113, 97, 49, 120] ∧ tl ("qb2q" : Str) = [113, 98, 50, 113] := by decide +kernel
theorem nm2_or {w : Str} (h : w ∈ nm2) : w = "qa1x" ∨ w = "qb2q" := by
  rcases List.mem_cons.mp h with h | h
  · exact .inl h
  · exact .inr (List.mem_singleton.mp h)
theorem oc_nil {w : Str} (h : w ∈ nm2) (i : Nat) : ¬ oc (tl w) [] i := by
  unfold oc
  rw [List.drop_nil, List.take_nil]
  rcases nm2_or h with h | h <;> rw [h]
  · rw [q_tl.1]; simp
  · rw [q_tl.2]; simp
theorem oc_hd {w : Str} (h : w ∈ nm2) {c : Nat} {r : List Nat} (hc : c ≠ 113) : ¬ oc (tl w) (c :: r) 0 := by
  unfold oc
  intro z
  rw [List.drop_zero] at z
  rcases nm2_or h with h | h <;> rw [h] at z
  · rw [q_tl.1] at z; exact hc (List.cons.inj z).1
  · rw [q_tl.2] at z; exact hc (List.cons.inj z).1
theorem oc_s {y r : List Nat} {c i : Nat} : oc y (c :: r) (i + 1) ↔ oc y r i := Iff.rfl
/-- inside of a name none begins -/
theorem oc_in {w v : Str} (hw : w ∈ nm2) (hv : v ∈ nm2) {r : List Nat} (hb : Bq r) : (oc (tl v) (tl w ++ r) 0 → v = w) ∧ ∀ i, 1 ≤ i → i < 4 → ¬ oc (tl v) (tl w ++ r) i := by
  have ne : ∀ c, r.head? = some c → c ≠ 97 ∧ c ≠ 98 := fun c hc => by rcases hb c hc with h | h <;> omega
  refine ⟨fun z => ?_, fun i h1 h4 z => ?_⟩
  · unfold oc at z
    rw [List.drop_zero] at z
    rcases nm2_or hw with h | h <;> rcases nm2_or hv with h' | h' <;> subst h <;> subst h'
    · rfl
    · rw [q_tl.1, q_tl.2] at z; simp at z
    · rw [q_tl.1, q_tl.2] at z; simp at z
    · rfl
  · unfold oc at z
    rcases nm2_or hw with h | h <;> rcases nm2_or hv with h' | h' <;> subst h <;> subst h' <;>
      (rcases (show i = 1 ∨ i = 2 ∨ i = 3 by omega) with rfl | rfl | rfl) <;>
      (first | rw [q_tl.1] at z | skip) <;> (first | rw [q_tl.2] at z | skip) <;>
      (cases r with
       | nil => simp at z
       | cons c r =>
         have n := ne c rfl
         simp at z
         try omega)
/-- the first name that stands in the text -/
theorem sg_first {l : List Nat} {ns : List Str} (h : Sg l ns) : (∀ v ∈ nm2, (∃ i, oc (tl v) l i) ↔ v ∈ ns) ∧ ∀ w r, ns = w :: r → w ∈ nm2 ∧ ∃ i, oc (tl w) l i ∧ ∀ v ∈ nm2, (∀ k, k < i → ¬ oc (tl v) l k) ∧ (oc (tl v) l i → v = w) := by
  induction h with
  | nil => exact ⟨fun v hv => ⟨fun ⟨i, z⟩ => absurd z (oc_nil hv i), fun z => by (cases z)⟩, fun w r z => by (cases z)⟩
  | @sep c r ns hc _ ih =>
    refine ⟨fun v hv => ⟨fun ⟨i, z⟩ => ?_, fun z => ?_⟩, fun w r' e => ?_⟩
    · cases i with
      | zero => exact absurd z (oc_hd hv hc)
      | succ i => exact (ih.1 v hv).mp ⟨i, oc_s.mp z⟩
    · obtain ⟨i, z⟩ := (ih.1 v hv).mpr z
      exact ⟨i + 1, oc_s.mpr z⟩
    · obtain ⟨hw, i, z, q⟩ := ih.2 w r' e
      refine ⟨hw, i + 1, oc_s.mpr z, fun v hv => ⟨fun k hk y => ?_, fun y => (q v hv).2 (oc_s.mp y)⟩⟩
      cases k with
      | zero => exact oc_hd hv hc y
      | succ k => exact (q v hv).1 k (by omega) (oc_s.mp y)
  | @word w r ns hw hb _ ih =>
    have l4 : (tl w).length = 4 := by rcases nm2_or hw with h | h <;> rw [h] <;> first | (rw [q_tl.1]; rfl) | (rw [q_tl.2]; rfl)
    have h0 : oc (tl w) (tl w ++ r) 0 := by unfold oc; rw [List.drop_zero, List.take_left]
    have hd : ∀ i, 4 ≤ i → ∀ y, oc y (tl w ++ r) i ↔ oc y r (i - 4) := fun i hi y => by
      unfold oc
      rw [List.drop_append, List.drop_of_length_le (by omega), List.nil_append, l4]
    refine ⟨fun v hv => ⟨fun ⟨i, z⟩ => ?_, fun z => ?_⟩, fun w' r' e => ?_⟩
    · rcases Nat.lt_or_ge i 4 with c | c
      · cases i with
        | zero => rw [(oc_in hw hv hb).1 z]; exact List.mem_cons_self
        | succ i => exact absurd z ((oc_in hw hv hb).2 _ (by omega) c)
      · exact List.mem_cons_of_mem _ ((ih.1 v hv).mp ⟨_, (hd i c _).mp z⟩)
    · rcases List.mem_cons.mp z with rfl | z
      · exact ⟨0, h0⟩
      · obtain ⟨i, z⟩ := (ih.1 v hv).mpr z
        exact ⟨i + 4, (hd _ (by omega) _).mpr (by rw [Nat.add_sub_cancel]; exact z)⟩
    · cases e
      exact ⟨hw, 0, h0, fun v hv => ⟨fun k hk => absurd hk (Nat.not_lt_zero _), fun y => (oc_in hw hv hb).1 y⟩⟩
end
section
open TL
theorem at_oc {x y : Str} (hy : tl y ≠ []) (i : Nat) : PySem.StrLaws.At x y x.length i ↔ oc (tl y) (tl x) i := by
  unfold PySem.StrLaws.At oc
  rw [StrLaws.subAt_eq, beq_iff_eq, len_tl y, len_tl x]
  constructor
  · exact fun h => h.2
  · intro h
    refine ⟨?_, h⟩
    have h1 := congrArg List.length h
    rw [List.length_take, List.length_drop] at h1
    have h2 := List.length_pos_iff.mpr hy
    omega
theorem nm2_ne {w : Str} (h : w ∈ nm2) : tl w ≠ [] := by rcases nm2_or h with h | h <;> rw [h] <;> first | (rw [q_tl.1]; simp) | (rw [q_tl.2]; simp)
def isin (w b : Str) : Bool := !(Builtin.Str.occurrences b w 0 b.length 1).isEmpty
theorem in_iff {w b : Str} {ns : List Str} (hw : w ∈ nm2) (h : Sg (tl b) ns) : isin w b = decide (w ∈ ns) := by
  unfold isin
  have hi := (sg_first h).1 w hw
  rcases PySem.StrLaws.occ_head b w 1 (Nat.le_refl _) with ⟨e, n⟩ | ⟨i, r, e, a, _⟩
  · rw [e]
    exact (decide_eq_false fun z => by
      obtain ⟨i, z⟩ := hi.mpr z
      exact n i ((at_oc (nm2_ne hw) i).mpr z)).symm
  · rw [e]
    exact (decide_eq_true (hi.mp ⟨i, (at_oc (nm2_ne hw) i).mp a⟩)).symm
theorem find_head {w v b : Str} {r : List Str} (h : Sg (tl b) (w :: r)) (hv : v ∈ nm2) (hm : v ∈ w :: r) (hne : v ≠ w) : Txt.find b w < Txt.find b v := by
  obtain ⟨hw, i, oi, q⟩ := (sg_first h).2 w r rfl
  have fw : Txt.find b w = (i : Int) := by
    unfold Txt.find
    rcases PySem.StrLaws.occ_head b w 1 (Nat.le_refl _) with ⟨e, n⟩ | ⟨j, r', e, a, n⟩
    · exact absurd ((at_oc (nm2_ne hw) i).mpr oi) (n i)
    · rw [e]
      have a' := (at_oc (nm2_ne hw) j).mp a
      rcases Nat.lt_trichotomy i j with c | c | c
      · exact absurd ((at_oc (nm2_ne hw) i).mpr oi) (n i c)
      · rw [c]
      · exact absurd a' ((q w hw).1 j c)
  have fv : ∃ j : Nat, Txt.find b v = (j : Int) ∧ i < j := by
    obtain ⟨k, ok⟩ := ((sg_first h).1 v hv).mpr hm
    unfold Txt.find
    rcases PySem.StrLaws.occ_head b v 1 (Nat.le_refl _) with ⟨e, n⟩ | ⟨j, r', e, a, n⟩
    · exact absurd ((at_oc (nm2_ne hv) k).mpr ok) (n k)
    · rw [e]
      have a' := (at_oc (nm2_ne hv) j).mp a
      refine ⟨j, rfl, ?_⟩
      rcases Nat.lt_trichotomy i j with c | c | c
      · exact c
      · rw [← c] at a'
        exact absurd ((q v hv).2 a') hne
      · exact absurd a' ((q v hv).1 j c)
  obtain ⟨j, e, hj⟩ := fv
  rw [fw, e]
  omega
/-! reading tokens -/
def lx : Nat → List Nat → Nat → List Tk
  | 0, _, _ => []
  | _ + 1, [], p => [⟨"end", "", p⟩]
  | n + 1, c :: r, p => if c = 32 then lx n r (p + 1) else if (tokOf (c :: r)).1 = "bad" then [⟨"bad", (tokOf (c :: r)).2, p⟩] else ⟨(tokOf (c :: r)).1, (tokOf (c :: r)).2, p⟩ :: lx n ((c :: r).drop (tokOf (c :: r)).2.length) (p + (tokOf (c :: r)).2.length)
theorem lx_ok : ∀ {n : Nat} {l : List Nat} {p : Nat}, l.length < n → Tks l p (lx n l p)
  | 0, _, _, h => absurd h (Nat.not_lt_zero _)
  | n + 1, [], p, _ => .nil
  | n + 1, c :: r, p, h => by
    rw [List.length_cons] at h
    unfold lx
    by_cases c1 : c = 32
    · rw [if_pos c1, c1]
      exact .sp (lx_ok (by omega))
    rw [if_neg c1]
    by_cases c2 : (tokOf (c :: r)).1 = "bad"
    · rw [if_pos c2]
      exact .bad c1 c2
    rw [if_neg c2]
    refine .tok c1 c2 (lx_ok ?_)
    have := tok_pos c2
    rw [List.length_drop, List.length_cons]
    omega
/-! bodies -/
structure FOk (f : Fm) : Prop where
  wo : Wo nm2 f
  pd : pdp f ≤ 2
  dp : dpt f ≤ 10
  sz : sz f ≤ 100
  tp : cnt tpK f ≤ 8
  db : cnt dblK f ≤ 6
  ln : (prF f).length ≤ 100
def oddL : List (Str × Er) := [("(true", .pos 5), ("true true", .pos 5), ("G", .pos 1), ("", .pos 0), ("true & -", .pos 7), ("nobody", .unk "nobody"), ("XXXXXXXXXtrue", .big)]
def Fbd (b : Str) (f : Fm) : Prop := FOk f ∧ (b = prF f ∨ b = sB ++ prF f)
def Bd (b : Str) : Prop := (∃ e, (b, e) ∈ oddL) ∨ ∃ f, Fbd b f
def erR : Er → Res
  | .pos p => .pos p
  | .unk x => .unk x
  | _ => .big
theorem rda_j {f : Fm} (h : Okf f) (hp : pdp f ≤ 3) (j : Nat) : ∃ tz, Tks (tl (prF f)) j tz ∧ Rda 24 tz "" [] f := by
  obtain ⟨tf, h1, h2⟩ := tks_pr h (rest := []) (p := j) (ts := [⟨"end", "", j + (prF f).length⟩]) trivial .nil
  rw [List.append_nil] at h1
  refine ⟨_, h1, ?_⟩
  obtain ⟨x, r, e1, e2⟩ := head_q h
  rw [e1] at h2
  obtain ⟨t, tr, et, e3, e4⟩ := List.map_eq_cons_iff.mp h2
  have hr := rdf_pr h (n := 18) (by omega) (tf := tf) (t := ⟨"end", "", j + (prF f).length⟩) (r := []) (by rw [h2, e1]) rfl
  rw [et] at hr ⊢
  exact ⟨t, ⟨"end", "", j + (prF f).length⟩, tr ++ [⟨"end", "", j + (prF f).length⟩], rfl, rfl, .inl ⟨by rw [show t.k = x.1 from congrArg Prod.fst e3]; exact e2, rfl, rfl, [], hr⟩⟩
theorem nm2_k : ∀ s ∈ nm2, nameOk s = true ∧ s.length ≤ 4 ∧ PyData.strOk s = true := by decide +kernel
theorem kok_w : ∀ {f : Fm}, Wo nm2 f → Kok f
  | .c0 k, h => fun z => by
    have h : k = "true" ∨ k = "false" := h
    rw [z] at h
    exact absurd h (by decide +kernel)
  | .sg s, h => Nat.le_trans (nm2_k s h).2.1 (by decide)
  | .un k f, h => ⟨un_ne h.1, kok_w h.2⟩
  | .bin k f g, h => ⟨bin_ne h.1, kok_w h.2.1, kok_w h.2.2⟩
theorem cc40 (l : List Nat) : c40 l = cC 40 l := rfl
theorem fbd_len {b : Str} {f : Fm} (h : Fbd b f) : b.length ≤ 101 ∧ Txt.count b (Str.ofString "(") ≤ 20 := by
  have hl := h.1.ln
  have hb : sB.length = 1 := by decide +kernel
  have hc := prF_c40 (wo_ok (fun s hs => (nm2_k s hs).1) h.1.wo)
  have h2 : 2 ^ pdp f ≤ 2 ^ 2 := Nat.pow_le_pow_right (by decide) h.1.pd
  rw [count40]
  rcases h.2 with e | e
  · rw [e]
    exact ⟨by omega, by omega⟩
  · have e2 : c40 b.cps.toList = c40 (prF f).cps.toList := by
      rw [e]
      show c40 (tl (sB ++ prF f)) = _
      rw [tl_app, tl_sB, c40_app]
      show 0 + _ = _
      rw [Nat.zero_add]
    rw [e2]
    exact ⟨by rw [e, slen]; omega, by omega⟩
theorem fbd_tk {b : Str} {f : Fm} (h : Fbd b f) : ∃ tz, Tks b.cps.toList 0 tz ∧ Rda 24 tz "" [] f := by
  have hok := wo_ok (fun s hs => (nm2_k s hs).1) h.1.wo
  have hp := h.1.pd
  rcases h.2 with e | e
  · obtain ⟨tz, h1, h2⟩ := rda_j hok (by omega) 0
    exact ⟨tz, by rw [e]; exact h1, h2⟩
  · obtain ⟨tz, h1, h2⟩ := rda_j hok (by omega) 1
    refine ⟨tz, ?_, h2⟩
    have e2 : b.cps.toList = 32 :: tl (prF f) := by
      rw [e]
      show tl (sB ++ prF f) = _
      rw [tl_app, tl_sB]
      rfl
    rw [e2]
    exact .sp h1
def oddF (b : Str) : Option (Str × Er) := oddL.find? fun p => decide (p.1 = b)
open Classical in
noncomputable def Rf (nm : List Str) (b : Str) : Res :=
  match oddF b with
  | some p => erR p.2
  | none => if h : ∃ f, Fbd b f then (match unkL nm (pre h.choose) with | some x => .unk x | none => .ok h.choose) else .big
def X9 : Fm := .un "next" (.un "next" (.un "next" (.un "next" (.un "next" (.un "next" (.un "next" (.un "next" (.un "next" (.c0 "true")))))))))
theorem odd_pos : ∀ p ∈ ([("(true", 5), ("true true", 5), ("G", 1), ("", 0), ("true & -", 7)] : List (Str × Nat)), p.1.length ≤ 13 ∧ Txt.count p.1 (Str.ofString "(") ≤ 1 ∧ pf (lx 20 (tl p.1) 0) = (p.2 : Int) := by decide +kernel
theorem pos_ok {b : Str} {k : Nat} {nm : List Str} (h1 : b.length ≤ 13) (h2 : Txt.count b (Str.ofString "(") ≤ 1) (h3 : pf (lx 20 (tl b) 0) = (k : Int)) : PpR nm b (.pos k) := by
  have ht : Tks b.cps.toList 0 (lx 20 (tl b) 0) := lx_ok (by rw [← len_tl]; omega)
  obtain ⟨w1, _, hnp⟩ := tks_all ht
  rw [count40] at h2
  refine ⟨by omega, by rw [count40]; omega, _, ht, ?_⟩
  rcases tot_all (n := 24) w1 (by omega) with ⟨_, _, _, _, e⟩ | ⟨p, hr, e⟩
  · rw [h3] at e
    omega
  · rw [h3] at e
    rw [show k = p by omega]
    exact hr
theorem bnd_ok {f : Fm} (h : FOk f) : Bnds [] f := by
  refine ⟨by decide, by have := h.dp; omega, ?_, ?_⟩
  · rw [cntK_pre]; exact h.tp
  · show cntK dblK (pre f) ≤ 6
    rw [cntK_pre]; exact h.db
theorem odd_fm : (∀ s ∈ (["nobody"] : List Str), nameOk s = true ∧ s.length ≤ 13 ∧ Txt.count s (Str.ofString "(") ≤ 1 ∧ prF (.sg s) = s) ∧ prF X9 = "XXXXXXXXXtrue" ∧ cntK tpK (pre X9) = 9 ∧ ("XXXXXXXXXtrue" : Str).length ≤ 13 ∧ Txt.count "XXXXXXXXXtrue" (Str.ofString "(") ≤ 1 ∧ (Str.ofString "next" ∈ unOps) := by decide +kernel
theorem odd_ok {b : Str} {e : Er} {nm : List Str} (h : (b, e) ∈ oddL) (hn : ("nobody" : Str) ∉ nm) : PpR nm b (erR e) := by
  have p := odd_pos
  unfold oddL at h
  rcases List.mem_cons.mp h with h | h
  · cases h; have := p (("(true" : Str), 5) (by simp); exact pos_ok this.1 this.2.1 this.2.2
  rcases List.mem_cons.mp h with h | h
  · cases h; have := p (("true true" : Str), 5) (by simp); exact pos_ok this.1 this.2.1 this.2.2
  rcases List.mem_cons.mp h with h | h
  · cases h; have := p (("G" : Str), 1) (by simp); exact pos_ok this.1 this.2.1 this.2.2
  rcases List.mem_cons.mp h with h | h
  · cases h; have := p (("" : Str), 0) (by simp); exact pos_ok this.1 this.2.1 this.2.2
  rcases List.mem_cons.mp h with h | h
  · cases h; have := p (("true & -" : Str), 7) (by simp); exact pos_ok this.1 this.2.1 this.2.2
  rcases List.mem_cons.mp h with h | h
  · cases h
    obtain ⟨h1, h2, h3, h4⟩ := odd_fm.1 "nobody" (by simp)
    obtain ⟨tz, t1, t2⟩ := rda_j (f := .sg "nobody") h1 (by decide) 0
    rw [h4] at t1
    refine ⟨by omega, by omega, tz, .sg "nobody", t1, t2, Nat.le_trans h2 (by decide), by decide, ?_⟩
    show (if ("nobody" : Str) ∈ nm then unkL nm [] else some "nobody") = _
    rw [if_neg hn]
  · have h := List.mem_singleton.mp h
    cases h
    obtain ⟨_, h1, h2, h3, h4, h5⟩ := odd_fm
    have hok : Okf X9 := ⟨h5, h5, h5, h5, h5, h5, h5, h5, h5, .inl rfl⟩
    obtain ⟨tz, t1, t2⟩ := rda_j (f := X9) hok (by decide) 0
    rw [h1] at t1
    have hk := un_ne h5
    refine ⟨by omega, by omega, tz, X9, t1, t2, ⟨hk, hk, hk, hk, hk, hk, hk, hk, hk, show Str.ofString "true" ≠ sSig by decide +kernel⟩, by decide, rfl, fun z => ?_⟩
    have := z.2.2.1
    rw [h2] at this
    omega
theorem fm_ok {nm : List Str} {b : Str} {f : Fm} (h : Fbd b f) : PpR nm b (match unkL nm (pre f) with | some x => .unk x | none => .ok f) := by
  obtain ⟨h1, h2⟩ := fbd_len h
  obtain ⟨tz, t1, t2⟩ := fbd_tk h
  have hk := kok_w h.1.wo
  have hz := h.1.sz
  cases e : unkL nm (pre f) with
  | none => exact ⟨by omega, h2, tz, t1, t2, hk, by omega, e, bnd_ok h.1, wo_ok (fun s hs => (nm2_k s hs).1) h.1.wo⟩
  | some x => exact ⟨by omega, h2, tz, f, t1, t2, hk, by omega, e⟩
theorem rf_ok {nm : List Str} {b : Str} (h : Bd b) (hn : ("nobody" : Str) ∉ nm) : PpR nm b (Rf nm b) := by
  unfold Rf
  cases e : oddF b with
  | some p =>
    unfold oddF at e
    have h1 := List.mem_of_find?_eq_some e
    have h2 : p.1 = b := by simpa using List.find?_some e
    rw [← h2]
    exact odd_ok (e := p.2) h1 hn
  | none =>
    rcases h with ⟨e', h⟩ | h
    · unfold oddF at e
      have := List.find?_eq_none.mp e _ h
      simp at this
    · dsimp only
      rw [dif_pos h]
      exact fm_ok h.choose_spec
/-- a printed formula is none of the odd texts -/
theorem fbd_odd {b : Str} {f : Fm} (h : Fbd b f) : ∀ p ∈ oddL, b ≠ p.1 := by
  intro p hp e
  have hc := ch_prF h.1.wo
  have hu := up_prF h.1.wo
  have ht := h.1.tp
  have key : ∀ p ∈ oddL, ∀ d ∈ ([[], [32]] : List (List Nat)), ∀ r, tl p.1 = d ++ r → ¬ (cC 32 r = 2 * cC 40 r ∧ cC 110 r = 0 ∧ 4 ≤ r.length ∧ up r ≤ 8) := by
    intro p hp d hd r e
    have k0 : ∀ p ∈ oddL, ¬ (cC 32 (tl p.1) = 2 * cC 40 (tl p.1) ∧ cC 110 (tl p.1) = 0 ∧ 4 ≤ (tl p.1).length ∧ up (tl p.1) ≤ 8) ∧ (tl p.1).head? ≠ some 32 := by
      unfold oddL
      intro p hp
      simp only [List.mem_cons, List.not_mem_nil, or_false] at hp
      rcases hp with rfl | rfl | rfl | rfl | rfl | rfl | rfl <;> decide +kernel
    rcases List.mem_cons.mp hd with rfl | hd
    · rw [List.nil_append] at e
      rw [← e]
      exact (k0 p hp).1
    · rw [List.mem_singleton.mp hd] at e
      exact absurd (by rw [e]; rfl) (k0 p hp).2
  rcases h.2 with e2 | e2
  · exact key p hp [] (by simp) (tl (prF f)) (by rw [← e, e2]; rfl) ⟨hc.1, hc.2.1, hc.2.2, by omega⟩
  · exact key p hp [32] (by simp) (tl (prF f)) (by rw [← e, e2, tl_app, tl_sB]) ⟨hc.1, hc.2.1, hc.2.2, by omega⟩
theorem fbd_sg {b : Str} {f : Fm} (h : Fbd b f) : Sg (tl b) (sgF f) := by
  have h1 := sg_prF h.1.wo (r := []) (ns := []) (fun c hc => by cases hc) .nil
  rw [List.append_nil, List.append_nil] at h1
  rcases h.2 with e | e
  · rw [e]; exact h1
  · rw [e, tl_app, tl_sB]
    exact .sep (by decide) h1
theorem fbd_up {b : Str} {f : Fm} (h : Fbd b f) : up (tl b) = cnt tpK f := by
  have h1 := up_prF h.1.wo
  rcases h.2 with e | e
  · rw [e]; exact h1
  · rw [e, tl_app, tl_sB, up_app, h1]
    have : up [32] = 0 := by decide
    omega
end
section
open TL
/-! lines -/
def hLits : List Str := ["inputs", "inputs qa1x", "inputs qa1x qb2q", "outputs", "outputs qa1x", "outputs qb2q", "outputs qa1x qb2q", "lead -3", "lead -2", "lead -1", "lead 0", "lead 1", "lead 2", "negated",
  "", "outputs qz9x", "lead 3", "lead -0", "lead 00", "lead  1", " negated", "negated ", "assume", "guarantee", "inputs qa1x qa1x", "inputs  qa1x"]
def leadsL : List Str := ["lead -3", "lead -2", "lead -1", "lead 0", "lead 1", "lead 2"]
def LnC (l : Str) : Prop := l ∈ hLits ∨ ∃ b, Bd b ∧ (l = wA ++ b ∨ l = wG ++ b)
theorem bd_f {b : Str} (h : Bd b) : b.length ≤ 101 ∧ 10 ∉ tl b := by
  rcases h with ⟨e, h⟩ | ⟨f, h⟩
  · have k : ∀ p ∈ oddL, p.1.length ≤ 101 ∧ 10 ∉ tl p.1 := by
      unfold oddL
      intro p hp
      simp only [List.mem_cons, List.not_mem_nil, or_false] at hp
      rcases hp with rfl | rfl | rfl | rfl | rfl | rfl | rfl <;> decide +kernel
    exact k _ h
  · refine ⟨(fbd_len h).1, ?_⟩
    have h1 := prF_free (wo_ok (fun s hs => (nm2_k s hs).1) h.1.wo)
    rcases h.2 with e | e
    · rw [e]; exact h1
    · rw [e]; exact app_free (by rw [tl_sB]; decide) h1
theorem lit_f : ∀ l ∈ hLits, l.length ≤ 20 ∧ 10 ∉ tl l ∧ Txt.startswith l wA = false ∧ Txt.startswith l wG = false ∧ (Txt.partition l sB).2.2.length ≤ 20 := by decide +kernel
theorem wd_len : wA.length = 7 ∧ wG.length = 10 := by decide +kernel
theorem wA_f (b : Str) : wA ++ b ≠ wN ∧ Txt.startswith (wA ++ b) wA = true ∧ Txt.startswith (wA ++ b) wG = false ∧ bdA (wA ++ b) = b := by
  obtain ⟨w1, w2, w3⟩ := wd_tl
  have h1 : Txt.startswith (wA ++ b) wA = true := by rw [sw_iff, tl_app, List.take_left]
  refine ⟨fun z => ?_, h1, ?_, ext_tl ?_⟩
  · have := congrArg tl z
    rw [tl_app, w1, w3] at this
    cases this
  · cases e : Txt.startswith (wA ++ b) wG with
    | false => rfl
    | true => exact (sw_excl h1 e).elim
  · unfold bdA
    rw [cut_lo, tl_app, List.drop_left]
theorem wG_f (b : Str) : wG ++ b ≠ wN ∧ Txt.startswith (wG ++ b) wG = true ∧ Txt.startswith (wG ++ b) wA = false ∧ bdG (wG ++ b) = b := by
  obtain ⟨w1, w2, w3⟩ := wd_tl
  have h1 : Txt.startswith (wG ++ b) wG = true := by rw [sw_iff, tl_app, List.take_left]
  refine ⟨fun z => ?_, h1, ?_, ext_tl ?_⟩
  · have := congrArg tl z
    rw [tl_app, w2, w3] at this
    cases this
  · cases e : Txt.startswith (wG ++ b) wA with
    | false => rfl
    | true => exact (sw_excl e h1).elim
  · unfold bdG
    rw [cut_lo, tl_app, List.drop_left]
theorem wAG : wA = Str.ofString "assume" ++ sB ∧ wG = Str.ofString "guarantee" ++ sB ∧ 32 ∉ tl (Str.ofString "assume") ∧ 32 ∉ tl (Str.ofString "guarantee") := by decide +kernel
theorem pr_part (b : Str) : Txt.partition (wA ++ b) sB = (Str.ofString "assume", sB, b) ∧ Txt.partition (wG ++ b) sB = (Str.ofString "guarantee", sB, b) := by
  obtain ⟨e1, e2, f1, f2⟩ := wAG
  rw [e1, e2]
  exact ⟨partition_app tl_sB f1, partition_app tl_sB f2⟩
theorem head_tl {w : Str} {l : Str} (hw : 32 ∉ tl w) (r : List Nat) (h : tl l = tl w ++ (32 :: r)) : (wds l).head? = some w := by
  have e := wds_tl l
  rw [h, show tl w ++ (32 :: r) = tl w ++ ([32] ++ r) from rfl, spl_part1 hw, List.nil_append] at e
  cases hh : wds l with
  | nil => exact absurd hh (wds_ne l)
  | cons a b =>
    rw [hh] at e
    rw [List.map_cons] at e
    rw [List.head?_cons, ext_tl (List.cons.inj e).1]
theorem pr_head (b : Str) : (wds (wA ++ b)).head? = some (Str.ofString "assume") ∧ (wds (wG ++ b)).head? = some (Str.ofString "guarantee") := by
  obtain ⟨e1, e2, f1, f2⟩ := wAG
  refine ⟨head_tl f1 (tl b) ?_, head_tl f2 (tl b) ?_⟩
  · rw [e1, tl_app, tl_app, tl_sB, List.append_assoc]; rfl
  · rw [e2, tl_app, tl_app, tl_sB, List.append_assoc]; rfl
theorem ln_f {l : Str} (h : LnC l) : l.length ≤ 111 ∧ 10 ∉ tl l ∧ (Txt.partition l sB).2.2.length ≤ 1000 := by
  rcases h with h | ⟨b, hb, h⟩
  · have := lit_f l h
    exact ⟨by omega, this.2.1, by omega⟩
  · have h1 := bd_f hb
    have h2 := wd_len
    obtain ⟨w1, w2, w3⟩ := wd_tl
    have fr : 10 ∉ tl wA ∧ 10 ∉ tl wG := by rw [w1, w2]; decide
    rcases h with rfl | rfl
    · exact ⟨by rw [slen]; omega, app_free fr.1 h1.2, by rw [(pr_part b).1]; show b.length ≤ _; omega⟩
    · exact ⟨by rw [slen]; omega, app_free fr.2 h1.2, by rw [(pr_part b).2]; show b.length ≤ _; omega⟩
theorem ln_A {l : Str} (h : LnC l) (hs : Txt.startswith l wA = true) : Bd (bdA l) ∧ l = wA ++ bdA l := by
  rcases h with h | ⟨b, hb, rfl | rfl⟩
  · rw [(lit_f l h).2.2.1] at hs; cases hs
  · rw [(wA_f b).2.2.2]; exact ⟨hb, rfl⟩
  · rw [(wG_f b).2.2.1] at hs; cases hs
theorem ln_G {l : Str} (h : LnC l) (hs : Txt.startswith l wG = true) : Bd (bdG l) ∧ l = wG ++ bdG l := by
  rcases h with h | ⟨b, hb, rfl | rfl⟩
  · rw [(lit_f l h).2.2.2.1] at hs; cases hs
  · rw [(wA_f b).2.2.1] at hs; cases hs
  · rw [(wG_f b).2.2.2]; exact ⟨hb, rfl⟩
/-! the first three lines -/
def wokL (w : Str) : Bool := decide (w ≠ "") && (match tl w with | [] => false | c :: _ => okW true c) && (tl w).all (okW false) && decide (w ≠ "true")
def lawN (nm : List Str) : List Str → Option (List Str)
  | [] => some nm
  | w :: r => if wokL w = true ∧ w ∉ nm then lawN (nm ++ [w]) r else none
def lawH (l wd : Str) (nm : List Str) : Option (List Str) := if (wds l).head? = some wd ∧ (wds l).length ≤ 4 then lawN nm (wds l).tail else none
def prgH (l wd : Str) (os : List Str) : Option (List Str) := if (wds l).head? = some wd ∧ (wds l).tail.length ≤ 3 ∧ (wds l).tail.all nameOk = true ∧ ((wds l).tail ++ os).Nodup then some (wds l).tail else none
def oss : List (List Str) := [[], ["qa1x"], ["qa1x", "qb2q"]]
theorem hdr_lit : ∀ l ∈ hLits, ∀ os ∈ oss, ∀ wd ∈ ([wI, wO] : List Str), lawH l wd os = (prgH l wd os).map (os ++ ·) ∧ ((prgH l wI []).all fun t => decide (t ∈ oss)) = true ∧ ((prgH l wd os).all fun t => t.all fun s => decide (s.length ≤ 4)) = true := by decide +kernel
theorem lead_lit : ∀ l ∈ hLits, (match whV (tl (Txt.partition l sB).2.2) with | .int L => decide ((Txt.partition l sB).1 = Str.ofString "lead" ∧ -3 ≤ L ∧ L ≤ 2) | _ => false) = decide (l ∈ leadsL) := by decide +kernel
theorem wIO : (∀ wd ∈ ([wI, wO] : List Str), Str.ofString "assume" ≠ wd ∧ Str.ofString "guarantee" ≠ wd ∧ 32 ∉ tl wd ∧ wd.length ≤ 7) ∧ Str.ofString "assume" ≠ Str.ofString "lead" ∧ Str.ofString "guarantee" ≠ Str.ofString "lead" := by decide +kernel
theorem pr_none {l wd : Str} (hw : wd ∈ ([wI, wO] : List Str)) {b : Str} (h : l = wA ++ b ∨ l = wG ++ b) : (wds l).head? ≠ some wd := by
  intro z
  have k := wIO.1 wd hw
  rcases h with rfl | rfl
  · rw [(pr_head b).1] at z
    exact k.1 (Option.some.inj z)
  · rw [(pr_head b).2] at z
    exact k.2.1 (Option.some.inj z)
theorem hdr {l wd : Str} {os : List Str} (h : LnC l) (ho : os ∈ oss) (hw : wd ∈ ([wI, wO] : List Str)) : lawH l wd os = (prgH l wd os).map (os ++ ·) ∧ (∀ t, prgH l wI [] = some t → t ∈ oss) ∧ (∀ t, prgH l wd os = some t → ∀ s ∈ t, s.length ≤ 4) := by
  rcases h with h | ⟨b, _, h⟩
  · obtain ⟨h1, h2, h3⟩ := hdr_lit l h os ho wd hw
    refine ⟨h1, fun t e => ?_, fun t e s hs => ?_⟩
    · rw [e] at h2
      exact of_decide_eq_true h2
    · rw [e] at h3
      exact of_decide_eq_true (List.all_eq_true.mp h3 s hs)
  · have n1 := pr_none hw h
    have n2 := pr_none (wd := wI) (by simp) h
    have e1 : prgH l wd os = none := if_neg fun z => n1 z.1
    refine ⟨by rw [e1]; exact if_neg fun z => n1 z.1, fun t e => ?_, fun t e => ?_⟩
    · rw [show prgH l wI [] = none from if_neg fun z => n2 z.1] at e
      cases e
    · rw [e1] at e
      cases e
theorem rn_prg {ls : List Str} {j : Nat} {wd l : Str} {os : List Str} (hl : ls[j]? = some l) : rnE ls j wd os = match prgH l wd os with | some t => .inr t | none => .inl j := by
  unfold rnE prgH
  rw [hl]
  dsimp only
  split <;> rfl
theorem lead_lnc {ls : List Str} {j : Nat} {l : Str} (h : LnC l) (hl : ls[j]? = some l) : (l ∈ leadsL → ∃ L, rlE ls j = .inr L) ∧ (l ∉ leadsL → rlE ls j = .inl j) := by
  rcases h with h | ⟨b, _, h⟩
  · have k := lead_lit l h
    unfold rlE
    rw [hl]
    dsimp only
    rcases whV_or (tl (Txt.partition l sB).2.2) with e | ⟨L, e⟩
    · rw [e] at k ⊢
      exact ⟨fun z => by rw [decide_eq_true z] at k; (cases k), fun _ => rfl⟩
    · rw [e] at k ⊢
      dsimp only at k ⊢
      constructor
      · intro z
        rw [decide_eq_true z] at k
        exact ⟨L, if_pos (of_decide_eq_true k)⟩
      · intro z
        rw [decide_eq_false z] at k
        exact if_neg (of_decide_eq_false k)
  · have nl : l ∉ leadsL := fun z => by
      have k : ∀ x ∈ leadsL, x ∈ hLits := by decide +kernel
      have f := lit_f l (k l z)
      rcases h with rfl | rfl
      · rw [(wA_f b).2.1] at f; cases f.2.2.1
      · rw [(wG_f b).2.1] at f; cases f.2.2.2.1
    refine ⟨fun z => absurd z nl, fun _ => ?_⟩
    have np : (Txt.partition l sB).1 ≠ Str.ofString "lead" := by
      rcases h with rfl | rfl
      · rw [(pr_part b).1]; exact wIO.2.1
      · rw [(pr_part b).2]; exact wIO.2.2
    unfold rlE
    rw [hl]
    dsimp only
    rcases whV_or (tl (Txt.partition l sB).2.2) with e | ⟨L, e⟩
    · rw [e]
    · rw [e]
      exact if_neg fun z => np z.1
/-! the text -/
theorem joinL_snoc (S x : List Nat) : ∀ ls : List (List Nat), joinL S (ls ++ [x]) = (ls.map (· ++ S)).flatten ++ x
  | [] => rfl
  | [l] => by
    show l ++ (S ++ x) = ((l ++ S) ++ []) ++ x
    rw [List.append_nil, List.append_assoc]
  | l :: m :: ls => by
    show l ++ (S ++ joinL S ((m :: ls) ++ [x])) = ((l ++ S) ++ ((m :: ls).map (· ++ S)).flatten) ++ x
    rw [joinL_snoc S x (m :: ls), List.append_assoc, List.append_assoc]
theorem cat_split2 {ls : List Str} {x : Str} (h : ∀ l ∈ ls, 10 ∉ tl l) (hx : 10 ∉ tl x) : Txt.split (cat ls ++ x) sN = ls ++ [x] := by
  have e : cat ls ++ x = Txt.join sN (ls ++ [x]) := ext_tl (by
    rw [tl_app, tl_cat, tl_jn, List.map_append, tl_sN]
    show _ = joinL [10] (_ ++ [tl x])
    rw [joinL_snoc])
  rw [e]
  refine split_join tl_sN (by decide +kernel) (by simp) fun p hp => ?_
  rcases List.mem_append.mp hp with hp | hp
  · exact h p hp
  · rw [List.mem_singleton.mp hp]; exact hx
theorem txOk {ls : List Str} {rest t : Str} (ht : t = cat ls ++ rest) (hl : ls.length ≤ 20) (hc : ∀ l ∈ ls, LnC l) (hr : rest.length ≤ 200) (hx : 10 ∉ tl rest) : TxOk Rf t ls rest := by
  have hl1 : ∀ l ∈ ls, l.length ≤ 111 := fun l h => (ln_f (hc l h)).1
  have hlen := cat_len hl1
  refine ⟨by rw [ht]; exact cat_split2 (fun l h => (ln_f (hc l h)).2.1) hx, ?_, by omega, fun l h => ⟨by have := hl1 l h; omega, (ln_f (hc l h)).2.2⟩, fun ins outs hi ho => ?_⟩
  · rw [ht, slen]
    have : (111 + 1) * ls.length ≤ 112 * 20 := Nat.mul_le_mul_left _ hl
    omega
  · obtain ⟨l0, e0, _⟩ := rnE_ok hi
    obtain ⟨l1, e1, _⟩ := rnE_ok ho
    rw [rn_prg e0] at hi
    rw [rn_prg e1] at ho
    have hi' : prgH l0 wI [] = some ins := by
      cases e : prgH l0 wI [] with
      | none => rw [e] at hi; cases hi
      | some t => rw [e] at hi; cases hi; rfl
    have ho' : prgH l1 wO ins = some outs := by
      cases e : prgH l1 wO ins with
      | none => rw [e] at ho; cases ho
      | some t => rw [e] at ho; cases ho; rfl
    have h0 := hc l0 (List.mem_of_getElem? e0)
    have h1 := hc l1 (List.mem_of_getElem? e1)
    have d0 := hdr (wd := wI) (os := []) h0 (by simp [oss]) (by simp)
    have io := d0.2.1 ins hi'
    have d1 := hdr (wd := wO) h1 io (by simp)
    have n4 : ∀ s ∈ ins ++ outs, s.length ≤ 4 := fun s hs => (List.mem_append.mp hs).elim (d0.2.2 ins hi' s) (d1.2.2 outs ho' s)
    have hno : ("nobody" : Str) ∉ ins ++ outs := fun z => absurd (n4 _ z) (by decide +kernel)
    exact ⟨n4, fun l hl hs => rf_ok (ln_A (hc l hl) hs).1 hno, fun l hl hs => rf_ok (ln_G (hc l hl) hs).1 hno⟩
end
section
open TL
theorem ninqT {H : Hp} {p : Addr} {ss : List Str} {k : Str} {Q : VK} (h : SqT K H p (ss.map V.str)) (q : Q (.bl (!decide (k ∈ ss))) H) : rIn K true (.str k) (.ref p) H Q :=
  ⟨p, _, rfl, .inr h, rfl, L2.flat_strs ss, by rw [in_strs]; exact q⟩
/-- what the header of the law answers: a line, or the names -/
def hdR (ls : List Str) : Sum Nat (List Str) :=
  match rnE ls 0 wI [] with
  | .inl p => .inl p
  | .inr ins => match rnE ls 1 wO ins with
    | .inl p => .inl p
    | .inr outs => match rlE ls 2 with
      | .inl p => .inl p
      | .inr _ => .inr (ins ++ outs)
def spHd8 : Sp := fun vs H Q _ => ∃ (a n : Addr) (ls : List Str), vs = [.ref a, .ref n] ∧ n ≠ a ∧ H a = some (.lst (ls.map V.str)) ∧ H n = some (.lst []) ∧ ls.length ≤ 100 ∧ (∀ l ∈ ls, LnC l) ∧
  (∀ p, hdR ls = .inl p → ∀ H', Kp n H H' → Q (.int (p : Int)) H') ∧ (∀ nm, hdR ls = .inr nm → ∀ H', Kp n H H' → H' n = some (.lst (nm.map V.str)) → Q (.int (-1)) H')
/-- after i lines of the header -/
def HI (ls : List Str) (i : Nat) (nm : List Str) : Prop := (i = 0 ∧ nm = []) ∨ (i = 1 ∧ rnE ls 0 wI [] = .inr nm ∧ nm ∈ oss ∧ 1 ≤ ls.length) ∨ (i = 2 ∧ ∃ ins outs, rnE ls 0 wI [] = .inr ins ∧ rnE ls 1 wO ins = .inr outs ∧ nm = ins ++ outs ∧ 2 ≤ ls.length ∧ ins.length ≤ 3 ∧ outs.length ≤ 3)
def wdI (i : Nat) : Str := if i = 0 then wI else wO
theorem hi_step {ls : List Str} {i : Nat} {nm : List Str} (h : HI ls i nm) (hi : i < 2) (hc : ∀ l ∈ ls, LnC l) : (ls[i]? = none → hdR ls = .inl i) ∧ nm.length ≤ 3 ∧ ∀ l, ls[i]? = some l → (lawH l (wdI i) nm = none → hdR ls = .inl i) ∧ ∀ t, lawH l (wdI i) nm = some t → HI ls (i + 1) t := by
  rcases h with ⟨rfl, rfl⟩ | ⟨rfl, h1, h2, h3⟩ | ⟨rfl, _⟩
  · refine ⟨fun e => ?_, Nat.zero_le _, fun l e => ?_⟩
    · have el : ls.length = 0 := by have := List.getElem?_eq_none_iff.mp e; omega
      unfold hdR
      rw [show rnE ls 0 wI [] = .inl ls.length by unfold rnE; rw [e], el]
    · have k := hdr (wd := wI) (os := []) (hc l (List.mem_of_getElem? e)) (by simp [oss]) (by simp)
      have hr := rn_prg (wd := wI) (os := []) e
      refine ⟨fun z => ?_, fun t z => ?_⟩
      · have k1 := k.1
        rw [show wdI 0 = wI from rfl] at z
        rw [z] at k1
        cases hp : prgH l wI [] with
        | some t => rw [hp] at k1; cases k1
        | none =>
          rw [hp] at hr
          unfold hdR
          rw [hr]
      · have k1 := k.1
        rw [show wdI 0 = wI from rfl] at z
        rw [z] at k1
        cases hp : prgH l wI [] with
        | none => rw [hp] at k1; cases k1
        | some u =>
          rw [hp] at hr k1
          have : t = u := by cases k1; rfl
          subst this
          exact .inr (.inl ⟨rfl, hr, k.2.1 _ hp, by have := (List.getElem?_eq_some_iff.mp e).1; omega⟩)
  · have hl3 : nm.length ≤ 3 := by
      have : ∀ x ∈ oss, x.length ≤ 3 := by decide
      exact this nm h2
    refine ⟨fun e => ?_, hl3, fun l e => ?_⟩
    · have el : ls.length = 1 := by have := List.getElem?_eq_none_iff.mp e; omega
      unfold hdR
      rw [h1]
      dsimp only
      rw [show rnE ls 1 wO nm = .inl ls.length by unfold rnE; rw [e], el]
    · have k := hdr (wd := wO) (os := nm) (hc l (List.mem_of_getElem? e)) h2 (by simp)
      have hr := rn_prg (wd := wO) (os := nm) e
      refine ⟨fun z => ?_, fun t z => ?_⟩
      · have k1 := k.1
        rw [show wdI 1 = wO from rfl] at z
        rw [z] at k1
        cases hp : prgH l wO nm with
        | some t => rw [hp] at k1; cases k1
        | none =>
          rw [hp] at hr
          unfold hdR
          rw [h1]
          dsimp only
          rw [hr]
      · have k1 := k.1
        rw [show wdI 1 = wO from rfl] at z
        rw [z] at k1
        cases hp : prgH l wO nm with
        | none => rw [hp] at k1; cases k1
        | some u =>
          rw [hp] at hr k1
          have : t = nm ++ u := by cases k1; rfl
          subst this
          have hu := (rnE_ok hr)
          obtain ⟨_, _, _, _, hu3, _⟩ := hu
          exact .inr (.inr ⟨rfl, nm, u, h1, hr, rfl, by have := (List.getElem?_eq_some_iff.mp e).1; omega, hl3, hu3⟩)
  · omega
theorem alnum_tl : (Str.ofString "abcdefghijklmnopqrstuvwxyz0123456789").cps.toList = tLC.cps.toList ++ tDG.cps.toList := by decide +kernel
theorem alnum_mem (c : Nat) : decide (c ∈ (Str.ofString "abcdefghijklmnopqrstuvwxyz0123456789").cps.toList) = okW false c := by
  rw [alnum_tl]
  unfold okW
  rw [Bool.not_false, Bool.true_and, ← Bool.decide_or]
  congr 1
  exact propext List.mem_append
theorem low_mem (c : Nat) : decide (c ∈ (Str.ofString "abcdefghijklmnopqrstuvwxyz").cps.toList) = okW true c := by
  unfold okW
  rw [Bool.not_true, Bool.false_and, Bool.or_false]
theorem cal_hd (T : Txt K mg w P) : C8.Cal P w K mg base 1 "_law_header" spHd8 [] := by
  obtain ⟨f, fd, F, hm, hb⟩ := T.h_law_header
  refine ⟨f, fd, _, [], F.ok sc_law_header (fun vs H Q E h => ?_) (fun cdv A outer s H vs Q E hr h => ?_), hm, F.kp, hb, .nil⟩
  · obtain ⟨a, n, ls, rfl, _⟩ := h
    rfl
  · obtain ⟨a, n, ls, rfl, hna, ha, hn, hl, hc, qe, q⟩ := h
    refine ⟨_, (pss_cons
      (ps_for PassesOwn.never rfl (pi_range1 (by rfl) T.z_range (pa_cons pe_int pa_nil)) (pg_name (i := 2) sc_law_header.nd rfl (.inl rfl)) (pss_cons
      (ps_if (pt_cmpR op_ge (pv 2) (pe_callB (call_lenK (K := K) rfl) (by rfl) T.z_len PySem.boot_len (pa_cons (pv 0) pa_nil)) (nomark _)) (pss_one
      (ps_ret (pv 2))) pss_nil)
      (pss_cons
      (ps_set (i := 3) sc_law_header.nd rfl (Or.inl rfl) (pe_m1 PySem.F.slot_str_split PySem.F.type_str_split mt_split (pe_ix (ix_listK (K := K) rfl) (pv 0) (pv 2) (fun _ _ => rfl)) pe_str))
      (pss_cons
      (ps_if (PW.pt (pw_or (pt_cmpR op_ne (pe_ix (ix_listK (K := K) rfl) (pv 3) pe_int (fun _ _ => rfl)) (pe_ix (ix_listK (K := K) rfl) (pe_lst (pa_cons pe_str (pa_cons pe_str pa_nil))) (pv 2) (fun _ _ => rfl)) (nomark _)) (pw_or1 (pt_cmpR op_gt (pe_callB (call_lenK (K := K) rfl) (by rfl) T.z_len PySem.boot_len (pa_cons (pv 3) pa_nil)) pe_int (nomark _))))) (pss_one
      (ps_ret (pv 2))) pss_nil)
      (pss_one
      (ps_for PassesOwn.never rfl (pi_list (pe_slice (sl_listK (K := K) rfl) (pv 3) (po_some pe_int) po_none)) (pg_name (i := 4) sc_law_header.nd rfl (.inl rfl)) (pss_cons
      (ps_if (PW.pt (pw_or (pt_cmpR op_eq (pv 4) pe_str (nomark _)) (pw_or (pt_cmpR op_notIn_sign (pe_ix ix_str (pv 4) pe_int (fun _ _ => rfl)) pe_str (by rfl)) (pw_or (pt_cmpR (op_inK (K := K) rfl) (pv 4) (pv 1) (by rfl)) (pw_or1 (pt_cmpR op_eq (pv 4) pe_str (nomark _))))))) (pss_one
      (ps_ret (pv 2))) pss_nil)
      (pss_cons
      (ps_for PassesOwn.never rfl (pi_str (pv 4)) (pg_name (i := 5) sc_law_header.nd rfl (.inl rfl)) (pss_one
      (ps_if (pt_cmpR op_notIn_sign (pv 5) pe_str (by rfl)) (pss_one
      (ps_ret (pv 2))) pss_nil)))
      (pss_one
      (ps_expr (pe_bm PySem.F.plainAttrs_list PySem.F.slot_list_append PySem.F.type_list_append mt_append (pv 1) (pa_cons (pv 4) pa_nil))))))))))))
      (pss_cons
      (ps_if (PW.pt (pw_or (pt_cmpR op_lt (pe_callB (call_lenK (K := K) rfl) (by rfl) T.z_len PySem.boot_len (pa_cons (pv 0) pa_nil)) pe_int (nomark _)) (pw_or1 (pt_cmpR (op_notInK (K := K) rfl) (pe_ix (ix_listK (K := K) rfl) (pv 0) pe_int (fun _ _ => rfl)) (pe_tup (pa_cons pe_str (pa_cons pe_str (pa_cons pe_str (pa_cons pe_str (pa_cons pe_str (pa_cons pe_str pa_nil))))))) (by rfl))))) (pss_one
      (ps_ret pe_int)) pss_nil)
      (pss_one
      (ps_ret (pe_un un_neg pe_int))))), ?_⟩
    have hlm : (ls.map V.str).length = ls.length := List.length_map _
    refine ⟨_, rfl, by decide, by decide, for_range (lo := 0) (n := (2 : Int).toNat) (fun i σ H' => ∃ (nm : List Str) (v2 v3 v4 v5 : Option V), σ = [some (.ref a), some (.ref n), v2, v3, v4, v5] ∧ Kp n H H' ∧ H' n = some (.lst (nm.map V.str)) ∧ HI ls i nm) ⟨[], none, none, none, none, rfl, Kp.refl _ _, hn, .inl ⟨rfl, rfl⟩⟩ ?_ ?_⟩
    · rintro i σ H1 hi ⟨nm, v2, v3, v4, v5, rfl, k1, n1, hi1⟩
      have hi2 : i < 2 := hi
      obtain ⟨st0, nl3, st⟩ := hi_step hi1 hi2 hc
      rw [show (0 : Int) + (i : Nat) = ((i : Nat) : Int) by omega]
      have a1 := k1 _ _ hna.symm ha
      refine ⟨_, rfl, _, rfl, a, _, rfl, .inl (.of a1), _, _, rfl, rfl, _, rfl, ?_⟩
      rw [hlm]
      by_cases c1 : ls.length ≤ i
      · refine iteB_t (decide_eq_true (by omega)) ⟨_, rfl, qe i (st0 (List.getElem?_eq_none_iff.mpr c1)) H1 k1⟩
      refine iteB_f (decide_eq_false (by omega)) ?_
      obtain ⟨l, el⟩ : ∃ l, ls[i]? = some l := ⟨_, List.getElem?_eq_getElem (by omega)⟩
      obtain ⟨sf, ss⟩ := st l el
      have hll := (ln_f (hc l (List.mem_of_getElem? el))).1
      have hle := wds_le l
      refine ⟨_, rfl, _, rfl, a, _, _, .str l, rfl, rfl, .of a1, atI_nat (by rw [List.getElem?_map, el]; rfl), ⟨_, rfl⟩, l, sB, rfl, rfl, by decide +kernel, Nat.le_trans (Nat.add_le_add_right hll 2) (by decide), fun p1 np1 => ?_⟩
      rw [show Txt.split l sB = wds l from rfl]
      unfold lawH at sf ss
      obtain ⟨w0, ws, hw⟩ : ∃ w0 ss, wds l = w0 :: ss := by
        cases e : wds l with
        | nil => exact absurd e (wds_ne l)
        | cons a b => exact ⟨a, b, rfl⟩
      rw [hw] at sf ss hle ⊢
      generalize hX : upd H1 p1 _ = H2; obtain ⟨sH2, ep1⟩ := nw np1 hX; clear hX
      have lw : ((w0 :: ws).map V.str).length = (w0 :: ws).length := List.length_map _
      refine ⟨_, rfl, p1, _, _, .str w0, rfl, rfl, .of ep1, at0, ?_⟩
      refine ⟨by show 2 ≤ sizeLine; decide, fun p2 np2 => ?_⟩
      generalize hX : upd H2 p2 _ = H3; obtain ⟨sH3, ep2⟩ := nw np2 hX; clear hX
      refine ⟨_, rfl, p2, _, _, .str (wdI i), rfl, rfl, .of ep2, ?_, ?_⟩
      · refine atI_nat ?_
        rcases (show i = 0 ∨ i = 1 by omega) with rfl | rfl <;> rfl
      have s3 := sH2.trans sH3
      have k3 : Kp n H H3 := k1.trans (Same.kp s3)
      have n3 := s3 _ _ n1
      have e13 := sH3 _ _ ep1
      refine ⟨rfl, _, rfl, ite_sn (fun k => ?_) (fun k => ?_)⟩
      · exact ⟨_, rfl, qe i (sf (if_neg fun z => k (Option.some.inj z.1))) H3 k3⟩
      refine ⟨_, rfl, p1, _, rfl, .inl (.of e13), _, _, rfl, rfl, _, rfl, ?_⟩
      rw [lw]
      by_cases c4 : (w0 :: ws).length ≤ 4
      case neg => exact iteB_t (decide_eq_true (by omega)) ⟨_, rfl, qe i (sf (if_neg fun z => c4 z.2)) H3 k3⟩
      refine iteB_f (decide_eq_false (by omega)) ?_
      have hh : (w0 :: ws).head? = some (wdI i) ∧ (w0 :: ws).length ≤ 4 := ⟨by rw [k]; rfl, c4⟩
      rw [if_pos hh] at sf
      have ss : ∀ t, lawN nm ws = some t → HI ls (i + 1) t := fun t z => ss t (by rw [if_pos hh]; exact z)
      have sf : lawN nm ws = none → hdR ls = .inl i := sf
      -- the words
      refine ⟨_, rfl, (1 : Int), rfl, p1, _, rfl, .of e13, fun p4 np4 => ?_⟩
      rw [show cutV ((w0 :: ws).map V.str) (some 1) none = ws.map V.str from cut_drop _ 1]
      generalize hX : upd H3 p4 _ = H4; obtain ⟨sH4, ep4⟩ := nw np4 hX; clear hX
      have k4 : Kp n H H4 := k3.trans (Same.kp sH4)
      have n4 := sH4 _ _ n3
      have n4p : p4 ≠ n := fun z => by rw [z, n3] at np4; cases np4
      have lws : (ws.map V.str).length = ws.length := List.length_map _
      refine ⟨p4, rfl, ⟨_, .of ep4⟩, for_list (K := K) (a := p4) (xs := ws.map V.str) (fun j σ H' => ∃ (mm : List Str) (v4 v5 : Option V), σ = [some (.ref a), some (.ref n), some (.int ((i : Nat) : Int)), some (.ref p1), v4, v5] ∧ Kp n H4 H' ∧ H' n = some (.lst (mm.map V.str)) ∧ mm.length ≤ 3 + j ∧ lawN mm (ws.drop j) = lawN nm ws) ⟨nm, _, _, rfl, Kp.refl _ _, n4, by omega, rfl⟩ (fun j σ H' _ ⟨mm, v4, v5, _, kk, _⟩ => .of (kk _ _ n4p ep4)) ?_ ?_⟩
      · rintro j y σ H5 hj ⟨mm, v4, v5, rfl, k5, n5, l5, e5⟩
        obtain ⟨w, hw5, rfl⟩ := mapg hj
        have hjl := lt_of_get hw5
        have k05 : Kp n H H5 := k4.trans k5
        have hwl : w.length ≤ 1000 := by
          have := hle.1 w (List.mem_cons_of_mem _ (List.mem_of_getElem? hw5))
          omega
        have hz : w.length ≤ sizeLine := Nat.le_trans hwl (by decide)
        have hdr5 : ws.drop j = w :: ws.drop (j + 1) := by
          rw [List.drop_eq_getElem_cons hjl]
          rw [List.getElem?_eq_getElem hjl] at hw5
          rw [Option.some.inj hw5]
        rw [hdr5] at e5
        have fail : ¬ (wokL w = true ∧ w ∉ mm) → Q (.int (i : Nat)) H5 := fun z => by
          refine qe i (sf ?_) H5 k05
          rw [← e5]
          exact if_neg z
        refine ⟨_, rfl, rfl, _, rfl, ite_s (fun k1 => ?_) (fun k1 => ?_)⟩
        · refine ⟨_, rfl, fail fun z => ?_⟩
          have := z.1
          unfold wokL at this
          rw [k1] at this
          exact absurd this (by decide +kernel)
        have hne : tl w ≠ [] := fun z => k1 (str_nil.mpr z)
        obtain ⟨c0, r0, ex⟩ := List.exists_cons_of_ne_nil hne
        have atw : atI w.cps.toList 0 = some c0 := atI_nat (j := 0) (by rw [show w.cps.toList = c0 :: r0 from ex]; rfl)
        refine ⟨_, rfl, w, 0, c0, rfl, rfl, hz, atw, c0, _, rfl, rfl, _, rfl, ?_⟩
        rw [low_mem]
        have wok : wokL w = (okW true c0 && (tl w).all (okW false) && decide (w ≠ "true")) := by
          unfold wokL
          rw [decide_eq_true (show w ≠ "" from k1), ex]
          rfl
        cases h0 : okW true c0 with
        | false =>
          refine iteB_t rfl ⟨_, rfl, fail fun z => ?_⟩
          rw [wok, h0] at z
          exact absurd z.1 (by simp)
        | true =>
        refine iteB_f rfl ?_
        refine ⟨_, rfl, _, rfl, inqL (.inl (.inl n5)) ⟨_, rfl, ?_⟩⟩
        by_cases cm : w ∈ mm
        · exact iteB_t (decide_eq_true cm) ⟨_, rfl, fail fun z => z.2 cm⟩
        refine iteB_f (decide_eq_false cm) ?_
        refine ⟨_, rfl, rfl, _, rfl, ite_s (fun k2 => ?_) (fun k2 => ?_)⟩
        · refine ⟨_, rfl, fail fun z => ?_⟩
          rw [wok, decide_eq_false (fun y => y k2)] at z
          exact absurd z.1 (by simp)
        -- the signs
        have hsz : w.cps.size = (tl w).length := len_tl w
        refine ⟨_, rfl, w, rfl, for_str (x := w) (fun m σ H2 => ∃ v5 : Option V, σ = [some (.ref a), some (.ref n), some (.int ((i : Nat) : Int)), some (.ref p1), some (.str w), v5] ∧ H2 = H5 ∧ ((tl w).take m).all (okW false) = true) ⟨_, rfl, rfl, rfl⟩ ?_ ?_⟩
        · rintro m c σ H2 hcm ⟨v5, rfl, rfl, hall⟩
          have hc2 := cps_tl hcm
          refine ⟨_, rfl, c, _, rfl, rfl, _, rfl, ?_⟩
          rw [alnum_mem]
          cases hd : okW false c with
          | false =>
            refine iteB_t rfl ⟨_, rfl, fail fun z => ?_⟩
            rw [wok, show (tl w).all (okW false) = false from by
              rw [List.all_eq_false]
              exact ⟨c, List.mem_of_getElem? hc2, by rw [hd]; exact Bool.false_ne_true⟩] at z
            exact absurd z.1 (by simp)
          | true =>
            refine iteB_f rfl ⟨_, rfl, rfl, ?_⟩
            rw [take_get hc2, List.all_append, hall]
            show (true && (okW false c && true)) = true
            rw [hd]
            rfl
        rintro σ H2 ⟨v5', rfl, rfl, hall⟩
        rw [hsz, List.take_length] at hall
        have good : wokL w = true ∧ w ∉ mm := ⟨by rw [wok, h0, hall, decide_eq_true (show w ≠ "true" from k2)]; rfl, cm⟩
        refine ⟨_, rfl, .inl ⟨rfl, _, .of n5⟩, _, rfl, n, _, _, rfl, rfl, n5, by rw [List.length_map]; exact Nat.lt_of_le_of_lt (show mm.length ≤ 100 by rw [List.length_cons] at c4; omega) (by decide), ?_⟩
        refine ⟨mm ++ [w], _, _, rfl, k5.trans Kp.own, by rw [upd_same, List.map_append]; rfl, by rw [List.length_append, List.length_singleton]; omega, ?_⟩
        rw [← e5]
        exact (if_pos good).symm
      · rintro σ H5 ⟨mm, v4, v5, rfl, k5, n5, l5, e5⟩
        rw [lws, List.drop_length] at e5
        exact ⟨mm, _, _, _, _, rfl, k4.trans k5, n5, ss mm e5.symm⟩
    · rintro σ H1 ⟨nm, v2, v3, v4, v5, rfl, k1, n1, hi1⟩
      have a1 := k1 _ _ hna.symm ha
      rcases hi1 with ⟨z, _⟩ | ⟨z, _⟩ | ⟨_, ins, outs, h0, h1, rfl, h2, _, _⟩
      · exact absurd z (by decide)
      · exact absurd z (by decide)
      have hR : hdR ls = match rlE ls 2 with | .inl p => .inl p | .inr _ => .inr (ins ++ outs) := by
        unfold hdR
        rw [h0]
        dsimp only
        rw [h1]
      refine ⟨_, rfl, a, _, rfl, .inl (.of a1), _, _, rfl, rfl, _, rfl, ?_⟩
      rw [hlm]
      by_cases c3 : ls.length < 3
      · refine iteB_t (decide_eq_true (by omega)) (qe 2 ?_ H1 k1)
        rw [hR, show rlE ls 2 = .inl ls.length by unfold rlE; rw [List.getElem?_eq_none_iff.mpr (by omega)], show ls.length = 2 by omega]
      refine iteB_f (decide_eq_false (by omega)) ?_
      obtain ⟨l, el⟩ : ∃ l, ls[2]? = some l := ⟨_, List.getElem?_eq_getElem (by omega)⟩
      obtain ⟨lt, lf⟩ := lead_lnc (hc l (List.mem_of_getElem? el)) el
      refine ⟨_, rfl, a, _, _, .str l, rfl, rfl, .of a1, atI_nat (j := 2) (by rw [List.getElem?_map, el]; rfl), by show 6 ≤ sizeLine; decide, fun p5 np5 => ?_⟩
      have s5 := same_new (o := .tup (leadsL.map V.str)) np5
      refine ninqT (ss := leadsL) (.of upd_same) ⟨_, rfl, ?_⟩
      by_cases cl : l ∈ leadsL
      · obtain ⟨L, hL⟩ := lt cl
        refine iteB_f (by rw [decide_eq_true cl]; rfl) ?_
        exact ⟨_, rfl, q (ins ++ outs) (by rw [hR, hL]) _ (k1.trans (Same.kp s5)) (s5 _ _ n1)⟩
      · refine iteB_t (by rw [decide_eq_false cl]; rfl) (qe 2 ?_ _ (k1.trans (Same.kp s5)))
        rw [hR, lf cl]
end
def unkS (kn : List Str) : List Str → Option Str
  | [] => none
  | s :: r => if s ∈ kn then unkS kn r else some s
theorem unkS_app (kn : List Str) : ∀ a b : List Str, unkS kn (a ++ b) = (unkS kn a).orElse fun _ => unkS kn b
  | [], b => rfl
  | s :: a, b => by
    show (if s ∈ kn then unkS kn (a ++ b) else some s) = (if s ∈ kn then unkS kn a else some s).orElse _
    by_cases c : s ∈ kn
    · rw [if_pos c, if_pos c]; exact unkS_app kn a b
    · rw [if_neg c, if_neg c]; rfl
theorem unkL_app (kn : List Str) : ∀ a b : List Fm, unkL kn (a ++ b) = (unkL kn a).orElse fun _ => unkL kn b
  | [], b => rfl
  | .sg s :: a, b => by
    show (if s ∈ kn then unkL kn (a ++ b) else some s) = (if s ∈ kn then unkL kn a else some s).orElse _
    by_cases c : s ∈ kn
    · rw [if_pos c, if_pos c]; exact unkL_app kn a b
    · rw [if_neg c, if_neg c]; rfl
  | .c0 _ :: a, b => unkL_app kn a b
  | .un _ _ :: a, b => unkL_app kn a b
  | .bin _ _ _ :: a, b => unkL_app kn a b
theorem unk_sg (kn : List Str) : ∀ f : Fm, unkL kn (pre f) = unkS kn (sgF f)
  | .c0 _ => rfl
  | .sg s => rfl
  | .un _ f => unk_sg kn f
  | .bin k f g => by
    show unkL kn (.bin k f g :: (pre f ++ pre g)) = unkS kn (sgF f ++ sgF g)
    show unkL kn (pre f ++ pre g) = _
    rw [unkL_app, unkS_app, unk_sg kn f, unk_sg kn g]
section
open TL
theorem odd_find : ∀ p ∈ oddL, oddF p.1 = some p := by
  unfold oddL
  intro p hp
  simp only [List.mem_cons, List.not_mem_nil, or_false] at hp
  rcases hp with rfl | rfl | rfl | rfl | rfl | rfl | rfl <;> rfl
theorem rf_odd {nm : List Str} {b : Str} {e : Er} (h : (b, e) ∈ oddL) : Rf nm b = erR e := by
  unfold Rf
  have := odd_find _ h
  dsimp only at this
  rw [this]
theorem odd_er {b : Str} {e : Er} (h : (b, e) ∈ oddL) : ∀ p, e ≠ .line p := by
  unfold oddL at h
  intro p z
  subst z
  simp at h
theorem rf_fm {nm : List Str} {b : Str} (h : Bd b) (hn : ∀ p ∈ oddL, b ≠ p.1) : ∃ f, Fbd b f ∧ Rf nm b = (match unkL nm (pre f) with | some x => .unk x | none => .ok f) := by
  have hf : oddF b = none := List.find?_eq_none.mpr fun p hp z => hn p hp (by simpa using z : p.1 = b).symm
  rcases h with ⟨e, h⟩ | h
  · exact absurd rfl (hn _ h)
  · refine ⟨h.choose, h.choose_spec, ?_⟩
    unfold Rf
    rw [hf]
    dsimp only
    first
      | (rw [dif_pos h]; done)
      | (rw [dif_pos h]; cases unkL nm (pre h.choose) <;> rfl)
theorem sg_mem : ∀ {f : Fm}, Wo nm2 f → ∀ s ∈ sgF f, s ∈ nm2
  | .c0 _, _, s, h => by cases h
  | .sg x, w, s, h => by rw [List.mem_singleton.mp h]; exact w
  | .un _ f, w, s, h => sg_mem w.2 s h
  | .bin _ f g, w, s, h => (List.mem_append.mp h).elim (sg_mem w.2.1 s) (sg_mem w.2.2 s)
theorem unkS_none {nm : List Str} : ∀ {ns : List Str}, (∀ s ∈ ns, s ∈ nm) → unkS nm ns = none
  | [], _ => rfl
  | s :: r, h => by
    show (if s ∈ nm then unkS nm r else some s) = none
    rw [if_pos (h s List.mem_cons_self)]
    exact unkS_none fun x hx => h x (List.mem_cons_of_mem _ hx)
theorem unkS_one {nm : List Str} {x : Str} (hx : x ∉ nm) : ∀ {ns : List Str}, (∀ s ∈ ns, s ∈ nm ∨ s = x) → x ∈ ns → unkS nm ns = some x
  | [], _, h => by cases h
  | s :: r, h, m => by
    show (if s ∈ nm then unkS nm r else some s) = some x
    by_cases c : s ∈ nm
    · rw [if_pos c]
      refine unkS_one hx (fun y hy => h y (List.mem_cons_of_mem _ hy)) ?_
      rcases List.mem_cons.mp m with e | m
      · exact absurd (e ▸ c) hx
      · exact m
    · rw [if_neg c]
      rcases h s List.mem_cons_self with y | y
      · exact absurd y c
      · rw [y]
theorem unkS_hd {nm : List Str} {x : Str} (hx : x ∉ nm) (r : List Str) : unkS nm (x :: r) = some x := if_neg hx
/-- the names that are strange, as the law finds them -/
def strg (nm : List Str) (b : Str) : List Str := nm2.filter fun w => isin w b && !decide (w ∈ nm)
theorem strg_f {nm : List Str} {b : Str} {f : Fm} (h : Fbd b f) :
    ((strg nm b).length = 2 → Txt.find b "qb2q" < Txt.find b "qa1x" → unkL nm (pre f) = some "qb2q") ∧
    (¬ ((strg nm b).length = 2 ∧ Txt.find b "qb2q" < Txt.find b "qa1x") → ∀ w r, strg nm b = w :: r → unkL nm (pre f) = some w) ∧ (strg nm b = [] → unkL nm (pre f) = none) := by
  have hs := fbd_sg h
  have hm := sg_mem h.1.wo
  rw [unk_sg]
  generalize sgF f = ns at hs hm
  have ma : ("qa1x" : Str) ∈ nm2 := by decide +kernel
  have mb : ("qb2q" : Str) ∈ nm2 := by decide +kernel
  have ne : ("qa1x" : Str) ≠ "qb2q" := by decide +kernel
  have ia := in_iff ma hs
  have ib := in_iff mb hs
  have e : strg nm b = (if ("qa1x" : Str) ∈ ns ∧ ("qa1x" : Str) ∉ nm then ([("qa1x" : Str)] : List Str) else []) ++ (if ("qb2q" : Str) ∈ ns ∧ ("qb2q" : Str) ∉ nm then ([("qb2q" : Str)] : List Str) else []) := by
    unfold strg nm2
    rw [List.filter_cons, List.filter_cons, List.filter_nil, ia, ib]
    by_cases a1 : ("qa1x" : Str) ∈ ns <;> by_cases a2 : ("qa1x" : Str) ∈ nm <;> by_cases b1 : ("qb2q" : Str) ∈ ns <;> by_cases b2 : ("qb2q" : Str) ∈ nm <;> simp [a1, a2, b1, b2]
  have two : ∀ s ∈ ns, s = "qa1x" ∨ s = "qb2q" := fun s h => nm2_or (hm s h)
  by_cases ca : ("qa1x" : Str) ∈ ns ∧ ("qa1x" : Str) ∉ nm
  · by_cases cb : ("qb2q" : Str) ∈ ns ∧ ("qb2q" : Str) ∉ nm
    · rw [if_pos ca, if_pos cb] at e
      rw [e]
      cases ns with
      | nil => cases ca.1
      | cons w r =>
        rcases two w List.mem_cons_self with rfl | rfl
        · have lt := find_head hs mb cb.1 ne.symm
          refine ⟨fun _ z => absurd z (by omega), fun _ w' r' z => ?_, fun z => by (cases z)⟩
          have : "qa1x" = w' := (List.cons.inj z).1
          rw [← this]
          exact unkS_hd ca.2 r
        · have lt := find_head hs ma ca.1 ne
          exact ⟨fun _ _ => unkS_hd cb.2 r, fun z => absurd ⟨rfl, lt⟩ z, fun z => by (cases z)⟩
    · rw [if_pos ca, if_neg cb] at e
      rw [e]
      have : unkS nm ns = some ("qa1x" : Str) := unkS_one ca.2 (fun s hs' => by
        rcases two s hs' with rfl | rfl
        · exact .inr rfl
        · exact .inl (Classical.byContradiction fun z => cb ⟨hs', z⟩)) ca.1
      exact ⟨fun z => by (cases z), fun _ w' r' z => by rw [this, (List.cons.inj z).1], fun z => by (cases z)⟩
  · by_cases cb : ("qb2q" : Str) ∈ ns ∧ ("qb2q" : Str) ∉ nm
    · rw [if_neg ca, if_pos cb] at e
      rw [e]
      have : unkS nm ns = some ("qb2q" : Str) := unkS_one cb.2 (fun s hs' => by
        rcases two s hs' with rfl | rfl
        · exact .inl (Classical.byContradiction fun z => ca ⟨hs', z⟩)
        · exact .inr rfl) cb.1
      exact ⟨fun z => by (cases z), fun _ w' r' z => by rw [this, (List.cons.inj z).1], fun z => by (cases z)⟩
    · rw [if_neg ca, if_neg cb] at e
      rw [e]
      refine ⟨fun z => by (cases z), fun _ w' r' z => by (cases z), fun _ => unkS_none fun s hs' => ?_⟩
      rcases two s hs' with rfl | rfl
      · exact Classical.byContradiction fun z => ca ⟨hs', z⟩
      · exact Classical.byContradiction fun z => cb ⟨hs', z⟩
/-- both sides, by the header -/
theorem ps_inl {Rf : List Str → Str → Res} {ls : List Str} {rest : Str} {p : Nat} (h : hdR ls = .inl p) : psE Rf ls rest = .err (.line p) := by
  unfold hdR at h
  unfold psE
  cases e : rnE ls 0 wI [] with
  | inl q =>
    rw [e] at h
    have h : (Sum.inl q : Sum Nat (List Str)) = .inl p := h
    cases h
    rfl
  | inr ins =>
    rw [e] at h
    dsimp only at h ⊢
    cases e2 : rnE ls 1 wO ins with
    | inl q =>
      rw [e2] at h
      have h : (Sum.inl q : Sum Nat (List Str)) = .inl p := h
      cases h
      rfl
    | inr outs =>
      rw [e2] at h
      dsimp only at h ⊢
      cases e3 : rlE ls 2 with
      | inl q =>
        rw [e3] at h
        have h : (Sum.inl q : Sum Nat (List Str)) = .inl p := h
        cases h
        rfl
      | inr L =>
        rw [e3] at h
        have h : (Sum.inr (ins ++ outs) : Sum Nat (List Str)) = .inl p := h
        cases h
theorem ps_inr {Rf : List Str → Str → Res} {ls : List Str} {rest : Str} {nm : List Str} (h : hdR ls = .inr nm) : 3 ≤ ls.length ∧ outV (psE Rf ls rest) = match rpG (Rf nm) ls.length 3 (ls.drop 3) [] [] with
    | .err e => outV (.err e)
    | .done fs gs n => if rest ≠ sE then outV (.err (.line ls.length)) else if 8 < ((fs ++ gs).map cnT).sum then outV (.err .big) else outV (.done [] [] 0 fs gs n) := by
  unfold hdR at h
  unfold psE
  cases e : rnE ls 0 wI [] with
  | inl q =>
    rw [e] at h
    have h : (Sum.inl q : Sum Nat (List Str)) = .inr nm := h
    cases h
  | inr ins =>
  rw [e] at h
  dsimp only at h ⊢
  cases e2 : rnE ls 1 wO ins with
  | inl q =>
    rw [e2] at h
    have h : (Sum.inl q : Sum Nat (List Str)) = .inr nm := h
    cases h
  | inr outs =>
  rw [e2] at h
  dsimp only at h ⊢
  cases e3 : rlE ls 2 with
  | inl q =>
    rw [e3] at h
    have h : (Sum.inl q : Sum Nat (List Str)) = .inr nm := h
    cases h
  | inr L =>
  rw [e3] at h
  have h : (Sum.inr (ins ++ outs) : Sum Nat (List Str)) = .inr nm := h
  cases h
  obtain ⟨⟨l, hl⟩, _⟩ := rlE_ok e3
  refine ⟨(List.getElem?_eq_some_iff.mp hl).1, ?_⟩
  dsimp only
  cases rpG (Rf (ins ++ outs)) ls.length 3 (ls.drop 3) [] [] with
  | err e => rfl
  | done fs gs n =>
    dsimp only
    by_cases c1 : rest ≠ sE
    · rw [if_pos c1, if_pos c1]
    · rw [if_neg c1, if_neg c1]
      by_cases c2 : 8 < ((fs ++ gs).map cnT).sum
      · rw [if_pos c2, if_pos c2]
      · rw [if_neg c2, if_neg c2]
        rfl
end
section
open TL
/-- the law's odd bodies stand in the memory -/
def OdAt (H : Hp) (o : Addr) : Prop := ∃ as : List Addr, H o = some (.lst (as.map V.ref)) ∧ as.length = 7 ∧ ∀ (i : Nat) (a : Addr), as[i]? = some a → ∃ (b : Str) (e : Er) (c : Addr), oddL[i]? = some (b, e) ∧ H a = some (.tup [.str b, .ref c]) ∧ H c = some (.tup (outV (.err e)))
theorem OdAt.same {H H' : Hp} {o : Addr} (s : Same H H') : OdAt H o → OdAt H' o := fun ⟨as, h1, h2, h3⟩ => ⟨as, s _ _ h1, h2, fun i a ha => by
  obtain ⟨b, e, c, q1, q2, q3⟩ := h3 i a ha
  exact ⟨b, e, c, q1, s _ _ q2, s _ _ q3⟩⟩
def tot (fs gs : List Fm) : Int := ((fs ++ gs).map cnT).sum
def spEx8 (K : PySem.W.Frag) : Sp := fun vs H Q _ => ∃ (t : Str) (o : Addr) (ls : List Str) (rest : Str), vs = [.str t, .ref o] ∧ Txt.split t sN = ls ++ [rest] ∧ t.length ≤ 100000 ∧ ls.length ≤ 20 ∧ (∀ l ∈ ls, LnC l) ∧ OdAt H o ∧
  ∀ (H' : Hp) (r : Addr), Same H H' → H' r = some (.tup (outV (psE Rf ls rest))) → Q (.ref r) H'
theorem c10 {l : Str} : (cutS l none (some ((10 : Nat) : Int)) = wG) ↔ Txt.startswith l wG = true := by
  rw [sw_iff, wd_tl.2.1]
  constructor
  · intro h
    have := congrArg tl h
    rw [tl_hi, wd_tl.2.1] at this
    exact this
  · intro h
    exact ext_tl (by rw [tl_hi, wd_tl.2.1]; exact h)
theorem c7 {l : Str} : (cutS l none (some ((7 : Nat) : Int)) = wA) ↔ Txt.startswith l wA = true := by
  rw [sw_iff, wd_tl.1]
  constructor
  · intro h
    have := congrArg tl h
    rw [tl_hi, wd_tl.1] at this
    exact this
  · intro h
    exact ext_tl (by rw [tl_hi, wd_tl.1]; exact h)
theorem sum_cast (g : Nat → Nat) : ∀ l : List Nat, (l.map fun c => ((g c : Nat) : Int)).sum = (((l.map g).sum : Nat) : Int)
  | [] => rfl
  | c :: r => by
    rw [List.map_cons, List.sum_cons, sum_cast g r, List.map_cons, List.sum_cons]
    omega
theorem right_ev {K : PySem.W.Frag} {σ : L2.St} {H : Hp} {QR : VK} {sA sG : Bool} {c : Addr} {x y : Int} {k : Int} (h6 : σ[6]? = some (some (.ref c))) (h10 : σ[10]? = some (some (.int k))) (hc : H c = some (.lst [.int x, .int y])) (hk : decide (V.int k = V.int 1) = sG) (q : QR (.bl ((sA && decide (V.int y = V.int 0)) || sG)) H) :
    if sA = true then tOp rEq (tOp (rIxL K) (tVar 6) (tC (V.int 1))) (tC (V.int 0)) σ H (fun x H1 => ∃ c2, x = .bl c2 ∧ if c2 = true then QR (.bl true) H1 else tOp rEq (tVar 10) (tC (V.int 1)) σ H1 QR) else ∃ c2, V.bl false = .bl c2 ∧ if c2 = true then QR (.bl true) H else tOp rEq (tVar 10) (tC (V.int 1)) σ H QR := by
  cases sA with
  | true =>
    refine iteB_t rfl ⟨_, h6, c, _, _, _, rfl, rfl, .of hc, atI_nat (j := 1) rfl, rfl, _, rfl, ?_⟩
    cases e : decide (V.int y = V.int 0) with
    | true =>
      rw [e] at q
      exact iteB_t rfl q
    | false =>
      rw [e] at q
      refine iteB_f rfl ⟨_, h10, rfl, ?_⟩
      rw [hk]
      exact q
  | false =>
    refine iteB_f rfl ⟨_, rfl, iteB_f rfl ⟨_, h10, rfl, ?_⟩⟩
    rw [hk]
    exact q
theorem cal_ex (T : Txt K mg w P) : C8.Cal P w K mg base 3 "_law_expected" (spEx8 K) [] := by
  have C_law_header : C8.Cal P w K mg base 1 "_law_header" spHd8 [] := cal_hd T
  obtain ⟨f, fd, F, hm, hb⟩ := T.h_law_expected
  refine ⟨f, fd, _, [], F.ok sc_law_expected (fun vs H Q E h => ?_) (fun cdv A outer s H vs Q E hr h => ?_), hm, F.kp, hb, .nil⟩
  · obtain ⟨t, o, ls, rest, rfl, _⟩ := h
    rfl
  · obtain ⟨t, o, ls, rest, rfl, hsp, htl, hl, hc, hod, q⟩ := h
    refine ⟨_, (pss_cons
      (ps_set (i := 2) sc_law_expected.nd rfl (Or.inl rfl) (pe_m1 PySem.F.slot_str_split PySem.F.type_str_split mt_split (pv 0) pe_str))
      (pss_cons
      (ps_set (i := 3) sc_law_expected.nd rfl (Or.inl rfl) (pe_bm0 PySem.F.plainAttrs_list PySem.F.slot_list_pop PySem.F.type_list_pop mt_pop (pv 2)))
      (pss_cons
      (ps_set (i := 4) sc_law_expected.nd rfl (Or.inr rfl) (pe_lst pa_nil))
      (pss_cons
      (ps_set (i := 5) sc_law_expected.nd rfl (Or.inl rfl) (C8.pe_c C_law_header hr (by decide) (by rfl) (pa_cons (pv 2) (pa_cons (pv 4) pa_nil))))
      (pss_cons
      (ps_if (pt_cmpR op_ge (pv 5) pe_int (nomark _)) (pss_one
      (ps_ret (pe_tup (pa_cons pe_str (pa_cons (pv 5) pa_nil))))) pss_nil)
      (pss_cons
      (ps_set (i := 6) sc_law_expected.nd rfl (Or.inl rfl) (pe_lst (pa_cons pe_int (pa_cons pe_int pa_nil))))
      (pss_cons
      (ps_set (i := 7) sc_law_expected.nd rfl (Or.inl rfl) pe_int)
      (pss_cons
      (ps_for PassesOwn.never rfl (pi_range2 (by rfl) T.z_range (pa_cons pe_int (pa_cons (pe_callB (call_lenK (K := K) rfl) (by rfl) T.z_len PySem.boot_len (pa_cons (pv 2) pa_nil)) pa_nil))) (pg_name (i := 8) sc_law_expected.nd rfl (.inl rfl)) (pss_cons
      (ps_set (i := 9) sc_law_expected.nd rfl (Or.inl rfl) (pe_ix (ix_listK (K := K) rfl) (pv 2) (pv 8) (fun _ _ => rfl)))
      (C8.pss_cut
      (ps_if (PW.pt (pw_and (pt_cmpR op_eq (pv 9) pe_str (nomark _)) (pw_and1 (pt_cmpR op_eq (pv 8) (pe_op op_sub (pe_callB (call_lenK (K := K) rfl) (by rfl) T.z_len PySem.boot_len (pa_cons (pv 2) pa_nil)) pe_int) (nomark _))))) (pss_one
      ps_continue) pss_nil)
      (pss_cons
      (ps_set (i := 10) sc_law_expected.nd rfl (Or.inl rfl) (pe_callTy call_int1 (by rfl) T.z_int (by decide +kernel) (pa_cons (pe_cmpR op_eq (pe_slice sl_str (pv 9) po_none (po_some pe_int)) pe_str (nomark _)) pa_nil)))
      (pss_cons
      (ps_set (i := 11) sc_law_expected.nd rfl (Or.inl rfl) (pe_or (pe_and (pe_cmpR op_eq (pe_slice sl_str (pv 9) po_none (po_some pe_int)) pe_str (nomark _)) (pe_one (pe_cmpR op_eq (pe_ix (ix_listK (K := K) rfl) (pv 6) pe_int (fun _ _ => rfl)) pe_int (nomark _)))) (pe_one (pe_cmpR op_eq (pv 10) pe_int (nomark _)))))
      (pss_cons
      (ps_if (PW.pt (pw_or (pt_not (pt_val (pv 11))) (pw_or1 (pt_cmpR op_eq (pe_op op_add (pe_ix (ix_listK (K := K) rfl) (pv 6) pe_int (fun _ _ => rfl)) (pe_ix (ix_listK (K := K) rfl) (pv 6) pe_int (fun _ _ => rfl))) pe_int (nomark _))))) (pss_one
      (ps_ret (pe_tup (pa_cons pe_str (pa_cons (pv 8) pa_nil))))) pss_nil)
      (pss_cons
      (ps_asg (pe_op op_add (pe_ix (ix_listK (K := K) rfl) (pv 6) (pv 10) (fun _ _ => rfl)) pe_int) (pg_sub (pv 6) (pv 10) set_list))
      (pss_cons
      (ps_set (i := 12) sc_law_expected.nd rfl (Or.inr rfl) (pe_slice sl_str (pv 9) (po_some (pe_ix (ix_listK (K := K) rfl) (pe_lst (pa_cons pe_int (pa_cons pe_int pa_nil))) (pv 10) (fun _ _ => rfl))) po_none))
      (pss_cons
      (ps_for PassesOwn.never rfl (pi_list (pv 1)) (pg_name (i := 13) sc_law_expected.nd rfl (.inl rfl)) (pss_one
      (ps_if (pt_cmpR op_eq (pv 12) (pe_ix (ix_tupK (K := K) rfl) (pv 13) pe_int (fun _ _ => rfl)) (nomark _)) (pss_one
      (ps_ret (pe_ix (ix_tupK (K := K) rfl) (pv 13) pe_int (fun _ _ => rfl)))) pss_nil)))
      (pss_cons
      (ps_setLc (i := 14) (own := [("word", 15)]) (g := gName 15) rfl sc_law_expected.nd rfl rfl (sw_true rfl rfl rfl (by decide +kernel)) (pi_tup (pe_tup (pa_cons pe_str (pa_cons pe_str pa_nil)))) (blkOk_by (N := N_law_expected) (sc := defScope s_law_expected) (by decide +kernel)) (fun _ _ _ _ _ => (pg_name (i := 15) sc_law_expected.nd rfl (Or.inl rfl))) (fun _ _ _ _ _ => (pts_one (PW.pt (pw_and (pt_cmpR op_in_str (pv 15) (pv 12) (by rfl)) (pw_and1 (pt_cmpR (op_notInK (K := K) rfl) (pv 15) (pv 4) (by rfl))))))) (fun _ _ _ _ _ => (pv 15)))
      (C8.pss_cut
      (ps_if (PW.pt (pw_and (pt_cmpR op_eq (pe_callB (call_lenK (K := K) rfl) (by rfl) T.z_len PySem.boot_len (pa_cons (pv 14) pa_nil)) pe_int (nomark _)) (pw_and1 (pt_cmpR op_lt (pe_m1 PySem.F.slot_str_find PySem.F.type_str_find mt_find (pv 12) pe_str) (pe_m1 PySem.F.slot_str_find PySem.F.type_str_find mt_find (pv 12) pe_str) (nomark _))))) (pss_one
      (ps_ret (pe_tup (pa_cons pe_str (pa_cons pe_str pa_nil))))) pss_nil)
      (pss_cons
      (ps_if (pt_cmpR op_gt (pe_callB (call_lenK (K := K) rfl) (by rfl) T.z_len PySem.boot_len (pa_cons (pv 14) pa_nil)) pe_int (nomark _)) (pss_one
      (ps_ret (pe_tup (pa_cons pe_str (pa_cons (pe_ix (ix_listK (K := K) rfl) (pv 14) pe_int (fun _ _ => rfl)) pa_nil))))) pss_nil)
      (pss_one
      (ps_set (i := 7) sc_law_expected.nd rfl (Or.inl rfl) (pe_op op_add (pv 7) (pe_callB (cr_sum rfl) (by rfl) T.z_sum (by decide +kernel) (pa_cons (pe_lc (own := [("sign", 16)]) (g := gName 16) (tt := tYes) rfl sc_law_expected.nd (pi_str pe_str) (blkOk_by (N := N_law_expected) (sc := defScope s_law_expected) (by decide +kernel)) (fun _ _ _ _ _ => (pg_name (i := 16) sc_law_expected.nd rfl (Or.inl rfl))) (fun _ _ _ _ _ => pts_nil) (fun _ _ _ _ _ => (pe_m1 PySem.F.slot_str_count PySem.F.type_str_count mt_count (pv 12) (pv 16)))) pa_nil)))))))))))))))))
      (pss_cons
      (ps_if (pt_cmpR op_ne (pv 3) pe_str (nomark _)) (pss_one
      (ps_ret (pe_tup (pa_cons pe_str (pa_cons (pe_callB (call_lenK (K := K) rfl) (by rfl) T.z_len PySem.boot_len (pa_cons (pv 2) pa_nil)) pa_nil))))) pss_nil)
      (pss_cons
      (ps_if (pt_cmpR op_gt (pv 7) pe_int (nomark _)) (pss_one
      (ps_ret (pe_tup (pa_cons pe_str pa_nil)))) pss_nil)
      (pss_one
      (ps_ret (pe_tup (pa_cons pe_str (pa_cons (pe_ix (ix_listK (K := K) rfl) (pv 6) pe_int (fun _ _ => rfl)) (pa_cons (pe_ix (ix_listK (K := K) rfl) (pv 6) pe_int (fun _ _ => rfl)) (pa_cons (pe_and (pe_cmpR op_gt (pe_callB (call_lenK (K := K) rfl) (by rfl) T.z_len PySem.boot_len (pa_cons (pv 2) pa_nil)) pe_int (nomark _)) (pe_one (pe_cmpR op_eq (pe_ix (ix_listK (K := K) rfl) (pv 2) (pe_un un_neg pe_int) (fun _ _ => rfl)) pe_str (nomark _)))) pa_nil))))))))))))))))), ?_⟩
    refine ⟨_, rfl, ⟨_, rfl⟩, t, sN, rfl, rfl, by decide +kernel, Nat.le_trans (Nat.add_le_add_right htl 2) (by decide), fun p1 np1 => ?_⟩
    rw [hsp]
    generalize hX : upd H p1 _ = H1; obtain ⟨sH1, ep1⟩ := nw np1 hX; clear hX
    have lsr : ((ls ++ [rest]).map V.str).length = ls.length + 1 := by rw [List.length_map, List.length_append, List.length_singleton]
    have edl : ((ls ++ [rest]).map V.str).dropLast = ls.map V.str := by rw [List.map_append]; exact List.dropLast_concat
    refine ⟨_, rfl, .inl ⟨rfl, _, .of ep1⟩, p1, _, .str rest, rfl, rfl, ep1, ?_, ?_⟩
    · rw [lsr, Nat.add_sub_cancel, List.map_append, List.getElem?_append_right (by rw [List.length_map]; exact Nat.le_refl _), List.length_map, Nat.sub_self]
      rfl
    rw [edl]
    have s2 : Same H (upd H1 p1 (.lst (ls.map V.str))) := fun b u hb => by rw [upd_ne (ne_of_none hb np1)]; exact sH1 _ _ hb
    have e2 := upd_same (H := H1) (a := p1) (o := .lst (ls.map V.str))
    generalize upd H1 p1 (.lst (ls.map V.str)) = H2 at s2 e2 ⊢
    refine ⟨Nat.zero_le _, fun n nn => ?_⟩
    generalize hX : upd H2 n _ = H3; obtain ⟨sH3, en⟩ := nw nn hX; clear hX
    have e3 := sH3 _ _ e2
    have nna : n ≠ p1 := fun z => by rw [z, e2] at nn; cases nn
    have s3 := s2.trans sH3
    refine ⟨_, rfl, _, rfl, p1, n, ls, rfl, nna, e3, en, by omega, hc, fun p hp H4 k4 => ?_, fun nm hnm H4 k4 n4 => ?_⟩
    · have s4 : Same H H4 := fun b u hb => k4 _ _ (ne_of_none (s2 _ _ hb) nn) (s3 _ _ hb)
      refine ⟨_, rfl, _, _, rfl, rfl, _, rfl, iteB_t (decide_eq_true (by omega)) ?_⟩
      refine ⟨_, rfl, sz2, fun r nr => ?_⟩
      have := q _ r (s4.trans (same_new (o := .tup [.str "line", .int (p : Int)]) nr))
      rw [ps_inl hp] at this
      exact this upd_same
    have s4 : Same H H4 := fun b u hb => k4 _ _ (ne_of_none (s2 _ _ hb) nn) (s3 _ _ hb)
    have e4 := k4 _ _ nna.symm e3
    obtain ⟨hl3, hps⟩ := ps_inr (Rf := Rf) (rest := rest) hnm
    rw [hps] at q
    clear hps
    obtain ⟨out, hout⟩ : ∃ out, out = rpG (Rf nm) ls.length 3 (ls.drop 3) [] [] := ⟨_, rfl⟩
    rw [← hout] at q
    refine ⟨_, rfl, _, _, rfl, rfl, _, rfl, iteB_f (decide_eq_false (by decide)) ?_⟩
    refine ⟨sz2, fun c nc => ?_⟩
    generalize hX : upd H4 c _ = H5; obtain ⟨sH5, ec⟩ := nw nc hX; clear hX
    have n5 := sH5 _ _ n4
    have e5 := sH5 _ _ e4
    have ncn : c ≠ n := fun z => by rw [z, n4] at nc; cases nc
    have ncp : c ≠ p1 := fun z => by rw [z, e4] at nc; cases nc
    have s5 := s4.trans sH5
    have n0c : H c = none := Same_fr s4 nc
    have hlm : (ls.map V.str).length = ls.length := List.length_map _
    have hN : ((((ls.map V.str).length : Nat) : Int) - 3).toNat = ls.length - 3 := by rw [hlm]; omega
    have od5 := hod.same s5
    refine ⟨_, rfl, p1, _, rfl, .inl (.of e5), _, _, rfl, ⟨by decide, by decide, by rw [hlm]; omega, by rw [hlm]; exact Int.lt_of_le_of_lt (show _ ≤ (100 : Int) by omega) (by decide)⟩, for_range (lo := 3) (n := ((((ls.map V.str).length : Nat) : Int) - 3).toNat) (fun i σ H' => ∃ (fs gs : List Fm) (v8 v9 v10 v11 v12 v13 v14 v15 v16 : Option V), σ = [some (.str t), some (.ref o), some (.ref p1), some (.str rest), some (.ref n), some (.int (-1)), some (.ref c), some (.int (tot fs gs)), v8, v9, v10, v11, v12, v13, v14, v15, v16] ∧ Kp c H5 H' ∧ H' c = some (.lst [.int (fs.length : Int), .int (gs.length : Int)]) ∧
        ((out = rpG (Rf nm) ls.length (3 + i) (ls.drop (3 + i)) fs gs ∧ fs.length + gs.length = i ∧ i ≤ 6 ∧ ∀ j, 3 ≤ j → j < 3 + i → ∀ l, ls[j]? = some l → ¬ (l = wN ∧ j + 1 = ls.length)) ∨ (3 + i = ls.length ∧ out = .done fs gs true ∧ ls[ls.length - 1]? = some wN ∧ 3 < ls.length)))
      ⟨[], [], none, none, none, none, none, none, none, none, none, rfl, Kp.refl _ _, ec,   .inl ⟨hout, rfl, by decide, fun j h1 h2 => absurd h1 (by omega)⟩⟩ ?_ ?_⟩
    · rintro i σ H6 hi ⟨fs, gs, v8, v9, v10, v11, v12, v13, v14, v15, v16, rfl, k6, c6, hor⟩
      rw [hN] at hi
      have hk : 3 + i < ls.length := by omega
      obtain ⟨ho, hfg, hi6, hng⟩ : out = rpG (Rf nm) ls.length (3 + i) (ls.drop (3 + i)) fs gs ∧ fs.length + gs.length = i ∧ i ≤ 6 ∧ ∀ j, 3 ≤ j → j < 3 + i → ∀ l, ls[j]? = some l → ¬ (l = wN ∧ j + 1 = ls.length) := by
        rcases hor with h | ⟨h, _⟩
        · exact h
        · omega
      obtain ⟨l, el⟩ : ∃ l, ls[3 + i]? = some l := ⟨_, List.getElem?_eq_getElem hk⟩
      have hlm2 := List.mem_of_getElem? el
      have hdr : ls.drop (3 + i) = l :: ls.drop (3 + i + 1) := by
        rw [List.drop_eq_getElem_cons hk]
        rw [List.getElem?_eq_getElem hk] at el
        rw [Option.some.inj el]
      rw [hdr] at ho
      have hll := (ln_f (hc l hlm2)).1
      have e6 := k6 _ _ ncp.symm e5
      have n6 := k6 _ _ ncn.symm n5
      have s6 : Same H H6 := fun b u hb => k6 _ _ (ne_of_none hb n0c) (s5 _ _ hb)
      have look : atI (ls.map V.str) ((3 : Int) + (i : Nat)) = some (V.str l) := by
        rw [show (3 : Int) + (i : Nat) = ((3 + i : Nat) : Int) by omega]
        exact atI_nat (by rw [List.getElem?_map, el]; rfl)
      refine ⟨_, rfl, _, rfl, p1, _, _, _, rfl, rfl, .of e6, look, ?_⟩
      refine ⟨fun σ' H7 => σ' = [some (.str t), some (.ref o), some (.ref p1), some (.str rest), some (.ref n), some (.int (-1)), some (.ref c), some (.int (tot fs gs)), some (.int ((3 : Int) + (i : Nat))), some (.str l), v10, v11, v12, v13, v14, v15, v16] ∧ H7 = H6 ∧ ¬ (l = wN ∧ 3 + i + 1 = ls.length), ?_, ?_⟩
      · refine ⟨_, rfl, rfl, _, rfl, ?_⟩
        by_cases cN : l = wN
        · refine iteB_t (decide_eq_true (by rw [cN]; rfl)) ⟨_, rfl, _, rfl, p1, _, rfl, .inl (.of e6), _, _, rfl, rfl, rfl, _, rfl, ?_⟩
          rw [hlm]
          by_cases c2 : 3 + i + 1 = ls.length
          · refine iteB_t (decide_eq_true (congrArg V.int (by omega))) ?_
            have : out = .done fs gs true := by
              rw [ho]
              unfold rpG
              exact if_pos ⟨cN, c2⟩
            exact ⟨fs, gs, _, _, _, _, _, _, _, _, _, rfl, k6, c6, .inr ⟨by omega, this, by rw [show ls.length - 1 = 3 + i by omega, el, cN], by omega⟩⟩
          · exact iteB_f (decide_eq_false fun z => c2 (by have := V.int.inj z; omega)) ⟨rfl, rfl, fun z => c2 z.2⟩
        · exact iteB_f (decide_eq_false fun z => cN (V.str.inj z)) (iteB_f rfl ⟨rfl, rfl, fun z => cN z.1⟩)
      rintro σ' H7 ⟨rfl, rfl, hneg⟩
      unfold rpG at ho
      rw [if_neg hneg] at ho
      -- what kind of line
      have key : (∃ (kd : Nat) (b : Str) (F G : Fm → List Fm), kd < 2 ∧ Txt.startswith l wG = decide (kd = 1) ∧ ((Txt.startswith l wA = true ∧ gs.length = 0) ∨ kd = 1) ∧ Bd b ∧ cutS l (some ((if kd = 1 then 10 else 7 : Nat) : Int)) none = b ∧ (9 ≤ 3 + i → out = .err (.line (3 + i))) ∧ (¬ 9 ≤ 3 + i → ∀ f, Rf nm b = .ok f → out = rpG (Rf nm) ls.length (3 + i + 1) (ls.drop (3 + i + 1)) (F f) (G f)) ∧ (¬ 9 ≤ 3 + i → ∀ x, Rf nm b = .unk x → out = .err (.unk x)) ∧ (¬ 9 ≤ 3 + i → Rf nm b = .big → out = .err .big) ∧ (¬ 9 ≤ 3 + i → ∀ p, Rf nm b = .pos p → out = .err (.pos p)) ∧
          ∀ f, tot (F f) (G f) = tot fs gs + cnT f ∧ (F f).length = fs.length + (1 - kd) ∧ (G f).length = gs.length + kd) ∨
          (¬ (Txt.startswith l wA = true ∧ gs.length = 0) ∧ Txt.startswith l wG = false ∧ out = .err (.line (3 + i))) := by
        by_cases cA : Txt.startswith l wA = true ∧ gs.length = 0
        · have nG : Txt.startswith l wG = false := by
            cases e : Txt.startswith l wG with
            | false => rfl
            | true => exact (sw_excl cA.1 e).elim
          obtain ⟨hb, _⟩ := ln_A (hc l hlm2) cA.1
          refine .inl ⟨0, bdA l, fun f => fs ++ [f], fun _ => gs, by decide, nG, .inl cA, hb, rfl, fun z => by rw [ho, if_pos z], fun z f e => by rw [ho, if_neg z, if_pos cA, e], fun z x e => by rw [ho, if_neg z, if_pos cA, e], fun z e => by rw [ho, if_neg z, if_pos cA, e], fun z p e => by rw [ho, if_neg z, if_pos cA, e], fun f => ⟨?_, by rw [List.length_append]; rfl, rfl⟩⟩
          unfold tot
          simp only [List.map_append, List.sum_append, List.map_cons, List.map_nil, List.sum_cons, List.sum_nil]
          omega
        · cases cG : Txt.startswith l wG with
          | true =>
            obtain ⟨hb, _⟩ := ln_G (hc l hlm2) cG
            refine .inl ⟨1, bdG l, fun _ => fs, fun f => gs ++ [f], by decide, by decide, .inr rfl, hb, rfl, fun z => by rw [ho, if_pos z], fun z f e => by rw [ho, if_neg z, if_neg cA, if_pos cG, e], fun z x e => by rw [ho, if_neg z, if_neg cA, if_pos cG, e], fun z e => by rw [ho, if_neg z, if_neg cA, if_pos cG, e], fun z p e => by rw [ho, if_neg z, if_neg cA, if_pos cG, e], fun f => ⟨?_, rfl, by rw [List.length_append]; rfl⟩⟩
            unfold tot
            simp only [List.map_append, List.sum_append, List.map_cons, List.map_nil, List.sum_cons, List.sum_nil]
            omega
          | false =>
            refine .inr ⟨cA, rfl, ?_⟩
            by_cases z : 9 ≤ 3 + i
            · rw [ho, if_pos z]
            · rw [ho, if_neg z, if_neg cA, if_neg (by rw [cG]; exact Bool.false_ne_true)]
      clear ho
      refine ⟨_, rfl, ((10 : Nat) : Int), rfl, l, rfl, Nat.le_trans hll (by decide), rfl, .inr ⟨_, rfl, ?_⟩⟩
      have dG : decide (V.str (cutS l none (some ((10 : Nat) : Int))) = V.str (Str.ofString "guarantee ")) = Txt.startswith l wG := by
        rw [dec_str]
        cases e : Txt.startswith l wG with
        | true => exact decide_eq_true (c10.mpr e)
        | false => exact decide_eq_false fun z => by rw [c10.mp z] at e; cases e
      rw [dG]
      refine ⟨_, rfl, ((7 : Nat) : Int), rfl, l, rfl, Nat.le_trans hll (by decide), rfl, ?_⟩
      have dA : decide (V.str (cutS l none (some ((7 : Nat) : Int))) = V.str (Str.ofString "assume ")) = Txt.startswith l wA := by
        rw [dec_str]
        cases e : Txt.startswith l wA with
        | true => exact decide_eq_true (c7.mpr e)
        | false => exact decide_eq_false fun z => by rw [c7.mp z] at e; cases e
      rw [dA]
      have hkk : decide (V.int (if Txt.startswith l wG = true then 1 else 0) = V.int 1) = Txt.startswith l wG := by
        cases Txt.startswith l wG with
        | true => exact decide_eq_true rfl
        | false => exact decide_eq_false fun z => absurd (V.int.inj z) (by decide)
      refine ⟨_, rfl, right_ev (σ := [some (.str t), some (.ref o), some (.ref p1), some (.str rest), some (.ref n), some (.int (-1)), some (.ref c), some (.int (tot fs gs)), some (.int ((3 : Int) + (i : Nat))), some (.str l), some (.int (if Txt.startswith l wG = true then 1 else 0)), v11, v12, v13, v14, v15, v16]) rfl rfl c6 hkk ?_⟩
      rcases key with ⟨kd, b, F, G, hkd, hsG, hA, hBd, hcut, o9, oF, oU, oB, oP, hFG⟩ | ⟨nA, nG, o9⟩
      case inr =>
        have hr : ((Txt.startswith l wA && decide (V.int (gs.length : Int) = V.int 0)) || Txt.startswith l wG) = false := by
          rw [nG, Bool.or_false]
          cases e : Txt.startswith l wA with
          | false => rfl
          | true =>
            rw [Bool.true_and]
            exact decide_eq_false fun z => nA ⟨e, by have := V.int.inj z; omega⟩
        rw [hr]
        refine ⟨_, rfl, false, rfl, iteB_t rfl ?_⟩
        refine iteB_t rfl ⟨_, rfl, sz2, fun r nr => ?_⟩
        rw [o9] at q
        have e3 : (3 : Int) + (i : Nat) = ((3 + i : Nat) : Int) := by omega
        rw [e3]
        exact q _ r (s6.trans (same_new nr)) upd_same
      have hr : ((Txt.startswith l wA && decide (V.int (gs.length : Int) = V.int 0)) || Txt.startswith l wG) = true := by
        rcases hA with ⟨a1, a2⟩ | a
        · rw [a1, a2]; rfl
        · rw [hsG, decide_eq_true a, Bool.or_true]
      have hkind : (if Txt.startswith l wG = true then 1 else 0 : Int) = (kd : Int) := by
        rw [hsG]
        rcases (show kd = 0 ∨ kd = 1 by omega) with rfl | rfl <;> rfl
      rw [hr, hkind]
      refine ⟨_, rfl, true, rfl, iteB_f rfl ?_⟩
      refine ⟨_, rfl, c, _, _, _, rfl, rfl, .of c6, at0, _, rfl, c, _, _, _, rfl, rfl, .of c6, atI_nat (j := 1) rfl, _, _, rfl, rfl, rfl, _, rfl, ?_⟩
      have e3 : (3 : Int) + (i : Nat) = ((3 + i : Nat) : Int) := by omega
      by_cases c9 : 9 ≤ 3 + i
      · refine iteB_t (decide_eq_true (congrArg V.int (by omega))) ?_
        refine ⟨_, rfl, sz2, fun r nr => ?_⟩
        rw [o9 c9] at q
        rw [e3]
        exact q _ r (s6.trans (same_new nr)) upd_same
      refine iteB_f (decide_eq_false fun z => c9 (by have := V.int.inj z; omega)) ?_
      obtain ⟨cv, hcv, hset⟩ : ∃ cv : Int, atI [V.int (fs.length : Int), V.int (gs.length : Int)] ((kd : Nat) : Int) = some (.int cv) ∧ [V.int (fs.length : Int), V.int (gs.length : Int)].set kd (.int (cv + 1)) = [V.int ((fs.length + (1 - kd) : Nat) : Int), V.int ((gs.length + kd : Nat) : Int)] := by
        rcases (show kd = 0 ∨ kd = 1 by omega) with rfl | rfl
        · exact ⟨_, atI_nat (j := 0) rfl, rfl⟩
        · exact ⟨_, atI_nat (j := 1) rfl, rfl⟩
      refine ⟨_, rfl, _, rfl, c, _, _, _, rfl, rfl, .of c6, hcv, _, _, rfl, rfl, _, rfl, _, rfl, c, _, _, kd, rfl, rfl, c6, ?_, ?_⟩
      · rcases (show kd = 0 ∨ kd = 1 by omega) with rfl | rfl <;> rfl
      rw [hset]
      have k7 : Kp c H7 (upd H7 c (.lst [V.int ((fs.length + (1 - kd) : Nat) : Int), V.int ((gs.length + kd : Nat) : Int)])) := Kp.own
      have c7' := upd_same (H := H7) (a := c) (o := .lst [V.int ((fs.length + (1 - kd) : Nat) : Int), V.int ((gs.length + kd : Nat) : Int)])
      generalize upd H7 c (.lst [V.int ((fs.length + (1 - kd) : Nat) : Int), V.int ((gs.length + kd : Nat) : Int)]) = H8 at k7 c7' ⊢
      have k8 := k6.trans k7
      have s8 : Same H H8 := fun b u hb => k7 _ _ (ne_of_none hb n0c) (s6 _ _ hb)
      have n8 := k7 _ _ ncn.symm n6
      -- the body
      refine ⟨_, rfl, sz2, fun p9 np9 => ?_⟩
      generalize hX : upd H8 p9 _ = H9; obtain ⟨sH9, ep9⟩ := nw np9 hX; clear hX
      refine ⟨_, rfl, p9, _, _, .int ((if kd = 1 then 10 else 7 : Nat) : Int), rfl, rfl, .of ep9, ?_, _, rfl, l, rfl, Nat.le_trans hll (by decide), ?_⟩
      · rcases (show kd = 0 ∨ kd = 1 by omega) with rfl | rfl
        · exact atI_nat (j := 0) rfl
        · exact atI_nat (j := 1) rfl
      rw [hcut]
      have s9 := s8.trans sH9
      have k9 : Kp c H5 H9 := k8.trans (Same.kp sH9)
      have c9' := sH9 _ _ c7'
      have n9 := sH9 _ _ n8
      obtain ⟨as, oa1, oa2, oa3⟩ := hod.same s9
      have lam : (as.map V.ref).length = 7 := by rw [List.length_map]; exact oa2
      -- the odd bodies
      refine ⟨_, rfl, o, rfl, ⟨_, .of oa1⟩, for_list (K := K) (a := o) (xs := as.map V.ref) (fun j σ H' => ∃ (w13 : Option V), σ = [some (.str t), some (.ref o), some (.ref p1), some (.str rest), some (.ref n), some (.int (-1)), some (.ref c), some (.int (tot fs gs)), some (.int ((3 : Int) + (i : Nat))), some (.str l), some (.int (kd : Int)), some (.bl true), some (.str b), w13, v14, v15, v16] ∧ H' = H9 ∧ ∀ m, m < j → ∀ p, oddL[m]? = some p → b ≠ p.1) ⟨_, rfl, rfl, fun m hm => absurd hm (Nat.not_lt_zero _)⟩ (fun j σ H' _ ⟨_, _, z, _⟩ => by rw [z]; exact .of oa1) ?_ ?_⟩
      · rintro j y σ H' hj ⟨w13, rfl, rfl, hno⟩
        obtain ⟨a, ha, rfl⟩ := mapg hj
        obtain ⟨b', e, c', q1, q2, q3⟩ := oa3 j a ha
        refine ⟨_, rfl, _, rfl, a, _, _, .str b', rfl, rfl, .of q2, at0, rfl, _, rfl, ite_s (fun k => ?_) (fun k => ?_)⟩
        · subst k
          have hmem := List.mem_of_getElem? q1
          have hr := rf_odd (nm := nm) hmem
          have hout : out = .err e := by
            cases e with
            | line p => exact absurd rfl (odd_er hmem p)
            | unk x => exact oU c9 x hr
            | big => exact oB c9 hr
            | pos p => exact oP c9 p hr
          rw [hout] at q
          exact ⟨_, rfl, a, _, _, .ref c', rfl, rfl, .of q2, atI_nat (j := 1) rfl, q _ c' s9 q3⟩
        · refine ⟨_, rfl, rfl, fun m hm p hp => ?_⟩
          rcases Nat.lt_or_ge m j with z | z
          · exact hno m z p hp
          · rw [show m = j by omega, q1] at hp
            cases hp
            exact k
      rintro σ H' ⟨w13, rfl, rfl, hno⟩
      rw [lam] at hno
      have hno2 : ∀ p ∈ oddL, b ≠ p.1 := fun p hp => by
        obtain ⟨m, hm⟩ := List.mem_iff_getElem?.mp hp
        have hml := (List.getElem?_eq_some_iff.mp hm).1
        exact hno m (by have : oddL.length = 7 := rfl; omega) p hm
      obtain ⟨f, hf, hRf⟩ := rf_fm (nm := nm) hBd hno2
      obtain ⟨g1, g2, g3⟩ := strg_f (nm := nm) hf
      -- the strange names
      refine ⟨sz2, fun p10 np10 => ?_⟩
      generalize hX : upd H' p10 _ = H10; obtain ⟨sH10, ep10⟩ := nw np10 hX; clear hX
      have s10 := s9.trans sH10
      have n10 := sH10 _ _ n9
      refine ⟨p10, rfl, ⟨_, .of ep10⟩, fun D hD => lc_tup (K := K) (a := p10) (xs := nm2.map V.str) (fun i H' => Same H10 H' ∧ H' D = some (.lst (((nm2.take i).filter fun w => isin w b && !decide (w ∈ nm)).map V.str))) ⟨same_new hD, upd_same⟩ (fun i H' _ ⟨z, _⟩ => .of (z _ _ ep10)) ?_ ?_⟩
      · rintro i2 y HA hi2 ⟨s', e'⟩
        obtain ⟨w2, hw2, rfl⟩ := mapg hi2
        have et : nm2.take (i2 + 1) = nm2.take i2 ++ [w2] := by rw [List.take_add_one, hw2]; rfl
        refine ⟨rfl, _, rfl, _, rfl, w2, b, rfl, rfl, _, rfl, ?_⟩
        have hnA := s' _ _ n10
        have stay : (isin w2 b && !decide (w2 ∈ nm)) = false → Same H10 HA ∧ HA D = some (.lst (((nm2.take (i2 + 1)).filter fun w => isin w b && !decide (w ∈ nm)).map V.str)) := fun z => ⟨s', by
          rw [et, List.filter_append, List.filter_cons_of_neg (by rw [z]; exact Bool.false_ne_true), List.filter_nil, List.append_nil]
          exact e'⟩
        cases ci : isin w2 b with
        | false =>
          refine iteB_f ci (iteB_f rfl (stay ?_))
          rw [ci]; rfl
        | true =>
        refine iteB_t ci ⟨_, rfl, _, rfl, ninqL (.inl (.inl hnA)) ⟨_, rfl, ?_⟩⟩
        by_cases cm : w2 ∈ nm
        · refine iteB_f (by rw [decide_eq_true cm]; rfl) (stay ?_)
          rw [ci, decide_eq_true cm]; rfl
        · refine iteB_t (by rw [decide_eq_false cm]; rfl) ⟨_, rfl, _, e', ?_, fun b2 u hb => by rw [upd_ne (ne_of_none hb hD)]; exact s' _ _ hb, ?_⟩
          · rw [List.length_map]
            refine Nat.lt_of_le_of_lt (Nat.le_trans (List.length_filter_le _ _) (show (nm2.take i2).length ≤ 2 by rw [List.length_take]; have : nm2.length = 2 := rfl; omega)) (by decide)
          · rw [upd_same, et, List.filter_append, List.filter_cons_of_pos (by rw [ci, decide_eq_false cm]; rfl), List.filter_nil, List.map_append]
            rfl
      rintro HB ⟨sB2, eB2⟩
      rw [List.length_map, List.take_length] at eB2
      have eB3 : HB D = some (.lst ((strg nm b).map V.str)) := eB2
      clear eB2
      have sB := s10.trans sB2
      have lst : ((strg nm b).map V.str).length = (strg nm b).length := List.length_map _
      have ls2 : (strg nm b).length ≤ 2 := Nat.le_trans (List.length_filter_le _ _) (by decide)
      generalize strg nm b = S at eB3 lst ls2 g1 g2 g3
      refine ⟨fun σ' HX => σ' = [some (.str t), some (.ref o), some (.ref p1), some (.str rest), some (.ref n), some (.int (-1)), some (.ref c), some (.int (tot fs gs)), some (.int ((3 : Int) + (i : Nat))), some (.str l), some (.int (kd : Int)), some (.bl true), some (.str b), w13, some (.ref D), v15, v16] ∧ HX = HB ∧ ¬ (S.length = 2 ∧ Txt.find b "qb2q" < Txt.find b "qa1x"), ?_, ?_⟩
      · refine ⟨_, rfl, D, _, rfl, .inl (.of eB3), rfl, _, rfl, ?_⟩
        rw [lst]
        by_cases d1 : S.length = 2
        · refine iteB_t (decide_eq_true (congrArg V.int (by omega))) ?_
          refine ⟨_, rfl, ⟨_, rfl⟩, _, _, rfl, rfl, _, rfl, ⟨_, rfl⟩, _, _, rfl, rfl, _, _, rfl, rfl, _, rfl, ?_⟩
          by_cases d2 : Txt.find b "qb2q" < Txt.find b "qa1x"
          · refine iteB_t (decide_eq_true d2) ?_
            have hu := g1 d1 d2
            rw [hu] at hRf
            rw [oU c9 _ hRf] at q
            exact ⟨sz2, fun r nr => q _ r (sB.trans (same_new nr)) upd_same⟩
          · exact iteB_f (decide_eq_false d2) ⟨rfl, rfl, fun z => d2 z.2⟩
        · exact iteB_f (decide_eq_false fun z => d1 (by have := V.int.inj z; omega)) (iteB_f rfl ⟨rfl, rfl, fun z => d1 z.1⟩)
      rintro σ' HX ⟨rfl, rfl, nd⟩
      refine ⟨_, rfl, D, _, rfl, .inl (.of eB3), _, _, rfl, rfl, _, rfl, ?_⟩
      rw [lst]
      cases hS : S with
      | cons w2 r2 =>
        have hu := g2 nd w2 r2 hS
        rw [hu] at hRf
        rw [oU c9 _ hRf] at q
        refine iteB_t (decide_eq_true (by rw [List.length_cons]; omega)) ?_
        rw [hS] at eB3
        exact ⟨_, rfl, D, _, _, .str w2, rfl, rfl, .of eB3, at0, sz2, fun r nr => q _ r (sB.trans (same_new nr)) upd_same⟩
      | nil =>
      have hu := g3 hS
      rw [hu] at hRf
      have ho := oF c9 f hRf
      refine iteB_f (decide_eq_false (by decide)) ?_
      -- the sum
      have esg : (Str.ofString "XFGUWRYZOHST").cps.size = 12 ∧ tl (Str.ofString "XFGUWRYZOHST") = upL := by decide +kernel
      refine ⟨_, rfl, _, rfl, fun D2 hD2 => lc_it walk_str (fun i H' => Same HX H' ∧ H' D2 = some (.lst (((upL.take i).map fun c => ((cC c (tl b) : Nat) : Int)).map V.int))) ⟨same_new hD2, upd_same⟩ (fun i H' _ _ => trivial) ?_ ?_⟩
      · rintro i2 y HA HA' hi2 ⟨s', e'⟩ ⟨rfl, cc, hcc, rfl⟩
        have hc2 : upL[i2]? = some cc := by rw [← esg.2]; exact cps_tl hcc
        have et : upL.take (i2 + 1) = upL.take i2 ++ [cc] := by rw [List.take_add_one, hc2]; rfl
        refine ⟨rfl, _, rfl, ⟨_, rfl⟩, _, rfl, b, _, rfl, rfl, _, e', ?_, fun b2 u hb => by rw [upd_ne (ne_of_none hb hD2)]; exact s' _ _ hb, ?_⟩
        · rw [List.length_map, List.length_map, List.length_take]
          have : upL.length = 12 := rfl
          exact Nat.lt_of_le_of_lt (show min i2 upL.length ≤ 12 by omega) (by decide)
        · rw [upd_same, et, List.map_append, List.map_append, countC b (y := ⟨#[cc]⟩) (c := cc) rfl]
          rfl
      rintro HC ⟨sC, eC⟩
      rw [esg.1, show upL.take 12 = upL from rfl] at eC
      have hsum : (upL.map fun c => ((cC c (tl b) : Nat) : Int)).sum = cnT f := by
        rw [sum_cast]
        show ((up (tl b) : Nat) : Int) = _
        rw [fbd_up hf]
        show _ = ((cntK tpK (pre f) : Nat) : Int)
        rw [cntK_pre]
      obtain ⟨h1, h2, h3⟩ := hFG f
      refine ⟨D2, _, rfl, .of eC, _, _, rfl, rfl, ?_⟩
      rw [hsum]
      rw [← h2, ← h3] at c9'
      have cC' := sC _ _ (sB2 _ _ (sH10 _ _ c9'))
      refine ⟨F f, G f, _, _, _, _, _, _, _, _, _, by rw [h1]; rfl, k9.trans (Same.kp (sH10.trans (sB2.trans sC))), cC', .inl ⟨ho, ?_, ?_, fun j j1 j2 l' hl' => ?_⟩⟩
      · rw [h2, h3]; omega
      · omega
      · rcases Nat.lt_or_ge j (3 + i) with z | z
        · exact hng j j1 z l' hl'
        · rw [show j = 3 + i by omega, el] at hl'
          cases hl'
          rw [show j = 3 + i by omega]
          exact hneg
    · rintro σ H6 ⟨fs, gs, v8, v9, v10, v11, v12, v13, v14, v15, v16, rfl, k6, c6, hor⟩
      rw [hN] at hor
      have s6 : Same H H6 := fun b u hb => k6 _ _ (ne_of_none hb n0c) (s5 _ _ hb)
      have e6 := k6 _ _ ncp.symm e5
      have fin : ∃ bb : Bool, out = .done fs gs bb ∧ ∀ l, ls[ls.length - 1]? = some l → (decide ((3 : Int) < (ls.length : Int)) && decide (V.str l = V.str wN)) = bb := by
        rcases hor with ⟨ho, _, _, hng⟩ | ⟨_, ho, hlast, h4⟩
        · rw [show 3 + (ls.length - 3) = ls.length by omega, List.drop_length] at ho
          refine ⟨false, ho, fun l hl' => ?_⟩
          by_cases z : 3 < ls.length
          · have := hng (ls.length - 1) (by omega) (by omega) l hl'
            rw [decide_eq_false (fun y => this ⟨V.str.inj y, by omega⟩), Bool.and_false]
          · rw [decide_eq_false (by omega), Bool.false_and]
        · refine ⟨true, ho, fun l hl' => ?_⟩
          rw [hlast] at hl'
          cases hl'
          rw [decide_eq_true (by omega), decide_eq_true rfl]
          rfl
      obtain ⟨bb, ho, hbb⟩ := fin
      rw [ho] at q
      dsimp only at q
      refine ⟨_, rfl, rfl, _, rfl, ite_sn (fun k => ?_) (fun k => ?_)⟩
      · rw [if_pos (show rest ≠ sE from k)] at q
        refine ⟨_, rfl, p1, _, rfl, .inl (.of e6), sz2, fun r nr => ?_⟩
        rw [hlm]
        exact q _ r (s6.trans (same_new nr)) upd_same
      rw [if_neg (show ¬ rest ≠ sE from fun z => z k)] at q
      refine ⟨_, rfl, _, _, rfl, rfl, _, rfl, ?_⟩
      by_cases c8 : 8 < tot fs gs
      · refine iteB_t (decide_eq_true c8) ?_
        rw [if_pos (show 8 < ((fs ++ gs).map cnT).sum from c8)] at q
        exact ⟨sz1, fun r nr => q _ r (s6.trans (same_new nr)) upd_same⟩
      refine iteB_f (decide_eq_false c8) ?_
      rw [if_neg (show ¬ 8 < ((fs ++ gs).map cnT).sum from c8)] at q
      obtain ⟨l, el⟩ : ∃ l, ls[ls.length - 1]? = some l := ⟨_, List.getElem?_eq_getElem (by omega)⟩
      have hbb := hbb l el
      have ela : atI (ls.map V.str) (-1) = some (V.str l) := by
        have h1 := take_get el
        rw [show ls.length - 1 + 1 = ls.length by omega, List.take_length] at h1
        rw [h1, List.map_append]
        exact atI_last _ _
      refine ⟨_, rfl, c, _, _, _, rfl, rfl, .of c6, at0, _, rfl, c, _, _, _, rfl, rfl, .of c6, atI_nat (j := 1) rfl, _, rfl, p1, _, rfl, .inl (.of e6), _, _, rfl, rfl, _, rfl, ?_⟩
      rw [hlm]
      have sz4 : 4 ≤ sizeLine := by decide
      by_cases z : (3 : Int) < (ls.length : Int)
      · rw [decide_eq_true z, Bool.true_and] at hbb
        refine iteB_t (decide_eq_true z) ⟨_, rfl, _, rfl, p1, _, _, .str l, rfl, rfl, .of e6, ela, rfl, sz4, fun r nr => ?_⟩
        rw [← hbb] at q
        exact q _ r (s6.trans (same_new nr)) upd_same
      · rw [decide_eq_false z, Bool.false_and] at hbb
        refine iteB_f (decide_eq_false z) ⟨sz4, fun r nr => ?_⟩
        rw [← hbb] at q
        exact q _ r (s6.trans (same_new nr)) upd_same
end
/-- one sign times a number -/
theorem op_mulC {X : Cx} : OpR X (binaryOp .Mult) (fun x y H Q => ∃ (s : Str) (c n : Nat), x = .str s ∧ s.cps = #[c] ∧ y = .int (n : Int) ∧ n ≤ 1000 ∧ Q (.str ⟨(List.replicate n c).toArray⟩) H) := by
  intro pins s σ H x y v u Q I rx ry h
  obtain ⟨z, c, n, rfl, hz, rfl, hn, q⟩ := h
  obtain ⟨t, rfl⟩ := rx
  obtain ⟨t', rfl⟩ := ry
  have hl : z.length = 1 := by show z.cps.size = 1; rw [hz]; rfl
  refine P.mul_str ?_ (fun h1 _ => ?_) (fun h1 _ => ?_) ?_
  · rw [decide_eq_false (by omega), decide_eq_false (by omega)]
    rfl
  · rw [hl]
    have : (1 : Int) ≤ (2 ^ 63 - 1) / (n : Int) := by
      rw [Int.le_ediv_iff_mul_le (by omega)]
      omega
    omega
  · rw [hl]
    unfold Builtin.Str.tooLong
    refine decide_eq_false ?_
    rw [Int.toNat_natCast, Nat.one_mul]
    exact Nat.not_lt.mpr (Nat.le_trans hn (by decide))
  · by_cases c0 : (n : Int) < 1
    · rw [if_pos c0]
      obtain rfl : n = 0 := by omega
      exact ⟨by decide, .str Str.empty, H, I.tok _, ⟨_, rfl⟩, q⟩
    · rw [if_neg c0]
      by_cases c1 : n = 1
      · subst c1
        rw [if_pos (by rfl)]
        have e : (⟨(List.replicate 1 c).toArray⟩ : Str) = z := by
          cases z with
          | mk a =>
            have : a = #[c] := hz
            rw [this]
            rfl
        rw [e] at q
        exact ⟨.str z, H, I, ⟨t, rfl⟩, q⟩
      · rw [if_neg (by rw [hl]; simp; omega), Int.toNat_natCast, hz, Ml7.fold_rep]
        have e : (⟨#[] ++ (List.replicate n c).toArray⟩ : Str) = ⟨(List.replicate n c).toArray⟩ := by simp
        rw [e]
        refine ⟨?_, .str _, H, I.tok _, ⟨_, rfl⟩, q⟩
        show (List.replicate n c).toArray.size ≤ _
        simp
        exact Nat.le_trans hn (by decide)
section
open TL
theorem OdAt.kp {H H' : Hp} {d o : Addr} (hd : Drw H d) (k : Kp d H H') : OdAt H o → OdAt H' o := fun ⟨as, h1, h2, h3⟩ => by
  obtain ⟨ds, ed⟩ := hd
  refine ⟨as, k _ _ (fun z => ?_) h1, h2, fun i a ha => ?_⟩
  · rw [z, ed] at h1
    cases as with
    | nil => cases h2
    | cons a r =>
      cases ds with
      | nil => cases h1
      | cons b s => cases h1
  · obtain ⟨b, e, c, q1, q2, q3⟩ := h3 i a ha
    exact ⟨b, e, c, q1, k _ _ (ne_of q2 ed (by intro z; cases z)) q2, k _ _ (ne_of q3 ed (by intro z; cases z)) q3⟩
theorem cut_mid (ls : List Str) (a b : Nat) : ∃ ms : List Str, cutV (ls.map V.str) (some (a : Int)) (some (b : Int)) = ms.map V.str ∧ (∀ m ∈ ms, m ∈ ls) ∧ ms.length ≤ b - a := by
  unfold cutV
  rw [HT.sIx_nat, HT.sIx_nat]
  refine ⟨(ls.drop (min a (ls.map V.str).length)).take (min b (ls.map V.str).length - min a (ls.map V.str).length), by rw [List.map_take, List.map_drop], fun m hm => List.mem_of_mem_drop (List.mem_of_mem_take hm), ?_⟩
  rw [List.length_take, List.length_map]
  omega
def lnx : Nat → Str := fun n => ⟨(List.replicate n 88).toArray⟩
def xN : Nat → Fm
  | 0 => .c0 "true"
  | n + 1 => .un "next" (xN n)
theorem xN_f : ∀ n ∈ ([0, 1, 2, 3, 4, 5, 6, 7, 8] : List Nat), Str.ofString "guarantee " ++ lnx n ++ Str.ofString "true" = wG ++ prF (xN n) ∧ pdp (xN n) ≤ 2 ∧ dpt (xN n) ≤ 10 ∧ sz (xN n) ≤ 100 ∧ cnt tpK (xN n) ≤ 8 ∧ cnt dblK (xN n) ≤ 6 ∧ (prF (xN n)).length ≤ 100 := by decide +kernel
theorem xN_wo : ∀ n, Wo nm2 (xN n)
  | 0 => .inl rfl
  | n + 1 => ⟨odd_fm.2.2.2.2.2, xN_wo n⟩
theorem xN_ln {n : Nat} (h : n < 9) : LnC (Str.ofString "guarantee " ++ lnx n ++ Str.ofString "true") := by
  obtain ⟨h1, h2, h3, h4, h5, h6, h7⟩ := xN_f n (by simp; omega)
  exact .inr ⟨_, .inr ⟨xN n, ⟨xN_wo n, h2, h3, h4, h5, h6, h7⟩, .inl rfl⟩, .inr h1⟩
def extL : List Str := ["", "negated", "inputs", "outputs qz9x", "lead 3", "lead -0", "lead 00", "lead  1", " negated", "negated ", "assume", "guarantee", "guarantee  true", "inputs qa1x qa1x", "inputs  qa1x", "assume true"]
theorem ext_f : (∀ l ∈ extL, l ∈ hLits ∨ l = wG ++ (sB ++ prF (xN 0)) ∨ l = wA ++ prF (xN 0)) ∧ (∀ l ∈ extL, l.length ≤ 20) := by decide +kernel
theorem ext_ln {l : Str} (h : l ∈ extL) : LnC l := by
  obtain ⟨_, h2, h3, h4, h5, h6, h7⟩ := xN_f 0 (by simp)
  have fo : FOk (xN 0) := ⟨xN_wo 0, h2, h3, h4, h5, h6, h7⟩
  rcases ext_f.1 l h with h | h | h
  · exact .inl h
  · exact .inr ⟨_, .inr ⟨xN 0, fo, .inr rfl⟩, .inr h⟩
  · exact .inr ⟨_, .inr ⟨xN 0, fo, .inl rfl⟩, .inl h⟩
def spCh8 : Sp := fun vs H Q _ => ∃ (d a o : Addr) (ls : List Str), vs = [.ref d, .ref a, .ref o] ∧ Drw H d ∧ a ≠ d ∧ H a = some (.lst (ls.map V.str)) ∧ ls.length ≤ 50 ∧ (∀ l ∈ ls, LnC l) ∧ OdAt H o ∧
  ∀ (H' : Hp) (a' : Addr) (ls' : List Str), Kp d H H' → Drw H' d → a' ≠ d → H' a' = some (.lst (ls'.map V.str)) → ls'.length ≤ ls.length + 2 → (∀ l ∈ ls', LnC l) → Q (.ref a') H'
/-- te gives a new list of lines -/
def Lq (d : Addr) (σ : L2.St) (H : Hp) (te : TE) (n : Nat) : Prop := ∀ (H0 : Hp) (Q : VK), Kp d H H0 → Drw H0 d → (∀ (H' : Hp) (p : Addr) (ms : List Str), Kp d H0 H' → Drw H' d → p ≠ d → H' p = some (.lst (ms.map V.str)) → (∀ m ∈ ms, LnC m) → ms.length ≤ n → Q (.ref p) H') → te σ H0 Q
theorem Lq.cat {d : Addr} {σ : L2.St} {H : Hp} {t u : TE} {n m : Nat} (h1 : Lq d σ H t n) (h2 : Lq d σ H u m) (hn : n + m ≤ 1000) : Lq d σ H (tOp rCat t u) (n + m) := fun H0 Q k0 d0 q =>
  h1 H0 _ k0 d0 fun H1 p1 ms1 k1 d1 n1 e1 c1 l1 => h2 H1 _ (k0.trans k1) d1 fun H2 p2 ms2 k2 d2 n2 e2 c2 l2 => by
    refine ⟨p1, p2, _, _, rfl, rfl, k2 _ _ n1 e1, e2, by rw [List.length_map, List.length_map]; exact Nat.le_trans (show ms1.length + ms2.length ≤ 1000 by omega) (by decide), fun p np => ?_⟩
    have s := same_new (o := .lst (ms1.map V.str ++ ms2.map V.str)) np
    refine q _ p (ms1 ++ ms2) ((k1.trans k2).trans (Same.kp s)) (d2.same s) (fun z => ?_) (by rw [upd_same, List.map_append]) (fun m hm => (List.mem_append.mp hm).elim (c1 m) (c2 m)) (by rw [List.length_append]; omega)
    obtain ⟨ds, ed⟩ := d2
    rw [z, ed] at np
    cases np
theorem Lq.one {d : Addr} {σ : L2.St} {H : Hp} {t : TE} (h : ∀ (H0 : Hp) (Q : VK), Kp d H H0 → Drw H0 d → (∀ (H' : Hp) (x : Str), Kp d H0 H' → Drw H' d → LnC x → Q (.str x) H') → t σ H0 Q) : Lq d σ H (tLst (tCons t tNil)) 1 := fun H0 Q k0 d0 q =>
  h H0 _ k0 d0 fun H1 x k1 d1 hx => ⟨by show 1 ≤ sizeLine; decide, fun p np => by
    have s := same_new (o := .lst [V.str x]) np
    refine q _ p [x] (k1.trans (Same.kp s)) (d1.same s) (fun z => ?_) upd_same (fun m hm => by rw [List.mem_singleton.mp hm]; exact hx) (Nat.le_refl _)
    obtain ⟨ds, ed⟩ := d1
    rw [z, ed] at np
    (cases np)⟩
section
variable {d a : Addr} {σ : L2.St} {H : Hp} {ls : List Str}
theorem sl_new {H0 H1 : Hp} {d p : Addr} {ms : List Str} {Q : VK} (d0 : Drw H0 d) (np : H0 p = none) (hc : ∀ m ∈ ms, LnC m) {n : Nat} (hn : ms.length ≤ n) (q : ∀ (H' : Hp) (p : Addr) (ms : List Str), Kp d H0 H' → Drw H' d → p ≠ d → H' p = some (.lst (ms.map V.str)) → (∀ m ∈ ms, LnC m) → ms.length ≤ n → Q (.ref p) H') : Q (.ref p) (upd H0 p (.lst (ms.map V.str))) := by
  have s := same_new (o := .lst (ms.map V.str)) np
  refine q _ p ms (Same.kp s) (d0.same s) (fun z => ?_) upd_same hc hn
  obtain ⟨ds, ed⟩ := d0
  rw [z, ed] at np
  cases np
theorem Lq.to (h1 : σ[1]? = some (some (.ref a))) (nad : a ≠ d) (ha : H a = some (.lst (ls.map V.str))) (hc : ∀ l ∈ ls, LnC l) {te : TE} {k : Nat} (hte : ∀ (H0 : Hp) (R : VK), R (.int (k : Int)) H0 → te σ H0 R) : Lq d σ H (tSl (rSlL K) (tVar 1) tNoPart (tPart te)) k := fun H0 Q k0 d0 q =>
  ⟨_, h1, hte H0 _ ⟨_, rfl, a, _, rfl, .of (k0 _ _ nad ha), fun p np => by
    rw [cut_take, ← List.map_take]
    exact sl_new (H1 := H0) d0 np (fun m hm => hc m (List.mem_of_mem_take hm)) (by rw [List.length_take]; omega) q⟩⟩
theorem Lq.fr (h1 : σ[1]? = some (some (.ref a))) (nad : a ≠ d) (ha : H a = some (.lst (ls.map V.str))) (hc : ∀ l ∈ ls, LnC l) {te : TE} {k : Nat} (hte : ∀ (H0 : Hp) (R : VK), R (.int (k : Int)) H0 → te σ H0 R) : Lq d σ H (tSl (rSlL K) (tVar 1) (tPart te) tNoPart) (ls.length - k) := fun H0 Q k0 d0 q =>
  ⟨_, h1, hte H0 _ ⟨_, rfl, a, _, rfl, .of (k0 _ _ nad ha), fun p np => by
    rw [cut_drop, ← List.map_drop]
    exact sl_new (H1 := H0) d0 np (fun m hm => hc m (List.mem_of_mem_drop hm)) (by rw [List.length_drop]; omega) q⟩⟩
theorem Lq.mid (h1 : σ[1]? = some (some (.ref a))) (nad : a ≠ d) (ha : H a = some (.lst (ls.map V.str))) (hc : ∀ l ∈ ls, LnC l) {te tf : TE} {k m : Nat} (hte : ∀ (H0 : Hp) (R : VK), R (.int (k : Int)) H0 → te σ H0 R) (htf : ∀ (H0 : Hp) (R : VK), R (.int (m : Int)) H0 → tf σ H0 R) : Lq d σ H (tSl (rSlL K) (tVar 1) (tPart te) (tPart tf)) (m - k) := fun H0 Q k0 d0 q =>
  ⟨_, h1, hte H0 _ ⟨_, rfl, htf H0 _ ⟨_, rfl, a, _, rfl, .of (k0 _ _ nad ha), fun p np => by
    obtain ⟨ms, e, hm, hl⟩ := cut_mid ls k m
    rw [e]
    exact sl_new (H1 := H0) d0 np (fun x hx => hc x (hm x hx)) hl q⟩⟩⟩
end
theorem cal_ch (T : Txt K mg w P) : C8.Cal P w K mg base 3 "_law_change" spCh8 [] := by
  have C_law_take : C8.Cal P w K mg base 1 "_law_take" spTake [] := cal_take T
  obtain ⟨f, fd, F, hm, hb⟩ := T.h_law_change
  refine ⟨f, fd, _, [], F.ok sc_law_change (fun vs H Q E h => ?_) (fun cdv A outer s H vs Q E hr h => ?_), hm, F.kp, hb, .nil⟩
  · obtain ⟨d, a, o, ls, rfl, _⟩ := h
    rfl
  · obtain ⟨d, a, o, ls, rfl, hd, nad, ha, hl, hc, hod, q⟩ := h
    refine ⟨_, (pss_cons
      (ps_set (i := 3) sc_law_change.nd rfl (Or.inl rfl) (C8.pe_c C_law_take hr (by decide) (by rfl) (pa_cons (pv 0) (pa_cons pe_int pa_nil))))
      (pss_cons
      (ps_set (i := 4) sc_law_change.nd rfl (Or.inl rfl) (C8.pe_c C_law_take hr (by decide) (by rfl) (pa_cons (pv 0) (pa_cons (pe_op op_add (pe_callB (call_lenK (K := K) rfl) (by rfl) T.z_len PySem.boot_len (pa_cons (pv 1) pa_nil)) pe_int) pa_nil))))
      (pss_cons
      (ps_set (i := 5) sc_law_change.nd rfl (Or.inl rfl) (pe_lst (pa_cons pe_str (pa_cons pe_str (pa_cons pe_str (pa_cons pe_str (pa_cons pe_str (pa_cons pe_str (pa_cons pe_str (pa_cons pe_str (pa_cons pe_str (pa_cons pe_str pa_nil))))))))))))
      (pss_cons
      (ps_set (i := 5) sc_law_change.nd rfl (Or.inl rfl) (pe_op op_cat (pv 5) (pe_lst (pa_cons pe_str (pa_cons pe_str (pa_cons pe_str (pa_cons pe_str (pa_cons pe_str (pa_cons pe_str pa_nil)))))))))
      (pss_cons
      (ps_if (pt_cmpR op_eq (pv 3) pe_int (nomark _)) (pss_one
      (ps_ret (pe_op op_cat (pe_slice (sl_listK (K := K) rfl) (pv 1) po_none (po_some (pv 4))) (pe_slice (sl_listK (K := K) rfl) (pv 1) (po_some (pe_op op_add (pv 4) pe_int)) po_none)))) pss_nil)
      (pss_cons
      (ps_if (pt_cmpR op_eq (pv 3) pe_int (nomark _)) (pss_one
      (ps_ret (pe_op op_cat (pe_op op_cat (pe_slice (sl_listK (K := K) rfl) (pv 1) po_none (po_some (pv 4))) (pe_slice (sl_listK (K := K) rfl) (pv 1) (po_some (pv 4)) (po_some (pe_op op_add (pv 4) pe_int)))) (pe_slice (sl_listK (K := K) rfl) (pv 1) (po_some (pv 4)) po_none)))) pss_nil)
      (pss_cons
      (ps_if (pt_cmpR op_eq (pv 3) pe_int (nomark _)) (pss_one
      (ps_ret (pe_op op_cat (pe_op op_cat (pe_op op_cat (pe_slice (sl_listK (K := K) rfl) (pv 1) po_none (po_some (pv 4))) (pe_slice (sl_listK (K := K) rfl) (pv 1) (po_some (pe_op op_add (pv 4) pe_int)) (po_some (pe_op op_add (pv 4) pe_int)))) (pe_slice (sl_listK (K := K) rfl) (pv 1) (po_some (pv 4)) (po_some (pe_op op_add (pv 4) pe_int)))) (pe_slice (sl_listK (K := K) rfl) (pv 1) (po_some (pe_op op_add (pv 4) pe_int)) po_none)))) pss_nil)
      (pss_cons
      (ps_if (pt_cmpR op_lt (pv 3) pe_int (nomark _)) (pss_one
      (ps_ret (pe_op op_cat (pe_op op_cat (pe_slice (sl_listK (K := K) rfl) (pv 1) po_none (po_some (pv 4))) (pe_lst (pa_cons (pe_ix (ix_listK (K := K) rfl) (pv 5) (C8.pe_c C_law_take hr (by decide) (by rfl) (pa_cons (pv 0) (pa_cons pe_int pa_nil))) (fun _ _ => rfl)) pa_nil))) (pe_slice (sl_listK (K := K) rfl) (pv 1) (po_some (pv 4)) po_none)))) pss_nil)
      (pss_cons
      (ps_if (pt_cmpR op_eq (pv 3) pe_int (nomark _)) (pss_cons
      (ps_set (i := 6) sc_law_change.nd rfl (Or.inl rfl) (pe_ix (ix_listK (K := K) rfl) (pe_lst (pa_cons pe_str (pa_cons pe_str pa_nil))) (C8.pe_c C_law_take hr (by decide) (by rfl) (pa_cons (pv 0) (pa_cons pe_int pa_nil))) (fun _ _ => rfl)))
      (pss_one
      (ps_ret (pe_op op_cat (pe_op op_cat (pe_slice (sl_listK (K := K) rfl) (pv 1) po_none (po_some (pv 4))) (pe_lst (pa_cons (pe_op op_add_str (pv 6) (pe_ix (ix_tupK (K := K) rfl) (pe_ix (ix_listK (K := K) rfl) (pv 2) (C8.pe_c C_law_take hr (by decide) (by rfl) (pa_cons (pv 0) (pa_cons (pe_callB (call_lenK (K := K) rfl) (by rfl) T.z_len PySem.boot_len (pa_cons (pv 2) pa_nil)) pa_nil))) (fun _ _ => rfl)) pe_int (fun _ _ => rfl))) pa_nil))) (pe_slice (sl_listK (K := K) rfl) (pv 1) (po_some (pv 4)) po_none))))) pss_nil)
      (pss_cons
      (ps_if (pt_cmpR op_eq (pv 3) pe_int (nomark _)) (pss_one
      (ps_ret (pe_op op_cat (pe_op op_cat (pe_slice (sl_listK (K := K) rfl) (pv 1) po_none (po_some (pv 4))) (pe_lst (pa_cons (pe_op op_add_str (pe_op op_add_str pe_str (pe_op op_mulC pe_str (C8.pe_c C_law_take hr (by decide) (by rfl) (pa_cons (pv 0) (pa_cons pe_int pa_nil))))) pe_str) pa_nil))) (pe_slice (sl_listK (K := K) rfl) (pv 1) (po_some (pv 4)) po_none)))) pss_nil)
      (pss_one
      (ps_ret (pv 1))))))))))))), ?_⟩
    have hlm : (ls.map V.str).length = ls.length := List.length_map _
    refine ⟨_, rfl, d, 8, rfl, hd, by decide, fun kd ds k0 k1 => ?_⟩
    have K1 : Kp d H (upd H d (.lst (ds.map V.int))) := Kp.own
    have d1 : Drw (upd H d (.lst (ds.map V.int))) d := Drw.own
    have a1 := K1 _ _ nad ha
    have o1 := hod.kp hd K1
    generalize upd H d (.lst (ds.map V.int)) = H1 at K1 d1 a1 o1 ⊢
    refine ⟨_, rfl, _, rfl, a, _, rfl, .inl (.of a1), _, _, rfl, rfl, d, _, rfl, d1, by rw [hlm]; omega, fun at0 us u0 u1 => ?_⟩
    rw [hlm] at u1
    have K2 : Kp d H1 (upd H1 d (.lst (us.map V.int))) := Kp.own
    have d2 : Drw (upd H1 d (.lst (us.map V.int))) d := Drw.own
    have a2 := K2 _ _ nad a1
    have o2 := o1.kp d1 K2
    generalize upd H1 d (.lst (us.map V.int)) = H2 at K2 d2 a2 o2 ⊢
    have K02 := K1.trans K2
    obtain ⟨j, rfl⟩ : ∃ j : Nat, at0 = (j : Int) := ⟨at0.toNat, by omega⟩
    refine ⟨by show 10 ≤ sizeLine; decide, fun p3 np3 => ?_⟩
    generalize hX : upd H2 p3 _ = H3; obtain ⟨sH3, ep3⟩ := nw np3 hX; clear hX
    refine ⟨_, rfl, by show 6 ≤ sizeLine; decide, fun p4 np4 => ?_⟩
    generalize hX : upd H3 p4 _ = H4; obtain ⟨sH4, ep4⟩ := nw np4 hX; clear hX
    refine ⟨p3, p4, _, _, rfl, rfl, sH4 _ _ ep3, ep4, by show 16 ≤ sizeLine; decide, fun p5 np5 => ?_⟩
    generalize hX : upd H4 p5 _ = H5; obtain ⟨sH5, ep5⟩ := nw np5 hX; clear hX
    have s25 := (sH3.trans sH4).trans sH5
    have d5 := d2.same s25
    have a5 := s25 _ _ a2
    have o5 := o2.same s25
    have K05 : Kp d H H5 := K02.trans (Same.kp s25)
    have e5 : H5 p5 = some (.lst (extL.map V.str)) := ep5
    have n5d : p5 ≠ d := fun z => by
      obtain ⟨ds, ed⟩ := d2.same (sH3.trans sH4)
      rw [z, ed] at np5
      cases np5
    clear ep3 ep4 ep5
    -- the parts
    have tv4 : ∀ (v6 : Option V) (H0 : Hp) (R : VK), R (.int (j : Int)) H0 → (tVar 4) [some (.ref d), some (.ref a), some (.ref o), some (.int kd), some (.int (j : Int)), some (.ref p5), v6] H0 R := fun v6 H0 R h => ⟨_, rfl, h⟩
    have tvk : ∀ (k : Nat) (v6 : Option V) (H0 : Hp) (R : VK), R (.int ((j + k : Nat) : Int)) H0 → (tOp (rI0 fun i j => V.int (i + j)) (tVar 4) (tC (V.int (k : Int)))) [some (.ref d), some (.ref a), some (.ref o), some (.int kd), some (.int (j : Int)), some (.ref p5), v6] H0 R := fun k v6 H0 R h => ⟨_, rfl, _, _, rfl, rfl, h⟩
    have to0 := fun v6 => Lq.to (K := K) (d := d) (H := H5) (σ := [some (.ref d), some (.ref a), some (.ref o), some (.int kd), some (.int (j : Int)), some (.ref p5), v6]) rfl nad a5 hc (tv4 v6)
    have fr0 := fun v6 => Lq.fr (K := K) (d := d) (H := H5) (σ := [some (.ref d), some (.ref a), some (.ref o), some (.int kd), some (.int (j : Int)), some (.ref p5), v6]) rfl nad a5 hc (tv4 v6)
    have frk := fun k => Lq.fr (K := K) (d := d) (H := H5) (σ := [some (.ref d), some (.ref a), some (.ref o), some (.int kd), some (.int (j : Int)), some (.ref p5), none]) rfl nad a5 hc (tvk k none)
    have md0 := Lq.mid (K := K) (d := d) (H := H5) (σ := [some (.ref d), some (.ref a), some (.ref o), some (.int kd), some (.int (j : Int)), some (.ref p5), none]) rfl nad a5 hc (tv4 none) (tvk 1 none)
    have md1 := Lq.mid (K := K) (d := d) (H := H5) (σ := [some (.ref d), some (.ref a), some (.ref o), some (.int kd), some (.int (j : Int)), some (.ref p5), none]) rfl nad a5 hc (tvk 1 none) (tvk 2 none)
    have fin : ∀ {σ : L2.St} {te : TE} {n : Nat}, Lq d σ H5 te n → n ≤ ls.length + 2 → te σ H5 Q := fun {σ te n} h hn => h H5 Q (Kp.refl _ _) d5 fun H' p ms k1 d1 np e c l => q H' p ms (K05.trans k1) d1 np e (by omega) c
    refine ⟨_, rfl, rfl, _, rfl, ?_⟩
    refine ite2 (fun _ => fin ((to0 none).cat (frk 1) (by omega)) (by omega)) (fun _ => ?_)
    refine ⟨_, rfl, rfl, _, rfl, ?_⟩
    refine ite2 (fun _ => fin (((to0 none).cat md0 (by omega)).cat (fr0 none) (by omega)) (by omega)) (fun _ => ?_)
    refine ⟨_, rfl, rfl, _, rfl, ?_⟩
    refine ite2 (fun _ => fin ((((to0 none).cat md1 (by omega)).cat md0 (by omega)).cat (frk 2) (by omega)) (by omega)) (fun _ => ?_)
    refine ⟨_, rfl, _, _, rfl, rfl, _, rfl, ?_⟩
    refine ite2 (fun _ => ?_) (fun _ => ?_)
    · refine fin (((to0 none).cat (Lq.one fun H0 R k0 d0 qr => ?_) (by omega)).cat (fr0 none) (by omega)) (by omega)
      refine ⟨_, rfl, _, rfl, d, 16, rfl, d0, by decide, fun u us u0 u1 => ?_⟩
      obtain ⟨x, hx, ex⟩ := pick_at (ss := extL) u0 u1
      exact ⟨p5, _, _, .str x, rfl, rfl, .of (Kp.own _ _ n5d (k0 _ _ n5d e5)), ex, qr _ x Kp.own Drw.own (ext_ln hx)⟩
    refine ⟨_, rfl, rfl, _, rfl, ?_⟩
    refine ite2 (fun _ => ?_) (fun _ => ?_)
    · refine ⟨sz2, fun p6 np6 => ?_⟩
      generalize hX : upd H5 p6 _ = H6; obtain ⟨sH6, ep6⟩ := nw np6 hX; clear hX
      have d6 := d5.same sH6
      have n6d : p6 ≠ d := fun z => by
        obtain ⟨ds, ed⟩ := d5
        rw [z, ed] at np6
        cases np6
      refine ⟨_, rfl, d, 2, rfl, d6, by decide, fun u us u0 u1 => ?_⟩
      have K7 : Kp d H6 (upd H6 d (.lst (us.map V.int))) := Kp.own
      have d7 : Drw (upd H6 d (.lst (us.map V.int))) d := Drw.own
      have a7 := K7 _ _ nad (sH6 _ _ a5)
      have o7 := (o5.same sH6).kp d6 K7
      have e7 := K7 _ _ n6d ep6
      generalize upd H6 d (.lst (us.map V.int)) = H7 at K7 d7 a7 o7 e7 ⊢
      have K07 : Kp d H H7 := K05.trans ((Same.kp sH6).trans K7)
      obtain ⟨x, hx, ex⟩ := pick_at (ss := [Str.ofString "assume ", Str.ofString "guarantee "]) u0 u1
      refine ⟨p6, _, _, .str x, rfl, rfl, .of e7, ex, ?_⟩
      have hxl : x.length ≤ 10 := by
        have k : ∀ x ∈ ([Str.ofString "assume ", Str.ofString "guarantee "] : List Str), x.length ≤ 10 := by decide +kernel
        exact k x hx
      have to7 := Lq.to (K := K) (d := d) (H := H7) (σ := [some (.ref d), some (.ref a), some (.ref o), some (.int kd), some (.int (j : Int)), some (.ref p5), some (.str x)]) rfl nad a7 hc (tv4 (some (.str x)))
      have fr7 := Lq.fr (K := K) (d := d) (H := H7) (σ := [some (.ref d), some (.ref a), some (.ref o), some (.int kd), some (.int (j : Int)), some (.ref p5), some (.str x)]) rfl nad a7 hc (tv4 (some (.str x)))
      have fin7 : ∀ {σ : L2.St} {te : TE} {n : Nat}, Lq d σ H7 te n → n ≤ ls.length + 2 → te σ H7 Q := fun {σ te n} h hn => h H7 Q (Kp.refl _ _) d7 fun H' p ms k1 d1 np e c l => q H' p ms (K07.trans k1) d1 np e (by omega) c
      refine fin7 ((to7.cat (Lq.one fun H0 R k0 d0 qr => ?_) (by omega)).cat fr7 (by omega)) (by omega)
      obtain ⟨as, q1, q2, q3⟩ := o7.kp d7 k0
      refine ⟨_, rfl, _, rfl, _, rfl, _, rfl, o, _, rfl, .inl (.of q1), d, _, rfl, d0, by rw [List.length_map, q2]; decide, fun v ws v0 v1 => ?_⟩
      rw [List.length_map, q2] at v1
      have K8 : Kp d H0 (upd H0 d (.lst (ws.map V.int))) := Kp.own
      obtain ⟨as', q1', q2', q3'⟩ := (o7.kp d7 k0).kp d0 K8
      obtain ⟨m, rfl⟩ : ∃ m : Nat, v = (m : Int) := ⟨v.toNat, by omega⟩
      obtain ⟨a', ha'⟩ : ∃ a', as'[m]? = some a' := ⟨_, List.getElem?_eq_getElem (by omega)⟩
      obtain ⟨b, e, c, r1, r2, r3⟩ := q3' m a' ha'
      have hmem := List.mem_of_getElem? r1
      have hbl := (bd_f (.inl ⟨e, hmem⟩)).1
      refine ⟨o, _, _, .ref a', rfl, rfl, .of q1', atI_nat (by rw [List.getElem?_map, ha']; rfl), a', _, _, .str b, rfl, rfl, .of r2, at0, _, _, rfl, rfl, Nat.le_trans (show x.length + b.length ≤ 200 by omega) (by decide), ?_⟩
      refine qr _ _ K8 Drw.own (.inr ⟨b, .inl ⟨e, hmem⟩, ?_⟩)
      rcases List.mem_cons.mp hx with h | h
      · exact .inl (by rw [h]; rfl)
      · exact .inr (by rw [List.mem_singleton.mp h]; rfl)
    refine ⟨_, rfl, rfl, _, rfl, ?_⟩
    refine ite2 (fun _ => ?_) (fun _ => ?_)
    · refine fin (((to0 none).cat (Lq.one fun H0 R k0 d0 qr => ?_) (by omega)).cat (fr0 none) (by omega)) (by omega)
      refine ⟨_, rfl, d, 9, rfl, d0, by decide, fun u us u0 u1 => ?_⟩
      obtain ⟨m, rfl⟩ : ∃ m : Nat, u = (m : Int) := ⟨u.toNat, by omega⟩
      have hl9 : (lnx m).length = m := by show (List.replicate m 88).toArray.size = m; simp
      have hw : (Str.ofString "guarantee ").length = 10 ∧ (Str.ofString "true").length = 4 := by decide +kernel
      have hsz : (30 : Nat) ≤ sizeLine := by decide
      refine ⟨_, 88, m, rfl, by decide +kernel, rfl, by omega, _, _, rfl, rfl, by show _ + (lnx m).length ≤ _; rw [hl9, hw.1]; omega, _, _, rfl, rfl, ?_, ?_⟩
      · show (Str.ofString "guarantee " ++ lnx m).length + _ ≤ _
        rw [slen, hl9, hw.1, hw.2]; omega
      · exact qr _ _ Kp.own Drw.own (xN_ln (by omega))
    exact ⟨_, rfl, q H5 a ls K05 d5 nad a5 (by omega) hc⟩
end
section
open TL
def unkN : List Str := ["qa1x", "qb2q", "nobody"]
theorem unkS_mem {nm : List Str} {x : Str} : ∀ {ns : List Str}, unkS nm ns = some x → x ∈ ns
  | [], h => by cases h
  | s :: r, h => by
    unfold unkS at h
    split at h
    · exact List.mem_cons_of_mem _ (unkS_mem h)
    · cases h
      exact List.mem_cons_self
theorem rf_unk {nm : List Str} {b x : Str} (hb : Bd b) (h : Rf nm b = .unk x) : x ∈ unkN := by
  by_cases ho : ∀ p ∈ oddL, b ≠ p.1
  · obtain ⟨f, hf, e⟩ := rf_fm (nm := nm) hb ho
    rw [e] at h
    cases hu : unkL nm (pre f) with
    | none => rw [hu] at h; cases h
    | some y =>
      rw [hu] at h
      cases h
      rw [unk_sg] at hu
      rcases nm2_or (sg_mem hf.1.wo _ (unkS_mem hu)) with e | e <;> rw [e] <;> simp [unkN]
  · obtain ⟨p, hp, e⟩ : ∃ p, p ∈ oddL ∧ b = p.1 := Classical.byContradiction fun z => ho fun p hp e => z ⟨p, hp, e⟩
    have hp2 : (b, p.2) ∈ oddL := by rw [e]; exact hp
    rw [rf_odd hp2] at h
    have k : ∀ p ∈ oddL, ∀ y, erR p.2 = .unk y → y ∈ unkN := by
      unfold oddL
      intro p hp y hy
      simp only [List.mem_cons, List.not_mem_nil, or_false] at hp
      rcases hp with rfl | rfl | rfl | rfl | rfl | rfl | rfl <;> cases hy
      simp [unkN]
    exact k _ hp x h
theorem rpG_unk {nm : List Str} {n : Nat} {x : Str} : ∀ {ls : List Str} {k : Nat} {as gs : List Fm}, (∀ l ∈ ls, LnC l) → rpG (Rf nm) n k ls as gs = .err (.unk x) → x ∈ unkN
  | [], k, as, gs, _, e => by
    unfold rpG at e
    cases e
  | l :: r, k, as, gs, hc, e => by
    unfold rpG at e
    have hc' := fun l' (h : l' ∈ r) => hc l' (List.mem_cons_of_mem _ h)
    split at e
    · cases e
    split at e
    · cases e
    split at e
    · rename_i hA
      split at e
      · exact rpG_unk hc' e
      · rename_i y hy
        cases e
        exact rf_unk (ln_A (hc l List.mem_cons_self) hA.1).1 hy
      · cases e
      · cases e
    split at e
    · rename_i hG
      split at e
      · exact rpG_unk hc' e
      · rename_i y hy
        cases e
        exact rf_unk (ln_G (hc l List.mem_cons_self) hG).1 hy
      · cases e
      · cases e
    · cases e
theorem psE_unk {ls : List Str} {rest x : Str} (hc : ∀ l ∈ ls, LnC l) (e : psE Rf ls rest = .err (.unk x)) : x ∈ unkN := by
  unfold psE at e
  split at e
  · cases e
  split at e
  · cases e
  split at e
  · cases e
  split at e
  · rename_i y hy
    cases e
    exact rpG_unk (fun l hl => hc l (List.mem_of_mem_drop hl)) hy
  · split at e
    · cases e
    · split at e <;> cases e
def dOut : Ps8 → PyData
  | .err (.line p) => .tuple [.str "line", .int (p : Int)]
  | .err (.pos p) => .tuple [.str "position", .int (p : Int)]
  | .err (.unk x) => .tuple [.str "unknown", .str x]
  | .err .big => .tuple [.str "large"]
  | .done _ _ _ fs gs n => .tuple [.str "spec", .int (fs.length : Int), .int (gs.length : Int), .bool n]
theorem dp_out {H : Hp} {r : Addr} : ∀ {o : Ps8}, H r = some (.tup (outV o)) → Dp K H (.ref r) (dOut o)
  | .err (.line p), h => .tup (.of h) (.cons (.str _) (.cons (.int _) .nil))
  | .err (.pos p), h => .tup (.of h) (.cons (.str _) (.cons (.int _) .nil))
  | .err (.unk x), h => .tup (.of h) (.cons (.str _) (.cons (.str _) .nil))
  | .err .big, h => .tup (.of h) (.cons (.str _) .nil)
  | .done _ _ _ fs gs n, h => .tup (.of h) (.cons (.str _) (.cons (.int _) (.cons (.int _) (.cons (.bl _) .nil))))
theorem ok_s : PyData.strOk "line" = true ∧ PyData.strOk "position" = true ∧ PyData.strOk "unknown" = true ∧ PyData.strOk "large" = true ∧ PyData.strOk "spec" = true ∧ ∀ x ∈ unkN, PyData.strOk x = true := by decide +kernel
theorem lay_out : ∀ {o : Ps8}, (∀ x, o = .err (.unk x) → x ∈ unkN) → PyData.canLay0 (dOut o) = true ∧ (dOut o).depth ≤ 199
  | .err (.line p), _ => ⟨by simp [dOut, PyData.canLay0, PyData.canLayAll0, ok_s.1], by simp [dOut, PyData.depth, PyData.depthAll]⟩
  | .err (.pos p), _ => ⟨by simp [dOut, PyData.canLay0, PyData.canLayAll0, ok_s.2.1], by simp [dOut, PyData.depth, PyData.depthAll]⟩
  | .err (.unk x), h => ⟨by simp [dOut, PyData.canLay0, PyData.canLayAll0, ok_s.2.2.1, ok_s.2.2.2.2.2 x (h x rfl)], by simp [dOut, PyData.depth, PyData.depthAll]⟩
  | .err .big, _ => ⟨by simp [dOut, PyData.canLay0, PyData.canLayAll0, ok_s.2.2.2.1], by simp [dOut, PyData.depth, PyData.depthAll]⟩
  | .done _ _ _ fs gs n, _ => ⟨by simp [dOut, PyData.canLay0, PyData.canLayAll0, ok_s.2.2.2.2.1], by simp [dOut, PyData.depth, PyData.depthAll]⟩
theorem op2 {σ : L2.St} {H : Hp} {Q : VK} {b v1 v2 : V} (q : ∀ (H' : Hp) (a c : Addr), Same H H' → H' a = some (.tup [b, .ref c]) → H' c = some (.tup [v1, v2]) → Q (.ref a) H') : tTup (tCons (tC b) (tCons (tTup (tCons (tC v1) (tCons (tC v2) tNil))) tNil)) σ H Q :=
  ⟨sz2, fun c nc => ⟨sz2, fun a na => q _ a c ((same_new nc).trans (same_new na)) upd_same (same_new na _ _ upd_same)⟩⟩
theorem op1 {σ : L2.St} {H : Hp} {Q : VK} {b v1 : V} (q : ∀ (H' : Hp) (a c : Addr), Same H H' → H' a = some (.tup [b, .ref c]) → H' c = some (.tup [v1]) → Q (.ref a) H') : tTup (tCons (tC b) (tCons (tTup (tCons (tC v1) tNil)) tNil)) σ H Q :=
  ⟨sz1, fun c nc => ⟨sz2, fun a na => q _ a c ((same_new nc).trans (same_new na)) upd_same (same_new na _ _ upd_same)⟩⟩
theorem hd_lits : (∀ j ∈ ([0, 1, 2] : List Nat), Txt.join sB ([wI] ++ nm2.take j) ∈ hLits ∧ ∀ k ∈ ([0, 1, 2] : List Nat), Txt.join sB ([wO] ++ (nm2.drop (nm2.take j).length).take k) ∈ hLits ∧ ∀ s ∈ nm2.take j ++ (nm2.drop (nm2.take j).length).take k, s ∈ nm2) ∧ (∀ L ∈ ([-3, -2, -1, 0, 1, 2] : List Int), Str.ofString "lead " ++ ts L ∈ hLits) := by decide +kernel
theorem wo_mono {a b : List Str} (h : ∀ s ∈ a, s ∈ b) : ∀ {f : Fm}, Wo a f → Wo b f
  | .c0 _, w => w
  | .sg s, w => h s w
  | .un _ f, w => ⟨w.1, wo_mono h w.2⟩
  | .bin _ f g, w => ⟨w.1, wo_mono h w.2.1, wo_mono h w.2.2⟩
theorem fok_of {nm : List Str} {f : Fm} (hs : ∀ s ∈ nm, s ∈ nm2) (hw : Wo nm f) (hz : Szd f 2) (hb : Bg f 2 2) : FOk f := by
  have w := wo_mono hs hw
  have h1 := prF_len (fun s h => (nm2_k s h).2.1) w
  have h2 : 2 ^ dpt f ≤ 2 ^ 2 := Nat.pow_le_pow_right (by decide) hz.2
  have h3 := pdp_dpt f
  have h4 := hz.1
  have h5 := hz.2
  have h6 : ((cnt tpK f : Nat) : Int) ≤ 2 := hb.1
  have h7 : cnt dblK f ≤ Dd 2 := hb.2
  have h8 : Dd 2 ≤ 6 := by decide
  exact ⟨w, by omega, by omega, by omega, by omega, by omega, by omega⟩
end
section
open TL
theorem OdAt.kpL {H H' : Hp} {D o : Addr} {lns : List Str} (hD : H D = some (.lst (lns.map V.str))) (k : Kp D H H') : OdAt H o → OdAt H' o := fun ⟨as, h1, h2, h3⟩ => by
  refine ⟨as, k _ _ (fun z => ?_) h1, h2, fun i a ha => ?_⟩
  · rw [z, hD] at h1
    cases as with
    | nil => cases h2
    | cons a r =>
      cases lns with
      | nil => cases h1
      | cons b s => cases h1
  · obtain ⟨b, e, c, q1, q2, q3⟩ := h3 i a ha
    exact ⟨b, e, c, q1, k _ _ (ne_of q2 hD (by intro z; cases z)) q2, k _ _ (ne_of q3 hD (by intro z; cases z)) q3⟩
theorem cut_mid2 (xs : List V) (a b : Nat) : cutV xs (some (a : Int)) (some ((a + b : Nat) : Int)) = (xs.drop a).take b := by
  unfold cutV
  rw [HT.sIx_nat, HT.sIx_nat]
  rcases Nat.le_total a xs.length with h | h
  · rw [Nat.min_eq_left h]
    rcases Nat.le_total (a + b) xs.length with g | g
    · rw [Nat.min_eq_left g, Nat.add_sub_cancel_left]
    · rw [Nat.min_eq_right g, List.take_of_length_le (by rw [List.length_drop]; exact Nat.le_refl _), List.take_of_length_le (by rw [List.length_drop]; omega)]
  · rw [Nat.min_eq_right h, List.drop_length, List.drop_of_length_le h, List.take_nil, List.take_nil]
theorem ok_law {f : Addr} {fd : FuncData} (F : L2.Fun K "law" "law" s_law f fd) (T : Txt K mg w P) : FnOk P w K mg base CX0 120 f fd ["script"] (spLaw K) := by
  have C_law_draws : C8.Cal P w K mg base 1 "_law_draws" (spDraws K) [] := cal_draws T
  have C_law_take : C8.Cal P w K mg base 1 "_law_take" spTake [] := cal_take T
  have C_law_formula : C8.Cal P w K mg base 5 "_law_formula" (spForm K 3) [] := cal_form T 3
  have C_law_print : C8.Cal P w K mg base 21 "_law_print" (spLp K 20) [] := cal_lp T 20
  have C_law_change : C8.Cal P w K mg base 3 "_law_change" spCh8 [] := cal_ch T
  have C_law_outcome : C8.Cal P w K mg base 50 "_law_outcome" spOut8 [] := cal_out8 T
  have C_law_expected : C8.Cal P w K mg base 3 "_law_expected" (spEx8 K) [] := cal_ex T
  refine F.ok sc_law (fun vs H Q E h => ?_) (fun cdv A outer s H vs Q E hr h => ?_)
  · obtain ⟨a, ns, rfl, _⟩ := h
    rfl
  · obtain ⟨a, ns, rfl, hS, h63, q⟩ := h
    refine ⟨_, (pss_cons
      (ps_set (i := 1) sc_law.nd rfl (Or.inl rfl) (C8.pe_c C_law_draws hr (by decide) (by rfl) (pa_cons (pv 0) (pa_cons pe_int pa_nil))))
      (pss_cons
      (ps_set (i := 2) sc_law.nd rfl (Or.inl rfl) (pe_lst (pa_cons (pe_tup (pa_cons pe_str (pa_cons (pe_tup (pa_cons pe_str (pa_cons pe_int pa_nil))) pa_nil))) (pa_cons (pe_tup (pa_cons pe_str (pa_cons (pe_tup (pa_cons pe_str (pa_cons pe_int pa_nil))) pa_nil))) (pa_cons (pe_tup (pa_cons pe_str (pa_cons (pe_tup (pa_cons pe_str (pa_cons pe_int pa_nil))) pa_nil))) (pa_cons (pe_tup (pa_cons pe_str (pa_cons (pe_tup (pa_cons pe_str (pa_cons pe_int pa_nil))) pa_nil))) pa_nil))))))
      (pss_cons
      (ps_set (i := 2) sc_law.nd rfl (Or.inl rfl) (pe_op op_cat (pv 2) (pe_lst (pa_cons (pe_tup (pa_cons pe_str (pa_cons (pe_tup (pa_cons pe_str (pa_cons pe_int pa_nil))) pa_nil))) (pa_cons (pe_tup (pa_cons pe_str (pa_cons (pe_tup (pa_cons pe_str (pa_cons pe_str pa_nil))) pa_nil))) (pa_cons (pe_tup (pa_cons pe_str (pa_cons (pe_tup (pa_cons pe_str pa_nil)) pa_nil))) pa_nil))))))
      (pss_cons
      (ps_set (i := 3) sc_law.nd rfl (Or.inl rfl) (pe_lst (pa_cons pe_str (pa_cons pe_str pa_nil))))
      (pss_cons
      (ps_set (i := 4) sc_law.nd rfl (Or.inl rfl) (pe_slice (sl_listK (K := K) rfl) (pv 3) po_none (po_some (C8.pe_c C_law_take hr (by decide) (by rfl) (pa_cons (pv 1) (pa_cons pe_int pa_nil))))))
      (pss_cons
      (ps_set (i := 5) sc_law.nd rfl (Or.inl rfl) (pe_slice (sl_listK (K := K) rfl) (pv 3) (po_some (pe_callB (call_lenK (K := K) rfl) (by rfl) T.z_len PySem.boot_len (pa_cons (pv 4) pa_nil))) (po_some (pe_op op_add (pe_callB (call_lenK (K := K) rfl) (by rfl) T.z_len PySem.boot_len (pa_cons (pv 4) pa_nil)) (C8.pe_c C_law_take hr (by decide) (by rfl) (pa_cons (pv 1) (pa_cons pe_int pa_nil)))))))
      (pss_cons
      (ps_set (i := 6) sc_law.nd rfl (Or.inl rfl) (pe_lst (pa_cons (pe_join pe_str (pe_op op_cat (pe_lst (pa_cons pe_str pa_nil)) (pv 4))) (pa_cons (pe_join pe_str (pe_op op_cat (pe_lst (pa_cons pe_str pa_nil)) (pv 5))) (pa_cons (pe_op op_add_str pe_str (pe_callTy call_str_int (by rfl) T.z_str (by decide +kernel) (pa_cons (pe_op op_sub (C8.pe_c C_law_take hr (by decide) (by rfl) (pa_cons (pv 1) (pa_cons pe_int pa_nil))) pe_int) pa_nil))) pa_nil)))))
      (pss_cons
      (ps_for PassesOwn.never rfl (pi_range1 (by rfl) T.z_range (pa_cons (C8.pe_c C_law_take hr (by decide) (by rfl) (pa_cons (pv 1) (pa_cons pe_int pa_nil))) pa_nil)) (pg_name (i := 7) sc_law.nd rfl (.inl rfl)) (pss_one
      (ps_expr (pe_bm PySem.F.plainAttrs_list PySem.F.slot_list_append PySem.F.type_list_append mt_append (pv 6) (pa_cons (pe_op op_add_str pe_str (C8.pe_c C_law_print hr (by decide) (by rfl) (pa_cons (C8.pe_c C_law_formula hr (by decide) (by rfl) (pa_cons (pv 1) (pa_cons (pe_op op_cat (pv 4) (pv 5)) (pa_cons pe_int (pa_cons pe_int pa_nil))))) pa_nil))) pa_nil)))))
      (pss_cons
      (ps_for PassesOwn.never rfl (pi_range1 (by rfl) T.z_range (pa_cons (C8.pe_c C_law_take hr (by decide) (by rfl) (pa_cons (pv 1) (pa_cons pe_int pa_nil))) pa_nil)) (pg_name (i := 7) sc_law.nd rfl (.inl rfl)) (pss_one
      (ps_expr (pe_bm PySem.F.plainAttrs_list PySem.F.slot_list_append PySem.F.type_list_append mt_append (pv 6) (pa_cons (pe_op op_add_str pe_str (C8.pe_c C_law_print hr (by decide) (by rfl) (pa_cons (C8.pe_c C_law_formula hr (by decide) (by rfl) (pa_cons (pv 1) (pa_cons (pe_op op_cat (pv 4) (pv 5)) (pa_cons pe_int (pa_cons pe_int pa_nil))))) pa_nil))) pa_nil)))))
      (C8.pss_cut
      (ps_if (pt_cmpR op_eq (C8.pe_c C_law_take hr (by decide) (by rfl) (pa_cons (pv 1) (pa_cons pe_int pa_nil))) pe_int (nomark _)) (pss_one
      (ps_expr (pe_bm PySem.F.plainAttrs_list PySem.F.slot_list_append PySem.F.type_list_append mt_append (pv 6) (pa_cons pe_str pa_nil)))) pss_nil)
      (pss_cons
      (ps_for PassesOwn.never rfl (pi_range1 (by rfl) T.z_range (pa_cons (C8.pe_c C_law_take hr (by decide) (by rfl) (pa_cons (pv 1) (pa_cons pe_int pa_nil))) pa_nil)) (pg_name (i := 7) sc_law.nd rfl (.inl rfl)) (pss_one
      (ps_set (i := 6) sc_law.nd rfl (Or.inl rfl) (C8.pe_c C_law_change hr (by decide) (by rfl) (pa_cons (pv 1) (pa_cons (pv 6) (pa_cons (pv 2) pa_nil)))))))
      (pss_cons
      (ps_set (i := 8) sc_law.nd rfl (Or.inl rfl) (pe_join pe_str (pe_lc (own := [("line", 10)]) (g := gName 10) (tt := tYes) rfl sc_law.nd (pi_list (pv 6)) (blkOk_by (N := N_law) (sc := defScope s_law) (by decide +kernel)) (fun _ _ _ _ _ => (pg_name (i := 10) sc_law.nd rfl (Or.inl rfl))) (fun _ _ _ _ _ => pts_nil) (fun _ _ _ _ _ => (pe_op op_add_str (pv 10) pe_str)))))
      (pss_cons
      (ps_set (i := 9) sc_law.nd rfl (Or.inl rfl) (C8.pe_c C_law_take hr (by decide) (by rfl) (pa_cons (pv 1) (pa_cons pe_int pa_nil))))
      (C8.pss_cut
      (ps_if (pt_cmpR op_eq (pv 9) pe_int (nomark _)) (pss_one
      (ps_set (i := 8) sc_law.nd rfl (Or.inl rfl) (pe_slice sl_str (pv 8) po_none (po_some (pe_op op_sub (pe_callB call_len_str (by rfl) T.z_len PySem.boot_len (pa_cons (pv 8) pa_nil)) pe_int))))) pss_nil)
      (C8.pss_cut
      (ps_if (pt_cmpR op_eq (pv 9) pe_int (nomark _)) (pss_one
      (ps_set (i := 8) sc_law.nd rfl (Or.inl rfl) (pe_op op_add_str (pv 8) (pe_ix (ix_listK (K := K) rfl) (pe_lst (pa_cons pe_str (pa_cons pe_str (pa_cons pe_str pa_nil)))) (C8.pe_c C_law_take hr (by decide) (by rfl) (pa_cons (pv 1) (pa_cons pe_int pa_nil))) (fun _ _ => rfl))))) pss_nil)
      (pss_one
      (ps_ret (pe_cmpR (Sup.op_eqB (K := K) rfl (Sup.un200 hr)) (C8.pe_c C_law_outcome hr (by decide) (by rfl) (pa_cons (pv 8) pa_nil)) (C8.pe_c C_law_expected hr (by decide) (by rfl) (pa_cons (pv 8) (pa_cons (pv 2) pa_nil))) (nomark _))))))))))))))))))), ?_⟩
    refine ⟨_, rfl, a, ns, 150, rfl, hS, by decide, fun H1 d s1 hd0 hd1 => ?_⟩
    clear s1 hd0
    -- the odd bodies
    refine ⟨by show 2 ≤ sizeLine; decide, fun c1 nc1 => ?_⟩
    generalize hX : upd H1 c1 _ = W1; obtain ⟨sW1, ec1⟩ := nw nc1 hX; clear hX
    refine ⟨by show 2 ≤ sizeLine; decide, fun a1 na1 => ?_⟩
    generalize hX : upd W1 a1 _ = W2; obtain ⟨sW2, ea1⟩ := nw na1 hX; clear hX
    refine ⟨by show 2 ≤ sizeLine; decide, fun c2 nc2 => ?_⟩
    generalize hX : upd W2 c2 _ = W3; obtain ⟨sW3, ec2⟩ := nw nc2 hX; clear hX
    refine ⟨by show 2 ≤ sizeLine; decide, fun a2 na2 => ?_⟩
    generalize hX : upd W3 a2 _ = W4; obtain ⟨sW4, ea2⟩ := nw na2 hX; clear hX
    refine ⟨by show 2 ≤ sizeLine; decide, fun c3 nc3 => ?_⟩
    generalize hX : upd W4 c3 _ = W5; obtain ⟨sW5, ec3⟩ := nw nc3 hX; clear hX
    refine ⟨by show 2 ≤ sizeLine; decide, fun a3 na3 => ?_⟩
    generalize hX : upd W5 a3 _ = W6; obtain ⟨sW6, ea3⟩ := nw na3 hX; clear hX
    refine ⟨by show 2 ≤ sizeLine; decide, fun c4 nc4 => ?_⟩
    generalize hX : upd W6 c4 _ = W7; obtain ⟨sW7, ec4⟩ := nw nc4 hX; clear hX
    refine ⟨by show 2 ≤ sizeLine; decide, fun a4 na4 => ?_⟩
    generalize hX : upd W7 a4 _ = W8; obtain ⟨sW8, ea4⟩ := nw na4 hX; clear hX
    refine ⟨by show 4 ≤ sizeLine; decide, fun p1 np1 => ?_⟩
    generalize hX : upd W8 p1 _ = W9; obtain ⟨sW9, ep1⟩ := nw np1 hX; clear hX
    refine ⟨_, rfl, ?_⟩
    refine ⟨by show 2 ≤ sizeLine; decide, fun c5 nc5 => ?_⟩
    generalize hX : upd W9 c5 _ = W10; obtain ⟨sW10, ec5⟩ := nw nc5 hX; clear hX
    refine ⟨by show 2 ≤ sizeLine; decide, fun a5 na5 => ?_⟩
    generalize hX : upd W10 a5 _ = W11; obtain ⟨sW11, ea5⟩ := nw na5 hX; clear hX
    refine ⟨by show 2 ≤ sizeLine; decide, fun c6 nc6 => ?_⟩
    generalize hX : upd W11 c6 _ = W12; obtain ⟨sW12, ec6⟩ := nw nc6 hX; clear hX
    refine ⟨by show 2 ≤ sizeLine; decide, fun a6 na6 => ?_⟩
    generalize hX : upd W12 a6 _ = W13; obtain ⟨sW13, ea6⟩ := nw na6 hX; clear hX
    refine ⟨by show 1 ≤ sizeLine; decide, fun c7 nc7 => ?_⟩
    generalize hX : upd W13 c7 _ = W14; obtain ⟨sW14, ec7⟩ := nw nc7 hX; clear hX
    refine ⟨by show 2 ≤ sizeLine; decide, fun a7 na7 => ?_⟩
    generalize hX : upd W14 a7 _ = W15; obtain ⟨sW15, ea7⟩ := nw na7 hX; clear hX
    refine ⟨by show 3 ≤ sizeLine; decide, fun p2 np2 => ?_⟩
    generalize hX : upd W15 p2 _ = W16; obtain ⟨sW16, ep2⟩ := nw np2 hX; clear hX
    refine ⟨p1, p2, _, _, rfl, rfl, (sW16 _ _ (sW15 _ _ (sW14 _ _ (sW13 _ _ (sW12 _ _ (sW11 _ _ (sW10 _ _ ep1))))))), ep2, by show 7 ≤ sizeLine; decide, fun o no => ?_⟩
    generalize hX : upd W16 o _ = W17; obtain ⟨sW17, eo⟩ := nw no hX; clear hX
    have od : OdAt W17 o := by
      refine ⟨[a1, a2, a3, a4, a5, a6, a7], eo, rfl, fun i a ha => ?_⟩
      rcases i with _ | _ | _ | _ | _ | _ | _ | i
      · cases ha; exact ⟨_, _, c1, rfl, (sW17 _ _ (sW16 _ _ (sW15 _ _ (sW14 _ _ (sW13 _ _ (sW12 _ _ (sW11 _ _ (sW10 _ _ (sW9 _ _ (sW8 _ _ (sW7 _ _ (sW6 _ _ (sW5 _ _ (sW4 _ _ (sW3 _ _ ea1))))))))))))))), (sW17 _ _ (sW16 _ _ (sW15 _ _ (sW14 _ _ (sW13 _ _ (sW12 _ _ (sW11 _ _ (sW10 _ _ (sW9 _ _ (sW8 _ _ (sW7 _ _ (sW6 _ _ (sW5 _ _ (sW4 _ _ (sW3 _ _ (sW2 _ _ ec1))))))))))))))))⟩
      · cases ha; exact ⟨_, _, c2, rfl, (sW17 _ _ (sW16 _ _ (sW15 _ _ (sW14 _ _ (sW13 _ _ (sW12 _ _ (sW11 _ _ (sW10 _ _ (sW9 _ _ (sW8 _ _ (sW7 _ _ (sW6 _ _ (sW5 _ _ ea2))))))))))))), (sW17 _ _ (sW16 _ _ (sW15 _ _ (sW14 _ _ (sW13 _ _ (sW12 _ _ (sW11 _ _ (sW10 _ _ (sW9 _ _ (sW8 _ _ (sW7 _ _ (sW6 _ _ (sW5 _ _ (sW4 _ _ ec2))))))))))))))⟩
      · cases ha; exact ⟨_, _, c3, rfl, (sW17 _ _ (sW16 _ _ (sW15 _ _ (sW14 _ _ (sW13 _ _ (sW12 _ _ (sW11 _ _ (sW10 _ _ (sW9 _ _ (sW8 _ _ (sW7 _ _ ea3))))))))))), (sW17 _ _ (sW16 _ _ (sW15 _ _ (sW14 _ _ (sW13 _ _ (sW12 _ _ (sW11 _ _ (sW10 _ _ (sW9 _ _ (sW8 _ _ (sW7 _ _ (sW6 _ _ ec3))))))))))))⟩
      · cases ha; exact ⟨_, _, c4, rfl, (sW17 _ _ (sW16 _ _ (sW15 _ _ (sW14 _ _ (sW13 _ _ (sW12 _ _ (sW11 _ _ (sW10 _ _ (sW9 _ _ ea4))))))))), (sW17 _ _ (sW16 _ _ (sW15 _ _ (sW14 _ _ (sW13 _ _ (sW12 _ _ (sW11 _ _ (sW10 _ _ (sW9 _ _ (sW8 _ _ ec4))))))))))⟩
      · cases ha; exact ⟨_, _, c5, rfl, (sW17 _ _ (sW16 _ _ (sW15 _ _ (sW14 _ _ (sW13 _ _ (sW12 _ _ ea5)))))), (sW17 _ _ (sW16 _ _ (sW15 _ _ (sW14 _ _ (sW13 _ _ (sW12 _ _ (sW11 _ _ ec5)))))))⟩
      · cases ha; exact ⟨_, _, c6, rfl, (sW17 _ _ (sW16 _ _ (sW15 _ _ (sW14 _ _ ea6)))), (sW17 _ _ (sW16 _ _ (sW15 _ _ (sW14 _ _ (sW13 _ _ ec6)))))⟩
      · cases ha; exact ⟨_, _, c7, rfl, (sW17 _ _ (sW16 _ _ ea7)), (sW17 _ _ (sW16 _ _ (sW15 _ _ ec7)))⟩
      · cases ha
    have d11 : Drw W17 d := (((((((((((((((((hd1.same sW1).same sW2).same sW3).same sW4).same sW5).same sW6).same sW7).same sW8).same sW9).same sW10).same sW11).same sW12).same sW13).same sW14).same sW15).same sW16).same sW17)
    clear sW1 sW2 sW3 sW4 sW5 sW6 sW7 sW8 sW9 sW10 sW11 sW12 sW13 sW14 sW15 sW16 sW17 hd1 eo
    -- the names
    refine ⟨sz2, fun n nn => ?_⟩
    generalize hX : upd W17 n _ = H12; obtain ⟨sH12, en⟩ := nw nn hX; clear hX
    have en : H12 n = some (.lst (nm2.map V.str)) := en
    have d12 := d11.same sH12
    have od12 := od.same sH12
    have nnd : n ≠ d := fun e => by
      obtain ⟨ys, hy⟩ := d11
      rw [e, hy] at nn
      cases nn
    clear d11 od sH12
    refine ⟨_, rfl, _, rfl, d, 3, rfl, d12, by decide, fun r ds r0 r1 => ?_⟩
    have k13 : Kp d H12 (upd H12 d (.lst (ds.map V.int))) := Kp.own
    have d13 : Drw (upd H12 d (.lst (ds.map V.int))) d := Drw.own
    have hn13 := k13 _ _ nnd en
    have od13 := od12.kp d12 k13
    generalize upd H12 d (.lst (ds.map V.int)) = H13 at k13 d13 hn13 od13 ⊢
    clear k13 d12 od12 en
    obtain ⟨j, rfl⟩ : ∃ j : Nat, r = (j : Int) := ⟨r.toNat, by omega⟩
    refine ⟨_, rfl, n, _, rfl, .of hn13, fun i hi => ?_⟩
    rw [cut_take, ← List.map_take]
    have s14 := same_new (o := .lst ((nm2.take j).map V.str)) hi
    have e14 := upd_same (H := H13) (a := i) (o := .lst ((nm2.take j).map V.str))
    have d14 := d13.same s14
    have nid : i ≠ d := fun e => by
      obtain ⟨ys, hy⟩ := d13
      rw [e, hy] at hi
      cases hi
    have hn14 := s14 _ _ hn13
    have od14 := od13.same s14
    generalize upd H13 i (.lst ((nm2.take j).map V.str)) = H14 at s14 e14 d14 hn14 od14 ⊢
    clear s14 d13 hn13 od13
    have ljm : ((nm2.take j).map V.str).length = (nm2.take j).length := List.length_map _
    refine ⟨_, rfl, _, rfl, i, _, rfl, .inl (.of e14), _, rfl, _, rfl, i, _, rfl, .inl (.of e14), _, rfl, d, 3, rfl, d14, by decide, fun r2 ds2 r20 r21 => ?_⟩
    have k15 : Kp d H14 (upd H14 d (.lst (ds2.map V.int))) := Kp.own
    have d15 : Drw (upd H14 d (.lst (ds2.map V.int))) d := Drw.own
    have hn15 := k15 _ _ nnd hn14
    have e15 := k15 _ _ nid e14
    have od15 := od14.kp d14 k15
    generalize upd H14 d (.lst (ds2.map V.int)) = H15 at k15 d15 hn15 e15 od15 ⊢
    clear k15 d14 hn14 e14 od14
    obtain ⟨k, rfl⟩ : ∃ k : Nat, r2 = (k : Int) := ⟨r2.toNat, by omega⟩
    refine ⟨_, _, rfl, rfl, _, rfl, n, _, rfl, .of hn15, fun u hu => ?_⟩
    rw [ljm, show (((nm2.take j).length : Nat) : Int) + (k : Int) = (((nm2.take j).length + k : Nat) : Int) by omega]
    have ecm : cutV (nm2.map V.str) (some (((nm2.take j).length : Nat) : Int)) (some (((nm2.take j).length + k : Nat) : Int)) = ((nm2.drop (nm2.take j).length).take k).map V.str := by
      rw [cut_mid2, ← List.map_drop, ← List.map_take]
    rw [ecm]
    have s16 := same_new (o := .lst (((nm2.drop (nm2.take j).length).take k).map V.str)) hu
    have e16u := upd_same (H := H15) (a := u) (o := .lst (((nm2.drop (nm2.take j).length).take k).map V.str))
    have d16 := d15.same s16
    have nud : u ≠ d := fun e => by
      obtain ⟨ys, hy⟩ := d15
      rw [e, hy] at hu
      cases hu
    have e16 := s16 _ _ e15
    have od16 := od15.same s16
    generalize upd H15 u (.lst (((nm2.drop (nm2.take j).length).take k).map V.str)) = H16 at s16 e16 e16u d16 od16 ⊢
    clear s16 d15 hn15 e15 od15
    have hj : j ∈ ([0, 1, 2] : List Nat) := by simp; omega
    have hk : k ∈ ([0, 1, 2] : List Nat) := by simp; omega
    obtain ⟨l0, l1⟩ := hd_lits.1 j hj
    obtain ⟨l1, l2⟩ := l1 k hk
    have li : (nm2.take j).length ≤ 2 := by rw [List.length_take]; have : nm2.length = 2 := rfl; omega
    have lo : ((nm2.drop (nm2.take j).length).take k).length ≤ 2 := by rw [List.length_take]; omega
    generalize nm2.take j = ins at e16 l0 l1 l2 e16u li lo ⊢
    generalize (nm2.drop ins.length).take k = outs at e16u l1 l2 lo ⊢
    have l4 : ∀ s ∈ ins ++ outs, s.length ≤ 4 := fun s hs => (nm2_k s (l2 s hs)).2.1
    have w7 : wI.length ≤ 7 ∧ wO.length ≤ 7 ∧ sB.length = 1 := by decide +kernel
    have jsz : ∀ (w : Str) (xs : List Str), w.length ≤ 7 → xs.length ≤ 2 → (∀ s ∈ xs, s.length ≤ 4) → (([w] ++ xs).map (·.length)).sum + ([w] ++ xs).length * sB.length ≤ 16777216 := fun w xs hw hx h4 => by
      have := slens (k := 7) (ps := [w] ++ xs) fun p hp => by
        rcases List.mem_append.mp hp with hp | hp
        · rw [List.mem_singleton.mp hp]; exact hw
        · have := h4 p hp; omega
      have hll : ([w] ++ xs).length = xs.length + 1 := by rw [List.length_append, List.length_singleton]; omega
      rw [hll] at this
      rw [w7.2.2, hll]
      omega
    -- the first three lines
    refine ⟨⟨_, rfl⟩, sz1, fun q1 nq1 => ?_⟩
    generalize hX : upd H16 q1 _ = H17; obtain ⟨sH17, eq1⟩ := nw nq1 hX; clear hX
    refine ⟨_, rfl, q1, i, _, _, rfl, rfl, eq1, sH17 _ _ e16, by rw [List.length_map]; exact Nat.le_trans (show 1 + ins.length ≤ 10 by omega) (by decide), fun q2 nq2 => ?_⟩
    generalize hX : upd H17 q2 _ = H18; obtain ⟨sH18, eq2⟩ := nw nq2 hX; clear hX
    refine ⟨_, q2, [wI] ++ ins, rfl, rfl, .inl (.of eq2), jsz wI ins w7.1 li fun s hs => l4 s (List.mem_append_left _ hs), ?_⟩
    have s18 := sH17.trans sH18
    refine ⟨⟨_, rfl⟩, sz1, fun q3 nq3 => ?_⟩
    generalize hX : upd H18 q3 _ = H19; obtain ⟨sH19, eq3⟩ := nw nq3 hX; clear hX
    refine ⟨_, rfl, q3, u, _, _, rfl, rfl, eq3, sH19 _ _ (s18 _ _ e16u), by rw [List.length_map]; exact Nat.le_trans (show 1 + outs.length ≤ 10 by omega) (by decide), fun q4 nq4 => ?_⟩
    generalize hX : upd H19 q4 _ = H20; obtain ⟨sH20, eq4⟩ := nw nq4 hX; clear hX
    refine ⟨_, q4, [wO] ++ outs, rfl, rfl, .inl (.of eq4), jsz wO outs w7.2.1 lo fun s hs => l4 s (List.mem_append_right _ hs), ?_⟩
    have s20 := s18.trans (sH19.trans sH20)
    have d20 := d16.same s20
    have od20 := od16.same s20
    have e20 := s20 _ _ e16
    have e20u := s20 _ _ e16u
    refine ⟨_, rfl, d, 6, rfl, d20, by decide, fun r3 ds3 r30 r31 => ?_⟩
    have k21 : Kp d H20 (upd H20 d (.lst (ds3.map V.int))) := Kp.own
    have d21 : Drw (upd H20 d (.lst (ds3.map V.int))) d := Drw.own
    have e21 := k21 _ _ nid e20
    have e21u := k21 _ _ nud e20u
    have od21 := od20.kp d20 k21
    generalize upd H20 d (.lst (ds3.map V.int)) = H21 at k21 d21 e21 e21u od21 ⊢
    clear k21 d20 e20 e20u od20 s20 s18 eq1 eq2 eq3 eq4 d16 od16 e16 e16u sH17 sH18 sH19 sH20
    have hL : r3 - 3 ∈ ([-3, -2, -1, 0, 1, 2] : List Int) := by simp; omega
    have hLs := hd_lits.2 _ hL
    have hLl : ∀ L ∈ ([-3, -2, -1, 0, 1, 2] : List Int), L.natAbs.log2 < 1920 ∧ (ts L).length ≤ 3 := by decide +kernel
    obtain ⟨hL1, hL2⟩ := hLl _ hL
    have hld : (Str.ofString "lead ").length = 5 := by decide +kernel
    refine ⟨_, _, rfl, rfl, _, rfl, hL1, _, _, rfl, rfl, Nat.le_trans (show (Str.ofString "lead ").length + (ts (r3 - 3)).length ≤ 10 by omega) (by decide), by show 3 ≤ sizeLine; decide, fun D nD => ?_⟩
    generalize hX : upd H21 D _ = H22; obtain ⟨sH22, eD⟩ := nw nD hX; clear hX
    have niD : i ≠ D := fun z => by rw [← z, e21] at nD; cases nD
    have nuD : u ≠ D := fun z => by rw [← z, e21u] at nD; cases nD
    have nDd : D ≠ d := fun e => by
      obtain ⟨ys, hy⟩ := d21
      rw [e, hy] at nD
      cases nD
    have d22 := d21.same sH22
    have e22 := sH22 _ _ e21
    have e22u := sH22 _ _ e21u
    have od22 := od21.same sH22
    obtain ⟨L0, hL0, hcL0, hlL0⟩ : ∃ L0 : List Str, H22 D = some (.lst (L0.map V.str)) ∧ (∀ l ∈ L0, LnC l) ∧ L0.length ≤ 3 := by
      refine ⟨[Txt.join sB ([wI] ++ ins), Txt.join sB ([wO] ++ outs), Str.ofString "lead " ++ ts (r3 - 3)], eD, fun l hl => .inl ?_, Nat.le_refl _⟩
      simp only [List.mem_cons, List.not_mem_nil, or_false] at hl
      rcases hl with h | h | h
      · rw [h]; exact l0
      · rw [h]; exact l1
      · rw [h]; exact hLs
    clear sH22 d21 e21 e21u od21 eD
    -- the assumptions
    refine ⟨_, rfl, d, 4, rfl, d22, by decide, fun m ms m0 m1 => ?_⟩
    have k23 : Kp d H22 (upd H22 d (.lst (ms.map V.int))) := Kp.own
    have d23 : Drw (upd H22 d (.lst (ms.map V.int))) d := Drw.own
    have e23 := k23 _ _ nid e22
    have e23u := k23 _ _ nud e22u
    have hL3 := k23 _ _ nDd hL0
    have od23 := od22.kp d22 k23
    generalize upd H22 d (.lst (ms.map V.int)) = H23 at k23 d23 e23 e23u hL3 od23 ⊢
    clear k23 d22 e22 e22u hL0 od22
    refine ⟨_, rfl, by omega, by omega, for_range (lo := 0) (n := m.toNat) (fun t σ H' => ∃ (lns : List Str) (v7 : Option V), σ = [some (.ref a), some (.ref d), some (.ref o), some (.ref n), some (.ref i), some (.ref u), some (.ref D), v7, none, none, none] ∧ Drw H' d ∧ H' i = some (.lst (ins.map V.str)) ∧ H' u = some (.lst (outs.map V.str)) ∧ H' D = some (.lst (lns.map V.str)) ∧ OdAt H' o ∧ (∀ l ∈ lns, LnC l) ∧ lns.length ≤ 3 + t) ⟨L0, none, rfl, d23, e23, e23u, hL3, od23, hcL0, by omega⟩ ?_ ?_⟩
    · rintro t σ H24 ht ⟨lns, v7, rfl, d24, e24, e24u, eD, od24, hc24, hl24⟩
      refine ⟨_, rfl, .inl ⟨rfl, _, .of eD⟩, _, rfl, _, rfl, _, rfl, i, u, _, _, rfl, rfl, e24, e24u, by rw [List.length_map, List.length_map]; exact Nat.le_trans (show ins.length + outs.length ≤ 6 by omega) (by decide), fun c nc => ?_⟩
      generalize hX : upd H24 c _ = H25; obtain ⟨sH25, ec⟩ := nw nc hX; clear hX
      rw [← List.map_append] at ec
      have ncd : c ≠ d := fun e => by
        obtain ⟨ys, hy⟩ := d24
        rw [e, hy] at nc
        cases nc
      have d25 := d24.same sH25
      refine ⟨d, c, ins ++ outs, 2, rfl, d25, ncd, ec, by rw [List.length_append]; omega, by decide, by decide, fun H26 v f k26 d26 hv hw hz hb => ?_⟩
      have fo := fok_of l2 hw hz hb
      have okf := wo_ok (fun s hs => (nm2_k s hs).1) fo.wo
      have f1 := fo.dp
      have f2 := fo.ln
      refine ⟨v, f, rfl, hv, okf, Nat.le_trans f1 (by decide), by omega, fun H27 s27 => ?_⟩
      have e27 := s27 _ _ (k26 _ _ nid (sH25 _ _ e24))
      have e27u := s27 _ _ (k26 _ _ nud (sH25 _ _ e24u))
      have eD27 := s27 _ _ (k26 _ _ nDd (sH25 _ _ eD))
      have d27 := d26.same s27
      have od27 := ((od24.same sH25).kp d25 k26).same s27
      have hwl : (Str.ofString "assume ").length ≤ 10 := by decide +kernel
      refine ⟨_, _, rfl, rfl, Nat.le_trans (show (Str.ofString "assume ").length + (prF f).length ≤ 200 by omega) (by decide), D, _, _, rfl, rfl, eD27, by rw [List.length_map]; exact Nat.lt_of_le_of_lt (show lns.length ≤ 100 by omega) (by decide), ?_⟩
      have k28 : Kp D H27 (upd H27 D (.lst (lns.map V.str ++ [V.str (Str.ofString "assume " ++ prF f)]))) := Kp.own
      refine ⟨lns ++ [wA ++ prF f], _, rfl, ?_, k28 _ _ niD e27, k28 _ _ nuD e27u, by rw [upd_same, List.map_append]; rfl, od27.kpL eD27 k28, fun l hl => ?_, by rw [List.length_append, List.length_singleton]; omega⟩
      · obtain ⟨ys, hy⟩ := d27
        exact ⟨ys, k28 _ _ nDd.symm hy⟩
      · rcases List.mem_append.mp hl with hl | hl
        · exact hc24 l hl
        · rw [List.mem_singleton.mp hl]
          exact .inr ⟨_, .inr ⟨f, fo, .inl rfl⟩, .inl rfl⟩
    rintro σ H29 ⟨L1, v7, rfl, d29, e29, e29u, hL1D, od29, hcL1, hlL1⟩
    clear d23 e23 e23u hL3 od23
    -- the guarantees
    refine ⟨_, rfl, d, 4, rfl, d29, by decide, fun m2 ms2 m20 m21 => ?_⟩
    have k30 : Kp d H29 (upd H29 d (.lst (ms2.map V.int))) := Kp.own
    have d30 : Drw (upd H29 d (.lst (ms2.map V.int))) d := Drw.own
    have e30 := k30 _ _ nid e29
    have e30u := k30 _ _ nud e29u
    have hL2D := k30 _ _ nDd hL1D
    have od30 := od29.kp d29 k30
    generalize upd H29 d (.lst (ms2.map V.int)) = H30 at k30 d30 e30 e30u hL2D od30 ⊢
    clear k30 d29 e29 e29u hL1D od29
    refine ⟨_, rfl, by omega, by omega, for_range (lo := 0) (n := m2.toNat) (fun t σ H' => ∃ (lns : List Str) (v7 : Option V), σ = [some (.ref a), some (.ref d), some (.ref o), some (.ref n), some (.ref i), some (.ref u), some (.ref D), v7, none, none, none] ∧ Drw H' d ∧ H' i = some (.lst (ins.map V.str)) ∧ H' u = some (.lst (outs.map V.str)) ∧ H' D = some (.lst (lns.map V.str)) ∧ OdAt H' o ∧ (∀ l ∈ lns, LnC l) ∧ lns.length ≤ 6 + t) ⟨L1, _, rfl, d30, e30, e30u, hL2D, od30, hcL1, by omega⟩ ?_ ?_⟩
    · rintro t σ H24 ht ⟨lns, v7, rfl, d24, e24, e24u, eD, od24, hc24, hl24⟩
      refine ⟨_, rfl, .inl ⟨rfl, _, .of eD⟩, _, rfl, _, rfl, _, rfl, i, u, _, _, rfl, rfl, e24, e24u, by rw [List.length_map, List.length_map]; exact Nat.le_trans (show ins.length + outs.length ≤ 6 by omega) (by decide), fun c nc => ?_⟩
      generalize hX : upd H24 c _ = H25; obtain ⟨sH25, ec⟩ := nw nc hX; clear hX
      rw [← List.map_append] at ec
      have ncd : c ≠ d := fun e => by
        obtain ⟨ys, hy⟩ := d24
        rw [e, hy] at nc
        cases nc
      have d25 := d24.same sH25
      refine ⟨d, c, ins ++ outs, 2, rfl, d25, ncd, ec, by rw [List.length_append]; omega, by decide, by decide, fun H26 v f k26 d26 hv hw hz hb => ?_⟩
      have fo := fok_of l2 hw hz hb
      have okf := wo_ok (fun s hs => (nm2_k s hs).1) fo.wo
      have f1 := fo.dp
      have f2 := fo.ln
      refine ⟨v, f, rfl, hv, okf, Nat.le_trans f1 (by decide), by omega, fun H27 s27 => ?_⟩
      have e27 := s27 _ _ (k26 _ _ nid (sH25 _ _ e24))
      have e27u := s27 _ _ (k26 _ _ nud (sH25 _ _ e24u))
      have eD27 := s27 _ _ (k26 _ _ nDd (sH25 _ _ eD))
      have d27 := d26.same s27
      have od27 := ((od24.same sH25).kp d25 k26).same s27
      have hwl : (Str.ofString "guarantee ").length ≤ 10 := by decide +kernel
      refine ⟨_, _, rfl, rfl, Nat.le_trans (show (Str.ofString "guarantee ").length + (prF f).length ≤ 200 by omega) (by decide), D, _, _, rfl, rfl, eD27, by rw [List.length_map]; exact Nat.lt_of_le_of_lt (show lns.length ≤ 100 by omega) (by decide), ?_⟩
      have k28 : Kp D H27 (upd H27 D (.lst (lns.map V.str ++ [V.str (Str.ofString "guarantee " ++ prF f)]))) := Kp.own
      refine ⟨lns ++ [wG ++ prF f], _, rfl, ?_, k28 _ _ niD e27, k28 _ _ nuD e27u, by rw [upd_same, List.map_append]; rfl, od27.kpL eD27 k28, fun l hl => ?_, by rw [List.length_append, List.length_singleton]; omega⟩
      · obtain ⟨ys, hy⟩ := d27
        exact ⟨ys, k28 _ _ nDd.symm hy⟩
      · rcases List.mem_append.mp hl with hl | hl
        · exact hc24 l hl
        · rw [List.mem_singleton.mp hl]
          exact .inr ⟨_, .inr ⟨f, fo, .inl rfl⟩, .inr rfl⟩
    rintro σ H31 ⟨L2, v7, rfl, d31, e31, e31u, hDD, od31, hcL2, hlL2⟩
    clear d30 e30 e30u hL2D od30
    -- negated
    refine ⟨fun σ H' => ∃ (lns : List Str), σ = [some (.ref a), some (.ref d), some (.ref o), some (.ref n), some (.ref i), some (.ref u), some (.ref D), v7, none, none, none] ∧ Drw H' d ∧ H' D = some (.lst (lns.map V.str)) ∧ OdAt H' o ∧ (∀ l ∈ lns, LnC l) ∧ lns.length ≤ 10, ?_, ?_⟩
    · refine ⟨_, rfl, d, 3, rfl, d31, by decide, fun g gs g0 g1 => ?_⟩
      have k32 : Kp d H31 (upd H31 d (.lst (gs.map V.int))) := Kp.own
      have d32 : Drw (upd H31 d (.lst (gs.map V.int))) d := Drw.own
      have hD32 := k32 _ _ nDd hDD
      have od32 := od31.kp d31 k32
      generalize upd H31 d (.lst (gs.map V.int)) = H32 at k32 d32 hD32 od32 ⊢
      refine ⟨rfl, _, rfl, ite2 (fun _ => ?_) (fun _ => ⟨L2, rfl, d32, hD32, od32, hcL2, by omega⟩)⟩
      refine ⟨_, rfl, .inl ⟨rfl, _, .of hD32⟩, D, _, _, rfl, rfl, hD32, by rw [List.length_map]; exact Nat.lt_of_le_of_lt (show L2.length ≤ 100 by omega) (by decide), ?_⟩
      have k33 : Kp D H32 (upd H32 D (.lst (L2.map V.str ++ [V.str wN]))) := Kp.own
      refine ⟨L2 ++ [wN], rfl, ?_, by rw [List.map_append]; exact upd_same, od32.kpL hD32 k33, fun l hl => ?_, by rw [List.length_append, List.length_singleton]; omega⟩
      · obtain ⟨ys, hy⟩ := d32
        exact ⟨ys, k33 _ _ nDd.symm hy⟩
      · rcases List.mem_append.mp hl with hl | hl
        · exact hcL2 l hl
        · rw [List.mem_singleton.mp hl]
          exact .inl (by decide +kernel)
    rintro σ H33 ⟨L3, rfl, d33, hD33, od33, hcL3, hlL3⟩
    clear d31 e31 e31u hDD od31
    -- the changes
    refine ⟨_, rfl, d, 3, rfl, d33, by decide, fun m3 ms3 m30 m31 => ?_⟩
    have k34 : Kp d H33 (upd H33 d (.lst (ms3.map V.int))) := Kp.own
    have d34 : Drw (upd H33 d (.lst (ms3.map V.int))) d := Drw.own
    have hD34 := k34 _ _ nDd hD33
    have od34 := od33.kp d33 k34
    generalize upd H33 d (.lst (ms3.map V.int)) = H34 at k34 d34 hD34 od34 ⊢
    clear k34 d33 hD33 od33
    refine ⟨_, rfl, by omega, by omega, for_range (lo := 0) (n := m3.toNat) (fun t σ H' => ∃ (lns : List Str) (D' : Addr) (v7 : Option V), σ = [some (.ref a), some (.ref d), some (.ref o), some (.ref n), some (.ref i), some (.ref u), some (.ref D'), v7, none, none, none] ∧ Drw H' d ∧ D' ≠ d ∧ H' D' = some (.lst (lns.map V.str)) ∧ OdAt H' o ∧ (∀ l ∈ lns, LnC l) ∧ lns.length ≤ 10 + 2 * t) ⟨L3, D, v7, rfl, d34, nDd, hD34, od34, hcL3, by omega⟩ ?_ ?_⟩
    · rintro t σ H24 ht ⟨lns, D', v7, rfl, d24, nd24, eD, od24, hc24, hl24⟩
      refine ⟨_, rfl, _, rfl, _, rfl, d, D', o, lns, rfl, d24, nd24, eD, by omega, hc24, od24, fun H25 D2 lns2 k25 d25 nd25 e25 hl25 hc25 => ?_⟩
      exact ⟨lns2, D2, _, rfl, d25, nd25, e25, od24.kp d24 k25, hc25, by omega⟩
    rintro σ H35 ⟨L4, D4, v7', rfl, d35, nD4, hD35, od35, hcL4, hlL4⟩
    have hL14 : L4.length ≤ 14 := by omega
    clear d34 hD34 od34 hlL4
    -- the text
    have hN : (Str.ofString "\n").length = 1 := by decide +kernel
    have hln : ∀ z ∈ L4, z.length ≤ 111 ∧ 10 ∉ tl z := fun z hz => ⟨(ln_f (hcL4 z hz)).1, (ln_f (hcL4 z hz)).2.1⟩
    have hcl : (cat L4).length ≤ 2000 := by
      have := cat_len fun z hz => (hln z hz).1
      have h2 : (111 + 1) * L4.length ≤ 112 * 14 := Nat.mul_le_mul_left _ hL14
      omega
    refine ⟨⟨_, rfl⟩, _, rfl, D4, rfl, ⟨_, .of hD35⟩, fun G hG => lc_list (K := K) (a := D4) (xs := L4.map V.str) (fun j H' => Same H35 H' ∧ H' G = some (.lst (((L4.take j).map (· ++ sN)).map V.str))) ⟨same_new hG, upd_same⟩ (fun j H' _ ⟨z, _⟩ => .of (z _ _ hD35)) ?_ ?_⟩
    · rintro j2 y H' hj2 ⟨s', e'⟩
      obtain ⟨z, hz, rfl⟩ := mapg hj2
      have et : L4.take (j2 + 1) = L4.take j2 ++ [z] := by rw [List.take_add_one, hz]; rfl
      have hzl := hln z (List.mem_of_getElem? hz)
      refine ⟨rfl, _, rfl, _, _, rfl, rfl, Nat.le_trans (show z.length + (Str.ofString "\n").length ≤ 200 by omega) (by decide), _, e', by rw [List.length_map, List.length_map, List.length_take]; exact Nat.lt_of_le_of_lt (show min j2 L4.length ≤ 100 by omega) (by decide), fun b u hb => by rw [upd_ne (ne_of_none hb hG)]; exact s' _ _ hb, ?_⟩
      rw [upd_same, et, List.map_append, List.map_append]
      rfl
    rintro H36 ⟨s36, e36⟩
    rw [List.length_map, List.take_length] at e36
    refine ⟨_, G, L4.map (· ++ sN), rfl, rfl, .inl (.of e36), ?_, ?_⟩
    · have := slens (k := 112) (ps := L4.map (· ++ sN)) fun p hp => by
        obtain ⟨z, hz, rfl⟩ := List.mem_map.mp hp
        have := (hln z hz).1
        show (z ++ sN).length ≤ _
        rw [slen]
        have : sN.length = 1 := hN
        omega
      have h0 : (Str.ofString "").length = 0 := by decide +kernel
      rw [List.length_map] at this
      have h2 : 112 * L4.length ≤ 112 * 14 := Nat.mul_le_mul_left _ hL14
      rw [h0]
      omega
    have d36 := d35.same s36
    have od36 := od35.same s36
    clear d35 od35 hD35 e36 s36
    refine ⟨_, rfl, d, 8, rfl, d36, by decide, fun e es e0 e1 => ?_⟩
    have k37 : Kp d H36 (upd H36 d (.lst (es.map V.int))) := Kp.own
    have d37 : Drw (upd H36 d (.lst (es.map V.int))) d := Drw.own
    have od37 := od36.kp d36 k37
    generalize upd H36 d (.lst (es.map V.int)) = H37 at k37 d37 od37 ⊢
    clear k37 d36 od36
    -- the end of the text
    let TP : Str → Prop := fun t => ∃ (ls : List Str) (rest : Str), t = cat ls ++ rest ∧ ls.length ≤ 14 ∧ (∀ l ∈ ls, LnC l) ∧ rest.length ≤ 200 ∧ 10 ∉ tl rest
    have tp0 : TP (cat L4) := ⟨L4, sE, ext_tl (by rw [tl_app, tl_sE, List.append_nil]), hL14, hcL4, by decide, by rw [tl_sE]; simp⟩
    refine ⟨fun σ H' => ∃ (t : Str), σ = [some (.ref a), some (.ref d), some (.ref o), some (.ref n), some (.ref i), some (.ref u), some (.ref D4), v7', some (.str t), some (.int e), none] ∧ H' = H37 ∧ TP t ∧ (e ≠ 0 → t = cat L4), ?_, ?_⟩
    · refine ⟨_, rfl, rfl, _, rfl, ite2 (fun z => ?_) (fun _ => ⟨_, rfl, rfl, tp0, fun _ => rfl⟩)⟩
      have z0 : e = 0 := V.int.inj (of_decide_eq_true z)
      have hz : (cat L4).length ≤ sizeLine := Nat.le_trans hcl (by decide)
      refine ⟨_, rfl, _, rfl, cat L4, rfl, hz, _, _, rfl, rfl, _, rfl, cat L4, rfl, hz, ?_⟩
      refine ⟨_, rfl, rfl, ?_, fun h => absurd z0 h⟩
      rcases List.eq_nil_or_concat L4 with h | ⟨ys, l, h⟩
      · refine ⟨[], sE, ext_tl ?_, by decide, fun l hl => by (cases hl), by decide, by rw [tl_sE]; simp⟩
        have h1 := cutS_length (cat L4) none (some (((cat L4).length : Int) - 1))
        have h2 : (cat L4).length = 0 := by rw [h]; decide +kernel
        have h3 : tl (cutS (cat L4) none (some (((cat L4).length : Int) - 1))) = [] := List.eq_nil_of_length_eq_zero (by rw [← len_tl]; omega)
        rw [h3]
        decide +kernel
      · have h4 : L4 = ys ++ [l] := by rw [h, List.concat_eq_append]
        have hl4 := hln l (by rw [h4]; simp)
        have ec : cat L4 = cat ys ++ (l ++ sN) := by rw [h4, cat_snoc]
        refine ⟨ys, l, ext_tl ?_, by rw [h4, List.length_append] at hL14; omega, fun l' hl' => hcL4 l' (by rw [h4]; exact List.mem_append_left _ hl'), by omega, hl4.2⟩
        have hlen : ((cat L4).length : Int) - 1 = (((cat ys ++ l).length : Nat) : Int) := by
          have : sN.length = 1 := hN
          rw [ec, slen, slen, slen, this]
          omega
        rw [hlen, tl_hi, ec, tl_app, tl_app, tl_app, len_tl, tl_app, ← List.append_assoc, List.take_left]
    rintro σ H' ⟨t, rfl, rfl, tp, ht⟩
    refine ⟨fun σ H2 => ∃ (t : Str), σ = [some (.ref a), some (.ref d), some (.ref o), some (.ref n), some (.ref i), some (.ref u), some (.ref D4), v7', some (.str t), some (.int e), none] ∧ OdAt H2 o ∧ TP t, ?_, ?_⟩
    · refine ⟨_, rfl, rfl, _, rfl, ite2 (fun z => ?_) (fun _ => ⟨_, rfl, od37, tp⟩)⟩
      have z1 : e = 1 := V.int.inj (of_decide_eq_true z)
      have ht := ht (by omega)
      have tx3 : ∀ x ∈ ([Str.ofString "negated", Str.ofString " ", Str.ofString "guarantee ("] : List Str), x.length ≤ 20 ∧ 10 ∉ tl x := by decide +kernel
      refine ⟨_, rfl, by show 3 ≤ sizeLine; decide, fun p9 np9 => ?_⟩
      generalize hX : upd H' p9 _ = H9; obtain ⟨sH9, ep9⟩ := nw np9 hX; clear hX
      have d9 := d37.same sH9
      have n9 : p9 ≠ d := fun e => by
        obtain ⟨ys, hy⟩ := d37
        rw [e, hy] at np9
        cases np9
      refine ⟨_, rfl, d, 3, rfl, d9, by decide, fun g gs g0 g1 => ?_⟩
      have k10 : Kp d H9 (upd H9 d (.lst (gs.map V.int))) := Kp.own
      have e10 := k10 _ _ n9 ep9
      have od10 := (od37.same sH9).kp d9 k10
      generalize upd H9 d (.lst (gs.map V.int)) = H10 at k10 e10 od10 ⊢
      obtain ⟨x, hx, ex⟩ := pick_at (ss := [Str.ofString "negated", Str.ofString " ", Str.ofString "guarantee ("]) g0 g1
      obtain ⟨x20, x10⟩ := tx3 x hx
      rw [ht]
      refine ⟨p9, _, _, .str x, rfl, rfl, .of e10, ex, _, _, rfl, rfl, Nat.le_trans (show (cat L4).length + x.length ≤ 3000 by omega) (by decide), ?_⟩
      exact ⟨_, rfl, od10, L4, x, rfl, hL14, hcL4, by omega, x10⟩
    rintro σ H2 ⟨t, rfl, od, ls, rest, ht2, hl2', hc2, hr2, hx2⟩
    have tx := txOk ht2 (by omega) hc2 hr2 hx2
    have hun : ∀ x, psE Rf ls rest = .err (.unk x) → x ∈ unkN := fun x hx => psE_unk hc2 hx
    obtain ⟨ly1, ly2⟩ := lay_out hun
    refine ⟨_, rfl, t, ls, rest, Rf, rfl, tx, fun H3 r1 s3 h1 => ?_⟩
    refine ⟨_, rfl, _, rfl, t, o, ls, rest, rfl, tx.sp, tx.tl, by omega, hc2, od.same s3, fun H4 r2 s4 h2 => ?_⟩
    refine ⟨_, _, dp_out (s4 _ _ h1), dp_out h2, ly1, ly1, ly2, ?_⟩
    rw [SeqAt.eqv_refl _ ly1]
    exact q H4
end
end

theorem all_mk {l : PySem.W.OpenLaw} {w : World} {K : PySem.W.Frag} {h : Heap} {mg : Str → Option Value} {fa : Addr} {f0 f1 f2 f3 f4 f5 f6 f7 f8 f9 f10 f11 f12 f13 f14 f15 f16 f17 f18 f19 f20 f21 f22 f23 f24 f25 f26 f27 f28 f29 f30 f31 f32 f33 f34 f35 aQ aN aF aP aG aA C fI fP fT fA fH fF fU fO aR aI aL bL0 bL1 bL2 bL3 bL4 cS CZS fZS kDZS cTX czd gzd czu gzu czf gzf czl gzl : Addr} (X : K.In h) (G : h.Ns mainGlobals mg) (hfa : mg "law" = some (.ref fa))
    {od0 an0 od1 an1 od2 an2 od3 an3 od4 an4 od5 an5 od6 an6 od7 an7 od8 an8 od9 an9 od10 an10 od11 an11 od12 an12 od13 an13 od14 an14 od15 an15 od16 an16 od17 an17 od18 an18 od19 an19 od20 an20 od21 an21 od22 an22 od23 an23 od24 an24 od25 an25 od26 an26 od27 an27 od28 an28 od29 an29 od30 an30 od31 an31 od32 an32 od33 an33 od34 an34 od35 an35 : Option Addr} {sl0 sl1 sl2 sl3 sl4 sl5 sl6 sl7 sl8 sl9 sl10 sl11 sl12 sl13 sl14 sl15 sl16 sl17 sl18 sl19 sl20 sl21 sl22 sl23 sl24 sl25 sl26 sl27 sl28 sl29 sl30 sl31 sl32 sl33 sl34 sl35 : Array (Option Value)} {oc0 kV0 dc0 pm0 cd0 ct0 oc1 kV1 dc1 pm1 cd1 ct1 oc2 kV2 dc2 pm2 cd2 ct2 oc3 kV3 dc3 pm3 cd3 ct3 oc4 kV4 dc4 pm4 cd4 ct4 oc5 kV5 dc5 pm5 cd5 ct5 oc6 kV6 dc6 pm6 cd6 ct6 oc7 kV7 dc7 pm7 cd7 ct7 oc8 kV8 dc8 pm8 cd8 ct8 oc9 kV9 dc9 pm9 cd9 ct9 oc10 kV10 dc10 pm10 cd10 ct10 oc11 kV11 dc11 pm11 cd11 ct11 oc12 kV12 dc12 pm12 cd12 ct12 oc13 kV13 dc13 pm13 cd13 ct13 oc14 kV14 dc14 pm14 cd14 ct14 oc15 kV15 dc15 pm15 cd15 ct15 oc16 kV16 dc16 pm16 cd16 ct16 oc17 kV17 dc17 pm17 cd17 ct17 oc18 kV18 dc18 pm18 cd18 ct18 oc19 kV19 dc19 pm19 cd19 ct19 oc20 kV20 dc20 pm20 cd20 ct20 oc21 kV21 dc21 pm21 cd21 ct21 oc22 kV22 dc22 pm22 cd22 ct22 oc23 kV23 dc23 pm23 cd23 ct23 oc24 kV24 dc24 pm24 cd24 ct24 oc25 kV25 dc25 pm25 cd25 ct25 oc26 kV26 dc26 pm26 cd26 ct26 oc27 kV27 dc27 pm27 cd27 ct27 oc28 kV28 dc28 pm28 cd28 ct28 oc29 kV29 dc29 pm29 cd29 ct29 oc30 kV30 dc30 pm30 cd30 ct30 oc31 kV31 dc31 pm31 cd31 ct31 oc32 kV32 dc32 pm32 cd32 ct32 oc33 kV33 dc33 pm33 cd33 ct33 oc34 kV34 dc34 pm34 cd34 ct34 oc35 kV35 dc35 pm35 cd35 ct35 : Value} {dQ dN dF dP dG dA : Option Addr} {slQ slN slF slP slG slA : Array (Option Value)} {nQ nN nF nP nG nA : Nat} {tQ0 tQ1 tN0 tN1 tF0 tF1 tF2 tF3 tF4 tF5 tP0 tP1 tP2 tP3 tP4 tP5 tG0 tG1 tG2 tG3 tG4 tG5 tG6 tG7 tG8 tG9 tG10 tG11 tG12 tG13 tG14 tG15 tG16 tG17 tG18 tG19 tG20 tA0 tA1 : Tok} {tk1 tk2 tm1 tm2 tm3 tm4 tm5 tm6 : Tok} {odI anI : Option Addr} {slmI : Array (Option Value)} {ocI kVI dcI pmI cdI ctI : Value} {odP anP : Option Addr} {slmP : Array (Option Value)} {ocP kVP dcP pmP cdP ctP : Value} {odT anT : Option Addr} {slmT : Array (Option Value)} {ocT kVT dcT pmT cdT ctT : Value} {odA anA : Option Addr} {slmA : Array (Option Value)} {ocA kVA dcA pmA cdA ctA : Value} {odH anH : Option Addr} {slmH : Array (Option Value)} {ocH kVH dcH pmH cdH ctH : Value} {odF anF : Option Addr} {slmF : Array (Option Value)} {ocF kVF dcF pmF cdF ctF : Value} {odU anU : Option Addr} {slmU : Array (Option Value)} {ocU kVU dcU pmU cdU ctU : Value} {odO anO : Option Addr} {slmO : Array (Option Value)} {ocO kVO dcO pmO cdO ctO : Value} {krh0 krh1 krh2 krh3 krh4 krh5 krh6 krh7 : Int} {krk0 krv0 krk1 krv1 krk2 krv2 krk3 krv3 krk4 krv4 krk5 krv5 krk6 krv6 krk7 krv7 : Tok} {krn : Nat} {kih0 kih1 kih2 kih3 kih4 kih5 kih6 kih7 kih8 : Int} {kik0 kiv0 kik1 kiv1 kik2 kiv2 kik3 kiv3 kik4 kiv4 kik5 kiv5 kik6 kiv6 kik7 kiv7 kik8 kiv8 : Tok} {kin : Nat} {dLV dLV0 dLV1 dLV2 dLV3 dLV4 : Option Addr} {slLV slLV0 slLV1 slLV2 slLV3 slLV4 : Array (Option Value)} {nLV nLV0 nLV1 nLV2 nLV3 nLV4 : Nat} {tL00 tL10 tL20 tL30 tL40 tL41 tL42 tL43 tL44 : Tok}  {odZ anZ : Option Addr} {slmZ : Array (Option Value)} {ocZ dcZ pmZ cdZ ctZ : Value} {u0 u1 u2 u3 u4 u5 u6 u7 u8 u9 : Tok} {nmzd qnzd : Str} {nszd cdazd cczd : Addr} {bszd bmzd sbzd : List Value} {snzd : List Str} {abzd : Bool} {cozd : Option Bool} {ddzd odzd anzd cyzd cmzd : Option Addr} {kazd kbzd kczd kdzd kezd : Option Value} {oczd kVzd dczd pmzd ctzd cxzd clzd : Value} {slzd czzd cnzd : Array (Option Value)} {fizd : Array Value} {filezd : Str} {tfzd : Tok} {cddzd : ClassData} {nmzu qnzu : Str} {nszu cdazu cczu : Addr} {bszu bmzu sbzu : List Value} {snzu : List Str} {abzu : Bool} {cozu : Option Bool} {ddzu odzu anzu cyzu cmzu : Option Addr} {kazu kbzu kczu kdzu kezu : Option Value} {oczu kVzu dczu pmzu ctzu cxzu clzu : Value} {slzu czzu cnzu : Array (Option Value)} {fizu : Array Value} {filezu : Str} {tfzu : Tok} {cddzu : ClassData} {nmzf qnzf : Str} {nszf cdazf cczf : Addr} {bszf bmzf sbzf : List Value} {snzf : List Str} {abzf : Bool} {cozf : Option Bool} {ddzf odzf anzf cyzf cmzf : Option Addr} {kazf kbzf kczf kdzf kezf : Option Value} {oczf kVzf dczf pmzf ctzf cxzf clzf : Value} {slzf czzf cnzf : Array (Option Value)} {fizf : Array Value} {filezf : Str} {tfzf : Tok} {cddzf : ClassData} {nmzl qnzl : Str} {nszl cdazl cczl : Addr} {bszl bmzl sbzl : List Value} {snzl : List Str} {abzl : Bool} {cozl : Option Bool} {ddzl odzl anzl cyzl cmzl : Option Addr} {kazl kbzl kczl kdzl kezl : Option Value} {oczl kVzl dczl pmzl ctzl cxzl clzl : Value} {slzl czzl cnzl : Array (Option Value)} {fizl : Array Value} {filezl : Str} {tfzl : Tok} {cddzl : ClassData} 
    (a0 : PySem.W.nsIn K mainGlobals "decimal" = some (some (.ref f0))) (l0 : K.lookup f0 = some ⟨oc0, od0, .func (PySem.W.fnOf "decimal" "decimal" (defArgs s_decimal) (defBody s_decimal) (defScope s_decimal) .none kV0 dc0 pm0 an0 cd0 ct0), sl0⟩) (c0 : PySem.W.codeIn K cd0 "decimal" = true) (k0 : PySem.W.keepIn K (.ref f0) = true)
    (a1 : PySem.W.nsIn K mainGlobals "operands" = some (some (.ref f1))) (l1 : K.lookup f1 = some ⟨oc1, od1, .func (PySem.W.fnOf "operands" "operands" (defArgs s_operands) (defBody s_operands) (defScope s_operands) .none kV1 dc1 pm1 an1 cd1 ct1), sl1⟩) (c1 : PySem.W.codeIn K cd1 "operands" = true) (k1 : PySem.W.keepIn K (.ref f1) = true)
    (a2 : PySem.W.nsIn K mainGlobals "subformulas" = some (some (.ref f2))) (l2 : K.lookup f2 = some ⟨oc2, od2, .func (PySem.W.fnOf "subformulas" "subformulas" (defArgs s_subformulas) (defBody s_subformulas) (defScope s_subformulas) .none kV2 dc2 pm2 an2 cd2 ct2), sl2⟩) (c2 : PySem.W.codeIn K cd2 "subformulas" = true) (k2 : PySem.W.keepIn K (.ref f2) = true)
    (a3 : PySem.W.nsIn K mainGlobals "count_operators" = some (some (.ref f3))) (l3 : K.lookup f3 = some ⟨oc3, od3, .func (PySem.W.fnOf "count_operators" "count_operators" (defArgs s_count_operators) (defBody s_count_operators) (defScope s_count_operators) .none kV3 dc3 pm3 an3 cd3 ct3), sl3⟩) (c3 : PySem.W.codeIn K cd3 "count_operators" = true) (k3 : PySem.W.keepIn K (.ref f3) = true)
    (a4 : PySem.W.nsIn K mainGlobals "temporal_count" = some (some (.ref f4))) (l4 : K.lookup f4 = some ⟨oc4, od4, .func (PySem.W.fnOf "temporal_count" "temporal_count" (defArgs s_temporal_count) (defBody s_temporal_count) (defScope s_temporal_count) .none kV4 dc4 pm4 an4 cd4 ct4), sl4⟩) (c4 : PySem.W.codeIn K cd4 "temporal_count" = true) (k4 : PySem.W.keepIn K (.ref f4) = true)
    (a5 : PySem.W.nsIn K mainGlobals "depth" = some (some (.ref f5))) (l5 : K.lookup f5 = some ⟨oc5, od5, .func (PySem.W.fnOf "depth" "depth" (defArgs s_depth) (defBody s_depth) (defScope s_depth) .none kV5 dc5 pm5 an5 cd5 ct5), sl5⟩) (c5 : PySem.W.codeIn K cd5 "depth" = true) (k5 : PySem.W.keepIn K (.ref f5) = true)
    (a6 : PySem.W.nsIn K mainGlobals "is_quantified" = some (some (.ref f6))) (l6 : K.lookup f6 = some ⟨oc6, od6, .func (PySem.W.fnOf "is_quantified" "is_quantified" (defArgs s_is_quantified) (defBody s_is_quantified) (defScope s_is_quantified) .none kV6 dc6 pm6 an6 cd6 ct6), sl6⟩) (c6 : PySem.W.codeIn K cd6 "is_quantified" = true) (k6 : PySem.W.keepIn K (.ref f6) = true)
    (a7 : PySem.W.nsIn K mainGlobals "formula_of" = some (some (.ref f7))) (l7 : K.lookup f7 = some ⟨oc7, od7, .func (PySem.W.fnOf "formula_of" "formula_of" (defArgs s_formula_of) (defBody s_formula_of) (defScope s_formula_of) .none kV7 dc7 pm7 an7 cd7 ct7), sl7⟩) (c7 : PySem.W.codeIn K cd7 "formula_of" = true) (k7 : PySem.W.keepIn K (.ref f7) = true)
    (a8 : PySem.W.nsIn K mainGlobals "word_at" = some (some (.ref f8))) (l8 : K.lookup f8 = some ⟨oc8, od8, .func (PySem.W.fnOf "word_at" "word_at" (defArgs s_word_at) (defBody s_word_at) (defScope s_word_at) .none kV8 dc8 pm8 an8 cd8 ct8), sl8⟩) (c8 : PySem.W.codeIn K cd8 "word_at" = true) (k8 : PySem.W.keepIn K (.ref f8) = true)
    (a9 : PySem.W.nsIn K mainGlobals "is_reserved" = some (some (.ref f9))) (l9 : K.lookup f9 = some ⟨oc9, od9, .func (PySem.W.fnOf "is_reserved" "is_reserved" (defArgs s_is_reserved) (defBody s_is_reserved) (defScope s_is_reserved) .none kV9 dc9 pm9 an9 cd9 ct9), sl9⟩) (c9 : PySem.W.codeIn K cd9 "is_reserved" = true) (k9 : PySem.W.keepIn K (.ref f9) = true)
    (a10 : PySem.W.nsIn K mainGlobals "is_name" = some (some (.ref f10))) (l10 : K.lookup f10 = some ⟨oc10, od10, .func (PySem.W.fnOf "is_name" "is_name" (defArgs s_is_name) (defBody s_is_name) (defScope s_is_name) .none kV10 dc10 pm10 an10 cd10 ct10), sl10⟩) (c10 : PySem.W.codeIn K cd10 "is_name" = true) (k10 : PySem.W.keepIn K (.ref f10) = true)
    (a11 : PySem.W.nsIn K mainGlobals "natural" = some (some (.ref f11))) (l11 : K.lookup f11 = some ⟨oc11, od11, .func (PySem.W.fnOf "natural" "natural" (defArgs s_natural) (defBody s_natural) (defScope s_natural) .none kV11 dc11 pm11 an11 cd11 ct11), sl11⟩) (c11 : PySem.W.codeIn K cd11 "natural" = true) (k11 : PySem.W.keepIn K (.ref f11) = true)
    (a12 : PySem.W.nsIn K mainGlobals "whole" = some (some (.ref f12))) (l12 : K.lookup f12 = some ⟨oc12, od12, .func (PySem.W.fnOf "whole" "whole" (defArgs s_whole) (defBody s_whole) (defScope s_whole) .none kV12 dc12 pm12 an12 cd12 ct12), sl12⟩) (c12 : PySem.W.codeIn K cd12 "whole" = true) (k12 : PySem.W.keepIn K (.ref f12) = true)
    (a13 : PySem.W.nsIn K mainGlobals "parse_property" = some (some (.ref f13))) (l13 : K.lookup f13 = some ⟨oc13, od13, .func (PySem.W.fnOf "parse_property" "parse_property" (defArgs s_parse_property) (defBody s_parse_property) (defScope s_parse_property) .none kV13 dc13 pm13 an13 cd13 ct13), sl13⟩) (c13 : PySem.W.codeIn K cd13 "parse_property" = true) (k13 : PySem.W.keepIn K (.ref f13) = true)
    (a14 : PySem.W.nsIn K mainGlobals "check_names" = some (some (.ref f14))) (l14 : K.lookup f14 = some ⟨oc14, od14, .func (PySem.W.fnOf "check_names" "check_names" (defArgs s_check_names) (defBody s_check_names) (defScope s_check_names) .none kV14 dc14 pm14 an14 cd14 ct14), sl14⟩) (c14 : PySem.W.codeIn K cd14 "check_names" = true) (k14 : PySem.W.keepIn K (.ref f14) = true)
    (a15 : PySem.W.nsIn K mainGlobals "check_bounds" = some (some (.ref f15))) (l15 : K.lookup f15 = some ⟨oc15, od15, .func (PySem.W.fnOf "check_bounds" "check_bounds" (defArgs s_check_bounds) (defBody s_check_bounds) (defScope s_check_bounds) .none kV15 dc15 pm15 an15 cd15 ct15), sl15⟩) (c15 : PySem.W.codeIn K cd15 "check_bounds" = true) (k15 : PySem.W.keepIn K (.ref f15) = true)
    (a16 : PySem.W.nsIn K mainGlobals "split_tokens" = some (some (.ref f16))) (l16 : K.lookup f16 = some ⟨oc16, od16, .func (PySem.W.fnOf "split_tokens" "split_tokens" (defArgs s_split_tokens) (defBody s_split_tokens) (defScope s_split_tokens) .none kV16 dc16 pm16 an16 cd16 ct16), sl16⟩) (c16 : PySem.W.codeIn K cd16 "split_tokens" = true) (k16 : PySem.W.keepIn K (.ref f16) = true)
    (a17 : PySem.W.nsIn K mainGlobals "token_at" = some (some (.ref f17))) (l17 : K.lookup f17 = some ⟨oc17, od17, .func (PySem.W.fnOf "token_at" "token_at" (defArgs s_token_at) (defBody s_token_at) (defScope s_token_at) .none kV17 dc17 pm17 an17 cd17 ct17), sl17⟩) (c17 : PySem.W.codeIn K cd17 "token_at" = true) (k17 : PySem.W.keepIn K (.ref f17) = true)
    (a18 : PySem.W.nsIn K mainGlobals "fold" = some (some (.ref f18))) (l18 : K.lookup f18 = some ⟨oc18, od18, .func (PySem.W.fnOf "fold" "fold" (defArgs s_fold) (defBody s_fold) (defScope s_fold) .none kV18 dc18 pm18 an18 cd18 ct18), sl18⟩) (c18 : PySem.W.codeIn K cd18 "fold" = true) (k18 : PySem.W.keepIn K (.ref f18) = true)
    (a19 : PySem.W.nsIn K mainGlobals "fold_left" = some (some (.ref f19))) (l19 : K.lookup f19 = some ⟨oc19, od19, .func (PySem.W.fnOf "fold_left" "fold_left" (defArgs s_fold_left) (defBody s_fold_left) (defScope s_fold_left) .none kV19 dc19 pm19 an19 cd19 ct19), sl19⟩) (c19 : PySem.W.codeIn K cd19 "fold_left" = true) (k19 : PySem.W.keepIn K (.ref f19) = true)
    (a20 : PySem.W.nsIn K mainGlobals "fold_right" = some (some (.ref f20))) (l20 : K.lookup f20 = some ⟨oc20, od20, .func (PySem.W.fnOf "fold_right" "fold_right" (defArgs s_fold_right) (defBody s_fold_right) (defScope s_fold_right) .none kV20 dc20 pm20 an20 cd20 ct20), sl20⟩) (c20 : PySem.W.codeIn K cd20 "fold_right" = true) (k20 : PySem.W.keepIn K (.ref f20) = true)
    (a21 : PySem.W.nsIn K mainGlobals "parse_spec" = some (some (.ref f21))) (l21 : K.lookup f21 = some ⟨oc21, od21, .func (PySem.W.fnOf "parse_spec" "parse_spec" (defArgs s_parse_spec) (defBody s_parse_spec) (defScope s_parse_spec) .none kV21 dc21 pm21 an21 cd21 ct21), sl21⟩) (c21 : PySem.W.codeIn K cd21 "parse_spec" = true) (k21 : PySem.W.keepIn K (.ref f21) = true)
    (a22 : PySem.W.nsIn K mainGlobals "line_at" = some (some (.ref f22))) (l22 : K.lookup f22 = some ⟨oc22, od22, .func (PySem.W.fnOf "line_at" "line_at" (defArgs s_line_at) (defBody s_line_at) (defScope s_line_at) .none kV22 dc22 pm22 an22 cd22 ct22), sl22⟩) (c22 : PySem.W.codeIn K cd22 "line_at" = true) (k22 : PySem.W.keepIn K (.ref f22) = true)
    (a23 : PySem.W.nsIn K mainGlobals "read_names" = some (some (.ref f23))) (l23 : K.lookup f23 = some ⟨oc23, od23, .func (PySem.W.fnOf "read_names" "read_names" (defArgs s_read_names) (defBody s_read_names) (defScope s_read_names) .none kV23 dc23 pm23 an23 cd23 ct23), sl23⟩) (c23 : PySem.W.codeIn K cd23 "read_names" = true) (k23 : PySem.W.keepIn K (.ref f23) = true)
    (a24 : PySem.W.nsIn K mainGlobals "read_lead" = some (some (.ref f24))) (l24 : K.lookup f24 = some ⟨oc24, od24, .func (PySem.W.fnOf "read_lead" "read_lead" (defArgs s_read_lead) (defBody s_read_lead) (defScope s_read_lead) .none kV24 dc24 pm24 an24 cd24 ct24), sl24⟩) (c24 : PySem.W.codeIn K cd24 "read_lead" = true) (k24 : PySem.W.keepIn K (.ref f24) = true)
    (a25 : PySem.W.nsIn K mainGlobals "read_properties" = some (some (.ref f25))) (l25 : K.lookup f25 = some ⟨oc25, od25, .func (PySem.W.fnOf "read_properties" "read_properties" (defArgs s_read_properties) (defBody s_read_properties) (defScope s_read_properties) .none kV25 dc25 pm25 an25 cd25 ct25), sl25⟩) (c25 : PySem.W.codeIn K cd25 "read_properties" = true) (k25 : PySem.W.keepIn K (.ref f25) = true)
    (a26 : PySem.W.nsIn K mainGlobals "_law_draws" = some (some (.ref f26))) (l26 : K.lookup f26 = some ⟨oc26, od26, .func (PySem.W.fnOf "_law_draws" "_law_draws" (defArgs s_law_draws) (defBody s_law_draws) (defScope s_law_draws) .none kV26 dc26 pm26 an26 cd26 ct26), sl26⟩) (c26 : PySem.W.codeIn K cd26 "_law_draws" = true) (k26 : PySem.W.keepIn K (.ref f26) = true)
    (a27 : PySem.W.nsIn K mainGlobals "_law_take" = some (some (.ref f27))) (l27 : K.lookup f27 = some ⟨oc27, od27, .func (PySem.W.fnOf "_law_take" "_law_take" (defArgs s_law_take) (defBody s_law_take) (defScope s_law_take) .none kV27 dc27 pm27 an27 cd27 ct27), sl27⟩) (c27 : PySem.W.codeIn K cd27 "_law_take" = true) (k27 : PySem.W.keepIn K (.ref f27) = true)
    (a28 : PySem.W.nsIn K mainGlobals "_law_leaf" = some (some (.ref f28))) (l28 : K.lookup f28 = some ⟨oc28, od28, .func (PySem.W.fnOf "_law_leaf" "_law_leaf" (defArgs s_law_leaf) (defBody s_law_leaf) (defScope s_law_leaf) .none kV28 dc28 pm28 an28 cd28 ct28), sl28⟩) (c28 : PySem.W.codeIn K cd28 "_law_leaf" = true) (k28 : PySem.W.keepIn K (.ref f28) = true)
    (a29 : PySem.W.nsIn K mainGlobals "_law_formula" = some (some (.ref f29))) (l29 : K.lookup f29 = some ⟨oc29, od29, .func (PySem.W.fnOf "_law_formula" "_law_formula" (defArgs s_law_formula) (defBody s_law_formula) (defScope s_law_formula) .none kV29 dc29 pm29 an29 cd29 ct29), sl29⟩) (c29 : PySem.W.codeIn K cd29 "_law_formula" = true) (k29 : PySem.W.keepIn K (.ref f29) = true)
    (a30 : PySem.W.nsIn K mainGlobals "_law_print" = some (some (.ref f30))) (l30 : K.lookup f30 = some ⟨oc30, od30, .func (PySem.W.fnOf "_law_print" "_law_print" (defArgs s_law_print) (defBody s_law_print) (defScope s_law_print) .none kV30 dc30 pm30 an30 cd30 ct30), sl30⟩) (c30 : PySem.W.codeIn K cd30 "_law_print" = true) (k30 : PySem.W.keepIn K (.ref f30) = true)
    (a31 : PySem.W.nsIn K mainGlobals "_law_outcome" = some (some (.ref f31))) (l31 : K.lookup f31 = some ⟨oc31, od31, .func (PySem.W.fnOf "_law_outcome" "_law_outcome" (defArgs s_law_outcome) (defBody s_law_outcome) (defScope s_law_outcome) .none kV31 dc31 pm31 an31 cd31 ct31), sl31⟩) (c31 : PySem.W.codeIn K cd31 "_law_outcome" = true) (k31 : PySem.W.keepIn K (.ref f31) = true)
    (a32 : PySem.W.nsIn K mainGlobals "_law_header" = some (some (.ref f32))) (l32 : K.lookup f32 = some ⟨oc32, od32, .func (PySem.W.fnOf "_law_header" "_law_header" (defArgs s_law_header) (defBody s_law_header) (defScope s_law_header) .none kV32 dc32 pm32 an32 cd32 ct32), sl32⟩) (c32 : PySem.W.codeIn K cd32 "_law_header" = true) (k32 : PySem.W.keepIn K (.ref f32) = true)
    (a33 : PySem.W.nsIn K mainGlobals "_law_expected" = some (some (.ref f33))) (l33 : K.lookup f33 = some ⟨oc33, od33, .func (PySem.W.fnOf "_law_expected" "_law_expected" (defArgs s_law_expected) (defBody s_law_expected) (defScope s_law_expected) .none kV33 dc33 pm33 an33 cd33 ct33), sl33⟩) (c33 : PySem.W.codeIn K cd33 "_law_expected" = true) (k33 : PySem.W.keepIn K (.ref f33) = true)
    (a34 : PySem.W.nsIn K mainGlobals "_law_change" = some (some (.ref f34))) (l34 : K.lookup f34 = some ⟨oc34, od34, .func (PySem.W.fnOf "_law_change" "_law_change" (defArgs s_law_change) (defBody s_law_change) (defScope s_law_change) .none kV34 dc34 pm34 an34 cd34 ct34), sl34⟩) (c34 : PySem.W.codeIn K cd34 "_law_change" = true) (k34 : PySem.W.keepIn K (.ref f34) = true)
    (a35 : PySem.W.nsIn K mainGlobals "law" = some (some (.ref f35))) (l35 : K.lookup f35 = some ⟨oc35, od35, .func (PySem.W.fnOf "law" "law" (defArgs s_law) (defBody s_law) (defScope s_law) .none kV35 dc35 pm35 an35 cd35 ct35), sl35⟩) (c35 : PySem.W.codeIn K cd35 "law" = true) (k35 : PySem.W.keepIn K (.ref f35) = true)
    (z0 : PySem.W.nsIn K mainGlobals "abs" = some none) (z1 : PySem.W.nsIn K mainGlobals "all" = some none) (z2 : PySem.W.nsIn K mainGlobals "int" = some none) (z3 : PySem.W.nsIn K mainGlobals "len" = some none) (z4 : PySem.W.nsIn K mainGlobals "list" = some none) (z5 : PySem.W.nsIn K mainGlobals "max" = some none) (z6 : PySem.W.nsIn K mainGlobals "range" = some none) (z7 : PySem.W.nsIn K mainGlobals "set" = some none) (z8 : PySem.W.nsIn K mainGlobals "str" = some none) (z9 : PySem.W.nsIn K mainGlobals "sum" = some none) (z10 : PySem.W.nsIn K mainGlobals "tuple" = some none) (z11 : PySem.W.nsIn K mainGlobals "zip" = some none) (gQa : PySem.W.nsIn K mainGlobals "QUANTIFIERS" = some (some (.ref aQ))) (gQb : K.lookup aQ = some ⟨.type "tuple", dQ, .seq #[.str "exists" tQ0, .str "forall" tQ1] nQ, slQ⟩) (gNa : PySem.W.nsIn K mainGlobals "CONSTANTS" = some (some (.ref aN))) (gNb : K.lookup aN = some ⟨.type "tuple", dN, .seq #[.str "true" tN0, .str "false" tN1] nN, slN⟩) (gFa : PySem.W.nsIn K mainGlobals "FUTURE" = some (some (.ref aF))) (gFb : K.lookup aF = some ⟨.type "tuple", dF, .seq #[.str "next" tF0, .str "eventually" tF1, .str "always" tF2, .str "until" tF3, .str "weak_until" tF4, .str "release" tF5] nF, slF⟩) (gPa : PySem.W.nsIn K mainGlobals "PAST" = some (some (.ref aP))) (gPb : K.lookup aP = some ⟨.type "tuple", dP, .seq #[.str "previous" tP0, .str "weak_previous" tP1, .str "once" tP2, .str "historically" tP3, .str "since" tP4, .str "trigger" tP5] nP, slP⟩) (gGa : PySem.W.nsIn K mainGlobals "SIGNS" = some (some (.ref aG))) (gGb : K.lookup aG = some ⟨.type "tuple", dG, .seq #[.str "<->" tG0, .str "->" tG1, .str "!" tG2, .str "&" tG3, .str "|" tG4, .str "(" tG5, .str ")" tG6, .str "," tG7, .str ":" tG8, .str "X" tG9, .str "F" tG10, .str "G" tG11, .str "U" tG12, .str "W" tG13, .str "R" tG14, .str "Y" tG15, .str "Z" tG16, .str "O" tG17, .str "H" tG18, .str "S" tG19, .str "T" tG20] nG, slG⟩) (gAa : PySem.W.nsIn K mainGlobals "ASSOCIATE_TO_THE_LEFT" = some (some (.ref aA))) (gAb : K.lookup aA = some ⟨.type "tuple", dA, .seq #[.str "|" tA0, .str "&" tA1] nA, slA⟩) (gc : PySem.W.nsIn K mainGlobals "LOWER_CASE" = some (some (.str "abcdefghijklmnopqrstuvwxyz" tk1))) (gd : PySem.W.nsIn K mainGlobals "DIGITS" = some (some (.str "0123456789" tk2))) (ya : PySem.W.nsIn K mainGlobals "Reader" = some (some (.ref C))) (yb : PySem.W.plainGet K C Str.empty = true) (yc : PySem.W.hasDictIn K C = true) (yd : PySem.W.plainOver K C = true) (ye : PySem.W.findIn K (.ref C) "__setattr__" = some (some (.builtin "object.__setattr__"))) (yf0 : PySem.W.findIn K (.ref C) "tokens" = some none) (yf1 : PySem.W.findIn K (.ref C) "at" = some none) (yf2 : PySem.W.findIn K (.ref C) "prefixes" = some none) (yj : PySem.W.makesIn K C = true) (yk : PySem.W.findIn K (.ref C) "__init__" = some (some (.ref fI))) (yl : PySem.W.isFn K (.ref fI) = true) (ym : PySem.W.keepIn K (.ref C) = true) (yn : K.lookup fI = some ⟨ocI, odI, .func (PySem.W.fnOf "__init__" "Reader.__init__" (defArgs s_Reader_init) (defBody s_Reader_init) (defScope s_Reader_init) .none kVI dcI pmI anI cdI ctI), slmI⟩) (yo : PySem.W.codeIn K cdI "Reader.__init__" = true) (yp : PySem.W.keepIn K (.ref fI) = true) (p9a : PySem.W.findIn K (.ref C) "peek" = some (some (.ref fP))) (p9n : K.lookup fP = some ⟨ocP, odP, .func (PySem.W.fnOf "peek" "Reader.peek" (defArgs s_Reader_peek) (defBody s_Reader_peek) (defScope s_Reader_peek) .none kVP dcP pmP anP cdP ctP), slmP⟩) (p9o : PySem.W.codeIn K cdP "Reader.peek" = true) (p9p : PySem.W.keepIn K (.ref fP) = true) (p9b : PySem.W.isFn K (.ref fP) = true) (t9a : PySem.W.findIn K (.ref C) "take" = some (some (.ref fT))) (t9n : K.lookup fT = some ⟨ocT, odT, .func (PySem.W.fnOf "take" "Reader.take" (defArgs s_Reader_take) (defBody s_Reader_take) (defScope s_Reader_take) .none kVT dcT pmT anT cdT ctT), slmT⟩) (t9o : PySem.W.codeIn K cdT "Reader.take" = true) (t9p : PySem.W.keepIn K (.ref fT) = true) (t9b : PySem.W.isFn K (.ref fT) = true) (a9a : PySem.W.findIn K (.ref C) "read_all" = some (some (.ref fA))) (a9n : K.lookup fA = some ⟨ocA, odA, .func (PySem.W.fnOf "read_all" "Reader.read_all" (defArgs s_Reader_read_all) (defBody s_Reader_read_all) (defScope s_Reader_read_all) .none kVA dcA pmA anA cdA ctA), slmA⟩) (a9o : PySem.W.codeIn K cdA "Reader.read_all" = true) (a9p : PySem.W.keepIn K (.ref fA) = true) (a9b : PySem.W.isFn K (.ref fA) = true) (h9a : PySem.W.findIn K (.ref C) "read_hidden" = some (some (.ref fH))) (h9n : K.lookup fH = some ⟨ocH, odH, .func (PySem.W.fnOf "read_hidden" "Reader.read_hidden" (defArgs s_Reader_read_hidden) (defBody s_Reader_read_hidden) (defScope s_Reader_read_hidden) .none kVH dcH pmH anH cdH ctH), slmH⟩) (h9o : PySem.W.codeIn K cdH "Reader.read_hidden" = true) (h9p : PySem.W.keepIn K (.ref fH) = true) (h9b : PySem.W.isFn K (.ref fH) = true) (f9a : PySem.W.findIn K (.ref C) "read_formula" = some (some (.ref fF))) (f9n : K.lookup fF = some ⟨ocF, odF, .func (PySem.W.fnOf "read_formula" "Reader.read_formula" (defArgs s_Reader_read_formula) (defBody s_Reader_read_formula) (defScope s_Reader_read_formula) .none kVF dcF pmF anF cdF ctF), slmF⟩) (f9o : PySem.W.codeIn K cdF "Reader.read_formula" = true) (f9p : PySem.W.keepIn K (.ref fF) = true) (f9b : PySem.W.isFn K (.ref fF) = true) (u9a : PySem.W.findIn K (.ref C) "read_unary" = some (some (.ref fU))) (u9n : K.lookup fU = some ⟨ocU, odU, .func (PySem.W.fnOf "read_unary" "Reader.read_unary" (defArgs s_Reader_read_unary) (defBody s_Reader_read_unary) (defScope s_Reader_read_unary) .none kVU dcU pmU anU cdU ctU), slmU⟩) (u9o : PySem.W.codeIn K cdU "Reader.read_unary" = true) (u9p : PySem.W.keepIn K (.ref fU) = true) (u9b : PySem.W.isFn K (.ref fU) = true) (o9a : PySem.W.findIn K (.ref C) "read_atom" = some (some (.ref fO))) (o9n : K.lookup fO = some ⟨ocO, odO, .func (PySem.W.fnOf "read_atom" "Reader.read_atom" (defArgs s_Reader_read_atom) (defBody s_Reader_read_atom) (defScope s_Reader_read_atom) .none kVO dcO pmO anO cdO ctO), slmO⟩) (o9o : PySem.W.codeIn K cdO "Reader.read_atom" = true) (o9p : PySem.W.keepIn K (.ref fO) = true) (o9b : PySem.W.isFn K (.ref fO) = true) (kra : PySem.W.nsIn K mainGlobals "PREFIX_SIGNS" = some (some (.ref aR))) (krb : K.lookup aR = some ⟨.type "dict", none, .dict #[⟨krh0, .str "not" krk0, .str "!" krv0⟩, ⟨krh1, .str "next" krk1, .str "X" krv1⟩, ⟨krh2, .str "eventually" krk2, .str "F" krv2⟩, ⟨krh3, .str "always" krk3, .str "G" krv3⟩, ⟨krh4, .str "previous" krk4, .str "Y" krv4⟩, ⟨krh5, .str "weak_previous" krk5, .str "Z" krv5⟩, ⟨krh6, .str "once" krk6, .str "O" krv6⟩, ⟨krh7, .str "historically" krk7, .str "H" krv7⟩] krn, #[]⟩) (krk : PySem.W.KeysLit w.params (#[⟨krh0, .str "not" krk0, .str "!" krv0⟩, ⟨krh1, .str "next" krk1, .str "X" krv1⟩, ⟨krh2, .str "eventually" krk2, .str "F" krv2⟩, ⟨krh3, .str "always" krk3, .str "G" krv3⟩, ⟨krh4, .str "previous" krk4, .str "Y" krv4⟩, ⟨krh5, .str "weak_previous" krk5, .str "Z" krv5⟩, ⟨krh6, .str "once" krk6, .str "O" krv6⟩, ⟨krh7, .str "historically" krk7, .str "H" krv7⟩] : Array DictEntry).toList) (krl : (aR == sysModules) = false) (kia : PySem.W.nsIn K mainGlobals "INFIX_SIGNS" = some (some (.ref aI))) (kib : K.lookup aI = some ⟨.type "dict", none, .dict #[⟨kih0, .str "iff" kik0, .str "<->" kiv0⟩, ⟨kih1, .str "implies" kik1, .str "->" kiv1⟩, ⟨kih2, .str "or" kik2, .str "|" kiv2⟩, ⟨kih3, .str "and" kik3, .str "&" kiv3⟩, ⟨kih4, .str "until" kik4, .str "U" kiv4⟩, ⟨kih5, .str "weak_until" kik5, .str "W" kiv5⟩, ⟨kih6, .str "release" kik6, .str "R" kiv6⟩, ⟨kih7, .str "since" kik7, .str "S" kiv7⟩, ⟨kih8, .str "trigger" kik8, .str "T" kiv8⟩] kin, #[]⟩) (kik : PySem.W.KeysLit w.params (#[⟨kih0, .str "iff" kik0, .str "<->" kiv0⟩, ⟨kih1, .str "implies" kik1, .str "->" kiv1⟩, ⟨kih2, .str "or" kik2, .str "|" kiv2⟩, ⟨kih3, .str "and" kik3, .str "&" kiv3⟩, ⟨kih4, .str "until" kik4, .str "U" kiv4⟩, ⟨kih5, .str "weak_until" kik5, .str "W" kiv5⟩, ⟨kih6, .str "release" kik6, .str "R" kiv6⟩, ⟨kih7, .str "since" kik7, .str "S" kiv7⟩, ⟨kih8, .str "trigger" kik8, .str "T" kiv8⟩] : Array DictEntry).toList) (kil : (aI == sysModules) = false) (lva : PySem.W.nsIn K mainGlobals "LEVELS" = some (some (.ref aL))) (lvb : K.lookup aL = some ⟨.type "tuple", dLV, .seq #[.ref bL0, .ref bL1, .ref bL2, .ref bL3, .ref bL4] nLV, slLV⟩) (lvc0 : K.lookup bL0 = some ⟨.type "tuple", dLV0, .seq #[.str "<->" tL00] nLV0, slLV0⟩) (lvc1 : K.lookup bL1 = some ⟨.type "tuple", dLV1, .seq #[.str "->" tL10] nLV1, slLV1⟩) (lvc2 : K.lookup bL2 = some ⟨.type "tuple", dLV2, .seq #[.str "|" tL20] nLV2, slLV2⟩) (lvc3 : K.lookup bL3 = some ⟨.type "tuple", dLV3, .seq #[.str "&" tL30] nLV3, slLV3⟩) (lvc4 : K.lookup bL4 = some ⟨.type "tuple", dLV4, .seq #[.str "U" tL40, .str "W" tL41, .str "R" tL42, .str "S" tL43, .str "T" tL44] nLV4, slLV4⟩) (mt0 : PySem.W.nsIn K mainGlobals "MOST_CHARACTERS" = some (some (.int 200 tm1))) (mt1 : PySem.W.nsIn K mainGlobals "MOST_PARENTHESES" = some (some (.int 20 tm2))) (mt2 : PySem.W.nsIn K mainGlobals "MOST_HIDDEN" = some (some (.int 3 tm3))) (mt3 : PySem.W.nsIn K mainGlobals "MOST_DEPTH" = some (some (.int 100 tm4))) (mt4 : PySem.W.nsIn K mainGlobals "MOST_TEMPORAL" = some (some (.int 8 tm5))) (mt5 : PySem.W.nsIn K mainGlobals "MOST_DOUBLING" = some (some (.int 6 tm6))) (xa : PySem.W.nsIn K mainGlobals "InvalidSpec" = some (some (.ref cS))) (xb : PySem.W.excIn K cS [.type "ValueError", .type "Exception", .type "BaseException", .type "object"] "ValueError.__new__" = true) (xc : PySem.W.keepIn K (.ref cS) = true) (xd : PySem.W.typeIn K (.ref cS) = some (.type "type")) (xe : PySem.W.subIn K (.ref cS) (.ref cS) = some true) (xf : PySem.W.findIn K (.ref cS) "__getattribute__" = some (some (.builtin "BaseException.__getattribute__"))) (xg : PySem.W.findIn K (.ref cS) "__getattr__" = some none) (xh : PySem.W.subIn K (.ref cS) (.type "BaseException") = some true) (xi : PySem.W.hasDictIn K cS = true) (xj : PySem.W.findIn K (.ref cS) "__class__" = some (some (.builtin "object.__class__"))) (xk : PySem.W.specialIn K (.builtin "object.__class__") "__get__" = some (some (.builtin "getset_descriptor.__get__"))) (xl : PySem.W.takesIn K (.builtin "object.__class__") = some true) (xm : PySem.W.mroIn K cS (.type "object") = some true) (va : PySem.W.nsIn K mainGlobals "Spec" = some (some (.ref CZS))) (vb : PySem.W.plainGet K CZS Str.empty = true) (vc : PySem.W.hasDictIn K CZS = true) (vd : PySem.W.plainOver K CZS = true) (ve : PySem.W.findIn K (.ref CZS) "__setattr__" = some (some (.builtin "object.__setattr__"))) (vf0 : PySem.W.findIn K (.ref CZS) "inputs" = some none) (vf1 : PySem.W.findIn K (.ref CZS) "outputs" = some none) (vf2 : PySem.W.findIn K (.ref CZS) "lead" = some none) (vf3 : PySem.W.findIn K (.ref CZS) "assumptions" = some none) (vf4 : PySem.W.findIn K (.ref CZS) "guarantees" = some none) (vf5 : PySem.W.findIn K (.ref CZS) "negated" = some none) (vj : PySem.W.makesIn K CZS = true) (vk : PySem.W.findIn K (.ref CZS) "__init__" = some (some (.ref fZS))) (vl : PySem.W.isFn K (.ref fZS) = true) (vm : PySem.W.keepIn K (.ref CZS) = true) (vn : K.lookup fZS = some ⟨ocZ, odZ, .func (PySem.W.fnOf "__init__" "Spec.__init__" (defArgs s_Spec_init) (defBody s_Spec_init) (defScope s_Spec_init) .none (.ref kDZS) dcZ pmZ anZ cdZ ctZ), slmZ⟩) (vo : PySem.W.codeIn K cdZ "Spec.__init__" = true) (vp : PySem.W.keepIn K (.ref fZS) = true) (vq : PySem.W.nsIn K kDZS "negated" = some (some (.bool false))) (qa : PySem.W.findIn K (.ref CZS) "__class__" = some (some (.builtin "object.__class__"))) (qb : PySem.W.specialIn K (.builtin "object.__class__") "__get__" = some (some (.builtin "getset_descriptor.__get__"))) (qc : PySem.W.takesIn K (.builtin "object.__class__") = some true) (qd : PySem.W.mroIn K CZS (.type "object") = some true) (vt0 : PySem.W.nsIn K mainGlobals "LEAST_LEAD" = some (some (.int (-3) u0))) (vt1 : PySem.W.nsIn K mainGlobals "GREATEST_LEAD" = some (some (.int 2 u1))) (vt2 : PySem.W.nsIn K mainGlobals "MOST_NAMES" = some (some (.int 3 u2))) (vt3 : PySem.W.nsIn K mainGlobals "PIECE" = some (some (.int 1000000000000000000 u3))) (vt4 : PySem.W.nsIn K mainGlobals "DIGITS_IN_A_PIECE" = some (some (.int 18 u4))) (vt5 : PySem.W.nsIn K mainGlobals "ASSUME" = some (some (.str "assume " u5))) (vt6 : PySem.W.nsIn K mainGlobals "GUARANTEE" = some (some (.str "guarantee " u6))) (vt7 : PySem.W.nsIn K mainGlobals "NEGATED" = some (some (.str "negated" u7))) (vt8 : PySem.W.nsIn K mainGlobals "FIRST_PROPERTY" = some (some (.int 3 u8))) (vt9 : PySem.W.nsIn K mainGlobals "MOST_PROPERTIES" = some (some (.int 6 u9))) (xxa : PySem.W.nsIn K mainGlobals "TooLarge" = some (some (.ref cTX))) (xxb : PySem.W.excIn K cTX [.type "ValueError", .type "Exception", .type "BaseException", .type "object"] "ValueError.__new__" = true) (xxc : PySem.W.keepIn K (.ref cTX) = true) (xxd : PySem.W.typeIn K (.ref cTX) = some (.type "type")) (xxe : PySem.W.subIn K (.ref cTX) (.ref cTX) = some true) (xxf : PySem.W.findIn K (.ref cTX) "__getattribute__" = some (some (.builtin "BaseException.__getattribute__"))) (xxg : PySem.W.findIn K (.ref cTX) "__getattr__" = some none) (xxh : PySem.W.subIn K (.ref cTX) (.type "BaseException") = some true) (xxi : PySem.W.hasDictIn K cTX = true) (xxj : PySem.W.findIn K (.ref cTX) "__class__" = some (some (.builtin "object.__class__"))) (xxk : PySem.W.specialIn K (.builtin "object.__class__") "__get__" = some (some (.builtin "getset_descriptor.__get__"))) (xxl : PySem.W.takesIn K (.builtin "object.__class__") = some true) (xxm : PySem.W.mroIn K cTX (.type "object") = some true) (zda : PySem.W.nsIn K mainGlobals "DuplicateSignal" = some (some (.ref czd))) (zdb : K.lookup czd = some (excClassObj nmzd qnzd czd nszd bszd bmzd true snzd sbzd abzd cozd ddzd kazd kbzd kczd kdzd kezd "ValueError.__new__")) (zdc : PySem.HandSPX.refsVE bmzd = true) (zdd : PySem.W.findIn K (.ref czd) "__setattr__" = some (some (.builtin "object.__setattr__"))) (zde : PySem.W.subIn K (.ref czd) (.type "BaseException") = some true) (zdf : PySem.W.typeIn K (.ref czd) = some (.type "type")) (zdg : PySem.W.keepIn K (.ref czd) = true) (zdh : PySem.W.findIn K (.ref czd) "__init__" = some (some (.ref gzd))) (zdi : PySem.W.typeIn K (.ref gzd) = some (.type "function")) (zdj : K.lookup gzd = some ⟨oczd, odzd, .func (PySem.W.ksFn "__init__" "DuplicateSignal.__init__" (defArgs s_DuplicateSignal_init) (defBody s_DuplicateSignal_init) (defScope s_DuplicateSignal_init) .none kVzd dczd pmzd anzd (.ref cdazd) ctzd cczd), slzd⟩) (zdk : PySem.W.codeIn K (.ref cdazd) "DuplicateSignal.__init__" = true) (zdl : K.lookup cdazd = some ⟨cxzd, cyzd, .fields fizd, czzd⟩) (zdm : fizd[2]? = some (.str filezd tfzd)) (zdn : ((l.prog.main.file : Str) == filezd) = true) (zdo : K.lookup cczd = some ⟨clzd, cmzd, .cell (some (.ref czd)), cnzd⟩) (zdp : PySem.W.clsIn K czd = some cddzd) (zdq : PySem.W.alongIn K "__init__" ((cddzd.mro.dropWhile (· != .ref czd)).drop 1) = some (some (.builtin "ValueError.__init__"))) (zdr : PySem.W.mroIn K czd (.ref czd) = some true) (zds : PySem.W.subIn K (.ref czd) (.type "ValueError") = some true) (zdt : PySem.W.findIn K (.ref czd) "__getattribute__" = some (some (.builtin "BaseException.__getattribute__"))) (zdu : PySem.W.findIn K (.ref czd) "__getattr__" = some none) (zdv : PySem.W.hasDictIn K czd = true) (zdw : PySem.W.findIn K (.ref czd) "name" = some none) (zua : PySem.W.nsIn K mainGlobals "UnknownSignal" = some (some (.ref czu))) (zub : K.lookup czu = some (excClassObj nmzu qnzu czu nszu bszu bmzu true snzu sbzu abzu cozu ddzu kazu kbzu kczu kdzu kezu "ValueError.__new__")) (zuc : PySem.HandSPX.refsVE bmzu = true) (zud : PySem.W.findIn K (.ref czu) "__setattr__" = some (some (.builtin "object.__setattr__"))) (zue : PySem.W.subIn K (.ref czu) (.type "BaseException") = some true) (zuf : PySem.W.typeIn K (.ref czu) = some (.type "type")) (zug : PySem.W.keepIn K (.ref czu) = true) (zuh : PySem.W.findIn K (.ref czu) "__init__" = some (some (.ref gzu))) (zui : PySem.W.typeIn K (.ref gzu) = some (.type "function")) (zuj : K.lookup gzu = some ⟨oczu, odzu, .func (PySem.W.ksFn "__init__" "UnknownSignal.__init__" (defArgs s_UnknownSignal_init) (defBody s_UnknownSignal_init) (defScope s_UnknownSignal_init) .none kVzu dczu pmzu anzu (.ref cdazu) ctzu cczu), slzu⟩) (zuk : PySem.W.codeIn K (.ref cdazu) "UnknownSignal.__init__" = true) (zul : K.lookup cdazu = some ⟨cxzu, cyzu, .fields fizu, czzu⟩) (zum : fizu[2]? = some (.str filezu tfzu)) (zun : ((l.prog.main.file : Str) == filezu) = true) (zuo : K.lookup cczu = some ⟨clzu, cmzu, .cell (some (.ref czu)), cnzu⟩) (zup : PySem.W.clsIn K czu = some cddzu) (zuq : PySem.W.alongIn K "__init__" ((cddzu.mro.dropWhile (· != .ref czu)).drop 1) = some (some (.builtin "ValueError.__init__"))) (zur : PySem.W.mroIn K czu (.ref czu) = some true) (zus : PySem.W.subIn K (.ref czu) (.type "ValueError") = some true) (zut : PySem.W.findIn K (.ref czu) "__getattribute__" = some (some (.builtin "BaseException.__getattribute__"))) (zuu : PySem.W.findIn K (.ref czu) "__getattr__" = some none) (zuv : PySem.W.hasDictIn K czu = true) (zuw : PySem.W.findIn K (.ref czu) "name" = some none) (zfa : PySem.W.nsIn K mainGlobals "FormulaSyntaxError" = some (some (.ref czf))) (zfb : K.lookup czf = some (excClassObj nmzf qnzf czf nszf bszf bmzf true snzf sbzf abzf cozf ddzf kazf kbzf kczf kdzf kezf "ValueError.__new__")) (zfc : PySem.HandSPX.refsVE bmzf = true) (zfd : PySem.W.findIn K (.ref czf) "__setattr__" = some (some (.builtin "object.__setattr__"))) (zfe : PySem.W.subIn K (.ref czf) (.type "BaseException") = some true) (zff : PySem.W.typeIn K (.ref czf) = some (.type "type")) (zfg : PySem.W.keepIn K (.ref czf) = true) (zfh : PySem.W.findIn K (.ref czf) "__init__" = some (some (.ref gzf))) (zfi : PySem.W.typeIn K (.ref gzf) = some (.type "function")) (zfj : K.lookup gzf = some ⟨oczf, odzf, .func (PySem.W.ksFn "__init__" "FormulaSyntaxError.__init__" (defArgs s_FormulaSyntaxError_init) (defBody s_FormulaSyntaxError_init) (defScope s_FormulaSyntaxError_init) .none kVzf dczf pmzf anzf (.ref cdazf) ctzf cczf), slzf⟩) (zfk : PySem.W.codeIn K (.ref cdazf) "FormulaSyntaxError.__init__" = true) (zfl : K.lookup cdazf = some ⟨cxzf, cyzf, .fields fizf, czzf⟩) (zfm : fizf[2]? = some (.str filezf tfzf)) (zfn : ((l.prog.main.file : Str) == filezf) = true) (zfo : K.lookup cczf = some ⟨clzf, cmzf, .cell (some (.ref czf)), cnzf⟩) (zfp : PySem.W.clsIn K czf = some cddzf) (zfq : PySem.W.alongIn K "__init__" ((cddzf.mro.dropWhile (· != .ref czf)).drop 1) = some (some (.builtin "ValueError.__init__"))) (zfr : PySem.W.mroIn K czf (.ref czf) = some true) (zfs : PySem.W.subIn K (.ref czf) (.type "ValueError") = some true) (zft : PySem.W.findIn K (.ref czf) "__getattribute__" = some (some (.builtin "BaseException.__getattribute__"))) (zfu : PySem.W.findIn K (.ref czf) "__getattr__" = some none) (zfv : PySem.W.hasDictIn K czf = true) (zfw : PySem.W.findIn K (.ref czf) "position" = some none) (zla : PySem.W.nsIn K mainGlobals "SpecSyntaxError" = some (some (.ref czl))) (zlb : K.lookup czl = some (excClassObj nmzl qnzl czl nszl bszl bmzl true snzl sbzl abzl cozl ddzl kazl kbzl kczl kdzl kezl "ValueError.__new__")) (zlc : PySem.HandSPX.refsVE bmzl = true) (zld : PySem.W.findIn K (.ref czl) "__setattr__" = some (some (.builtin "object.__setattr__"))) (zle : PySem.W.subIn K (.ref czl) (.type "BaseException") = some true) (zlf : PySem.W.typeIn K (.ref czl) = some (.type "type")) (zlg : PySem.W.keepIn K (.ref czl) = true) (zlh : PySem.W.findIn K (.ref czl) "__init__" = some (some (.ref gzl))) (zli : PySem.W.typeIn K (.ref gzl) = some (.type "function")) (zlj : K.lookup gzl = some ⟨oczl, odzl, .func (PySem.W.ksFn "__init__" "SpecSyntaxError.__init__" (defArgs s_SpecSyntaxError_init) (defBody s_SpecSyntaxError_init) (defScope s_SpecSyntaxError_init) .none kVzl dczl pmzl anzl (.ref cdazl) ctzl cczl), slzl⟩) (zlk : PySem.W.codeIn K (.ref cdazl) "SpecSyntaxError.__init__" = true) (zll : K.lookup cdazl = some ⟨cxzl, cyzl, .fields fizl, czzl⟩) (zlm : fizl[2]? = some (.str filezl tfzl)) (zln : ((l.prog.main.file : Str) == filezl) = true) (zlo : K.lookup cczl = some ⟨clzl, cmzl, .cell (some (.ref czl)), cnzl⟩) (zlp : PySem.W.clsIn K czl = some cddzl) (zlq : PySem.W.alongIn K "__init__" ((cddzl.mro.dropWhile (· != .ref czl)).drop 1) = some (some (.builtin "ValueError.__init__"))) (zlr : PySem.W.mroIn K czl (.ref czl) = some true) (zls : PySem.W.subIn K (.ref czl) (.type "ValueError") = some true) (zlt : PySem.W.findIn K (.ref czl) "__getattribute__" = some (some (.builtin "BaseException.__getattribute__"))) (zlu : PySem.W.findIn K (.ref czl) "__getattr__" = some none) (zlv : PySem.W.hasDictIn K czl = true) (zlw : PySem.W.findIn K (.ref czl) "line" = some none) (hp1 : PySem.W.nsIn K mainGlobals "super" = some none) (hp2 : (l.prog.main.scope.names.lookup ("super" : Str)).isSome = false) (hp3 : PySem.W.nsIn K cStatics "thirdparty.any" = some none) (hq0 : PySem.W.exmOne K (.ref czl) (.ref czl) = some true) (hq1 : PySem.W.exmOne K (.ref czf) (.ref czl) = some false) (hq2 : PySem.W.exmOne K (.ref czf) (.ref czf) = some true) (hq3 : PySem.W.exmOne K (.ref czu) (.ref czl) = some false) (hq4 : PySem.W.exmOne K (.ref czu) (.ref czf) = some false) (hq5 : PySem.W.exmOne K (.ref czu) (.ref czu) = some true) (hq6 : PySem.W.exmOne K (.ref cTX) (.ref czl) = some false) (hq7 : PySem.W.exmOne K (.ref cTX) (.ref czf) = some false) (hq8 : PySem.W.exmOne K (.ref cTX) (.ref czu) = some false) :
    ∃ fd : FuncData, (∀ (s : Shared) (v : Value), BindsTo s fd ⟨[v], []⟩ [("script", v)]) ∧ ∀ base : Heap, K.In base → base.Ns mainGlobals mg → FnOk l.prog w K mg base CX0 120 fa fd ["script"] (spLaw K) := by
  have e := hfa.symm.trans (PySem.W.mg_of X G a35)
  cases e
  have T : Txt K mg w l.prog := ⟨⟨f0, _, fun_mk (st := s_decimal) l0 c0 k0, PySem.W.mg_of X G a0, (fun_mk (st := s_decimal) l0 c0 k0).binds fun _ _ _ _ _ _ us hl => match us, hl with | [_], _ => rfl⟩, ⟨f1, _, fun_mk (st := s_operands) l1 c1 k1, PySem.W.mg_of X G a1, (fun_mk (st := s_operands) l1 c1 k1).binds fun _ _ _ _ _ _ us hl => match us, hl with | [_], _ => rfl⟩, ⟨f2, _, fun_mk (st := s_subformulas) l2 c2 k2, PySem.W.mg_of X G a2, (fun_mk (st := s_subformulas) l2 c2 k2).binds fun _ _ _ _ _ _ us hl => match us, hl with | [_], _ => rfl⟩, ⟨f3, _, fun_mk (st := s_count_operators) l3 c3 k3, PySem.W.mg_of X G a3, (fun_mk (st := s_count_operators) l3 c3 k3).binds fun _ _ _ _ _ _ us hl => match us, hl with | [_, _], _ => rfl⟩, ⟨f4, _, fun_mk (st := s_temporal_count) l4 c4 k4, PySem.W.mg_of X G a4, (fun_mk (st := s_temporal_count) l4 c4 k4).binds fun _ _ _ _ _ _ us hl => match us, hl with | [_], _ => rfl⟩, ⟨f5, _, fun_mk (st := s_depth) l5 c5 k5, PySem.W.mg_of X G a5, (fun_mk (st := s_depth) l5 c5 k5).binds fun _ _ _ _ _ _ us hl => match us, hl with | [_], _ => rfl⟩, ⟨f6, _, fun_mk (st := s_is_quantified) l6 c6 k6, PySem.W.mg_of X G a6, (fun_mk (st := s_is_quantified) l6 c6 k6).binds fun _ _ _ _ _ _ us hl => match us, hl with | [_], _ => rfl⟩, ⟨f7, _, fun_mk (st := s_formula_of) l7 c7 k7, PySem.W.mg_of X G a7, (fun_mk (st := s_formula_of) l7 c7 k7).binds fun _ _ _ _ _ _ us hl => match us, hl with | [_], _ => rfl⟩, ⟨f8, _, fun_mk (st := s_word_at) l8 c8 k8, PySem.W.mg_of X G a8, (fun_mk (st := s_word_at) l8 c8 k8).binds fun _ _ _ _ _ _ us hl => match us, hl with | [_, _], _ => rfl⟩, ⟨f9, _, fun_mk (st := s_is_reserved) l9 c9 k9, PySem.W.mg_of X G a9, (fun_mk (st := s_is_reserved) l9 c9 k9).binds fun _ _ _ _ _ _ us hl => match us, hl with | [_], _ => rfl⟩, ⟨f10, _, fun_mk (st := s_is_name) l10 c10 k10, PySem.W.mg_of X G a10, (fun_mk (st := s_is_name) l10 c10 k10).binds fun _ _ _ _ _ _ us hl => match us, hl with | [_], _ => rfl⟩, ⟨f11, _, fun_mk (st := s_natural) l11 c11 k11, PySem.W.mg_of X G a11, (fun_mk (st := s_natural) l11 c11 k11).binds fun _ _ _ _ _ _ us hl => match us, hl with | [_], _ => rfl⟩, ⟨f12, _, fun_mk (st := s_whole) l12 c12 k12, PySem.W.mg_of X G a12, (fun_mk (st := s_whole) l12 c12 k12).binds fun _ _ _ _ _ _ us hl => match us, hl with | [_], _ => rfl⟩, ⟨f13, _, fun_mk (st := s_parse_property) l13 c13 k13, PySem.W.mg_of X G a13, (fun_mk (st := s_parse_property) l13 c13 k13).binds fun _ _ _ _ _ _ us hl => match us, hl with | [_, _], _ => rfl⟩, ⟨f14, _, fun_mk (st := s_check_names) l14 c14 k14, PySem.W.mg_of X G a14, (fun_mk (st := s_check_names) l14 c14 k14).binds fun _ _ _ _ _ _ us hl => match us, hl with | [_, _, _], _ => rfl⟩, ⟨f15, _, fun_mk (st := s_check_bounds) l15 c15 k15, PySem.W.mg_of X G a15, (fun_mk (st := s_check_bounds) l15 c15 k15).binds fun _ _ _ _ _ _ us hl => match us, hl with | [_, _], _ => rfl⟩, ⟨f16, _, fun_mk (st := s_split_tokens) l16 c16 k16, PySem.W.mg_of X G a16, (fun_mk (st := s_split_tokens) l16 c16 k16).binds fun _ _ _ _ _ _ us hl => match us, hl with | [_], _ => rfl⟩, ⟨f17, _, fun_mk (st := s_token_at) l17 c17 k17, PySem.W.mg_of X G a17, (fun_mk (st := s_token_at) l17 c17 k17).binds fun _ _ _ _ _ _ us hl => match us, hl with | [_, _], _ => rfl⟩, ⟨f18, _, fun_mk (st := s_fold) l18 c18 k18, PySem.W.mg_of X G a18, (fun_mk (st := s_fold) l18 c18 k18).binds fun _ _ _ _ _ _ us hl => match us, hl with | [_, _], _ => rfl⟩, ⟨f19, _, fun_mk (st := s_fold_left) l19 c19 k19, PySem.W.mg_of X G a19, (fun_mk (st := s_fold_left) l19 c19 k19).binds fun _ _ _ _ _ _ us hl => match us, hl with | [_, _], _ => rfl⟩, ⟨f20, _, fun_mk (st := s_fold_right) l20 c20 k20, PySem.W.mg_of X G a20, (fun_mk (st := s_fold_right) l20 c20 k20).binds fun _ _ _ _ _ _ us hl => match us, hl with | [_, _], _ => rfl⟩, ⟨f21, _, fun_mk (st := s_parse_spec) l21 c21 k21, PySem.W.mg_of X G a21, (fun_mk (st := s_parse_spec) l21 c21 k21).binds fun _ _ _ _ _ _ us hl => match us, hl with | [_], _ => rfl⟩, ⟨f22, _, fun_mk (st := s_line_at) l22 c22 k22, PySem.W.mg_of X G a22, (fun_mk (st := s_line_at) l22 c22 k22).binds fun _ _ _ _ _ _ us hl => match us, hl with | [_, _], _ => rfl⟩, ⟨f23, _, fun_mk (st := s_read_names) l23 c23 k23, PySem.W.mg_of X G a23, (fun_mk (st := s_read_names) l23 c23 k23).binds fun _ _ _ _ _ _ us hl => match us, hl with | [_, _, _, _], _ => rfl⟩, ⟨f24, _, fun_mk (st := s_read_lead) l24 c24 k24, PySem.W.mg_of X G a24, (fun_mk (st := s_read_lead) l24 c24 k24).binds fun _ _ _ _ _ _ us hl => match us, hl with | [_, _], _ => rfl⟩, ⟨f25, _, fun_mk (st := s_read_properties) l25 c25 k25, PySem.W.mg_of X G a25, (fun_mk (st := s_read_properties) l25 c25 k25).binds fun _ _ _ _ _ _ us hl => match us, hl with | [_, _], _ => rfl⟩, ⟨f26, _, fun_mk (st := s_law_draws) l26 c26 k26, PySem.W.mg_of X G a26, (fun_mk (st := s_law_draws) l26 c26 k26).binds fun _ _ _ _ _ _ us hl => match us, hl with | [_, _], _ => rfl⟩, ⟨f27, _, fun_mk (st := s_law_take) l27 c27 k27, PySem.W.mg_of X G a27, (fun_mk (st := s_law_take) l27 c27 k27).binds fun _ _ _ _ _ _ us hl => match us, hl with | [_, _], _ => rfl⟩, ⟨f28, _, fun_mk (st := s_law_leaf) l28 c28 k28, PySem.W.mg_of X G a28, (fun_mk (st := s_law_leaf) l28 c28 k28).binds fun _ _ _ _ _ _ us hl => match us, hl with | [_, _], _ => rfl⟩, ⟨f29, _, fun_mk (st := s_law_formula) l29 c29 k29, PySem.W.mg_of X G a29, (fun_mk (st := s_law_formula) l29 c29 k29).binds fun _ _ _ _ _ _ us hl => match us, hl with | [_, _, _, _], _ => rfl⟩, ⟨f30, _, fun_mk (st := s_law_print) l30 c30 k30, PySem.W.mg_of X G a30, (fun_mk (st := s_law_print) l30 c30 k30).binds fun _ _ _ _ _ _ us hl => match us, hl with | [_], _ => rfl⟩, ⟨f31, _, fun_mk (st := s_law_outcome) l31 c31 k31, PySem.W.mg_of X G a31, (fun_mk (st := s_law_outcome) l31 c31 k31).binds fun _ _ _ _ _ _ us hl => match us, hl with | [_], _ => rfl⟩, ⟨f32, _, fun_mk (st := s_law_header) l32 c32 k32, PySem.W.mg_of X G a32, (fun_mk (st := s_law_header) l32 c32 k32).binds fun _ _ _ _ _ _ us hl => match us, hl with | [_, _], _ => rfl⟩, ⟨f33, _, fun_mk (st := s_law_expected) l33 c33 k33, PySem.W.mg_of X G a33, (fun_mk (st := s_law_expected) l33 c33 k33).binds fun _ _ _ _ _ _ us hl => match us, hl with | [_, _], _ => rfl⟩, ⟨f34, _, fun_mk (st := s_law_change) l34 c34 k34, PySem.W.mg_of X G a34, (fun_mk (st := s_law_change) l34 c34 k34).binds fun _ _ _ _ _ _ us hl => match us, hl with | [_, _, _], _ => rfl⟩, PySem.W.mg_none_of X G z0, PySem.W.mg_none_of X G z1, PySem.W.mg_none_of X G z2, PySem.W.mg_none_of X G z3, PySem.W.mg_none_of X G z4, PySem.W.mg_none_of X G z5, PySem.W.mg_none_of X G z6, PySem.W.mg_none_of X G z7, PySem.W.mg_none_of X G z8, PySem.W.mg_none_of X G z9, PySem.W.mg_none_of X G z10, PySem.W.mg_none_of X G z11, ⟨⟨aQ, aN, aF, aP, aG, aA, ⟨PySem.W.mg_of X G gQa, fun H => .inr ⟨_, _, _, gQb, rfl, rfl, (show 2 ≤ sizeLine by decide), (.cons ⟨_, rfl⟩ (.cons ⟨_, rfl⟩ .nil))⟩⟩, ⟨PySem.W.mg_of X G gNa, fun H => .inr ⟨_, _, _, gNb, rfl, rfl, (show 2 ≤ sizeLine by decide), (.cons ⟨_, rfl⟩ (.cons ⟨_, rfl⟩ .nil))⟩⟩, ⟨PySem.W.mg_of X G gFa, fun H => .inr ⟨_, _, _, gFb, rfl, rfl, (show 6 ≤ sizeLine by decide), (.cons ⟨_, rfl⟩ (.cons ⟨_, rfl⟩ (.cons ⟨_, rfl⟩ (.cons ⟨_, rfl⟩ (.cons ⟨_, rfl⟩ (.cons ⟨_, rfl⟩ .nil))))))⟩⟩, ⟨PySem.W.mg_of X G gPa, fun H => .inr ⟨_, _, _, gPb, rfl, rfl, (show 6 ≤ sizeLine by decide), (.cons ⟨_, rfl⟩ (.cons ⟨_, rfl⟩ (.cons ⟨_, rfl⟩ (.cons ⟨_, rfl⟩ (.cons ⟨_, rfl⟩ (.cons ⟨_, rfl⟩ .nil))))))⟩⟩, ⟨PySem.W.mg_of X G gGa, fun H => .inr ⟨_, _, _, gGb, rfl, rfl, (show 21 ≤ sizeLine by decide), (.cons ⟨_, rfl⟩ (.cons ⟨_, rfl⟩ (.cons ⟨_, rfl⟩ (.cons ⟨_, rfl⟩ (.cons ⟨_, rfl⟩ (.cons ⟨_, rfl⟩ (.cons ⟨_, rfl⟩ (.cons ⟨_, rfl⟩ (.cons ⟨_, rfl⟩ (.cons ⟨_, rfl⟩ (.cons ⟨_, rfl⟩ (.cons ⟨_, rfl⟩ (.cons ⟨_, rfl⟩ (.cons ⟨_, rfl⟩ (.cons ⟨_, rfl⟩ (.cons ⟨_, rfl⟩ (.cons ⟨_, rfl⟩ (.cons ⟨_, rfl⟩ (.cons ⟨_, rfl⟩ (.cons ⟨_, rfl⟩ (.cons ⟨_, rfl⟩ .nil)))))))))))))))))))))⟩⟩, ⟨PySem.W.mg_of X G gAa, fun H => .inr ⟨_, _, _, gAb, rfl, rfl, (show 2 ≤ sizeLine by decide), (.cons ⟨_, rfl⟩ (.cons ⟨_, rfl⟩ .nil))⟩⟩⟩, ⟨tk1, tk2, PySem.W.mg_of X G gc, PySem.W.mg_of X G gd⟩, ⟨C, fI, fP, fT, fA, fH, fF, fU, fO, _, _, _, _, _, _, _, _, ⟨⟨yb, yc, yd, ye⟩, yf0, yf1, yf2⟩, ⟨yj, yk, yl, ym⟩, PySem.W.mg_of X G ya, fun_mk (st := s_Reader_init) yn yo yp, (fun_mk (st := s_Reader_init) yn yo yp).binds fun _ _ _ _ _ _ us hl => match us, hl with | [_, _], _ => rfl, ⟨p9a, p9b, p9p⟩, fun_mk (st := s_Reader_peek) p9n p9o p9p, (fun_mk (st := s_Reader_peek) p9n p9o p9p).binds fun _ _ _ _ _ _ us hl => match us, hl with | [_], _ => rfl, ⟨t9a, t9b, t9p⟩, fun_mk (st := s_Reader_take) t9n t9o t9p, (fun_mk (st := s_Reader_take) t9n t9o t9p).binds fun _ _ _ _ _ _ us hl => match us, hl with | [_, _], _ => rfl, ⟨a9a, a9b, a9p⟩, fun_mk (st := s_Reader_read_all) a9n a9o a9p, (fun_mk (st := s_Reader_read_all) a9n a9o a9p).binds fun _ _ _ _ _ _ us hl => match us, hl with | [_], _ => rfl, ⟨h9a, h9b, h9p⟩, fun_mk (st := s_Reader_read_hidden) h9n h9o h9p, (fun_mk (st := s_Reader_read_hidden) h9n h9o h9p).binds fun _ _ _ _ _ _ us hl => match us, hl with | [_], _ => rfl, ⟨f9a, f9b, f9p⟩, fun_mk (st := s_Reader_read_formula) f9n f9o f9p, (fun_mk (st := s_Reader_read_formula) f9n f9o f9p).binds fun _ _ _ _ _ _ us hl => match us, hl with | [_, _], _ => rfl, ⟨u9a, u9b, u9p⟩, fun_mk (st := s_Reader_read_unary) u9n u9o u9p, (fun_mk (st := s_Reader_read_unary) u9n u9o u9p).binds fun _ _ _ _ _ _ us hl => match us, hl with | [_], _ => rfl, ⟨o9a, o9b, o9p⟩, fun_mk (st := s_Reader_read_atom) o9n o9o o9p, (fun_mk (st := s_Reader_read_atom) o9n o9o o9p).binds fun _ _ _ _ _ _ us hl => match us, hl with | [_], _ => rfl⟩, ⟨aR, PySem.W.mg_of X G kra, ⟨_, _, krb, krk, krl, ⟨_, _, _, rfl, ⟨_, rfl⟩, ⟨_, rfl⟩, ⟨_, _, _, rfl, ⟨_, rfl⟩, ⟨_, rfl⟩, ⟨_, _, _, rfl, ⟨_, rfl⟩, ⟨_, rfl⟩, ⟨_, _, _, rfl, ⟨_, rfl⟩, ⟨_, rfl⟩, ⟨_, _, _, rfl, ⟨_, rfl⟩, ⟨_, rfl⟩, ⟨_, _, _, rfl, ⟨_, rfl⟩, ⟨_, rfl⟩, ⟨_, _, _, rfl, ⟨_, rfl⟩, ⟨_, rfl⟩, ⟨_, _, _, rfl, ⟨_, rfl⟩, ⟨_, rfl⟩, rfl⟩⟩⟩⟩⟩⟩⟩⟩, by decide +kernel⟩⟩, ⟨aI, PySem.W.mg_of X G kia, ⟨_, _, kib, kik, kil, ⟨_, _, _, rfl, ⟨_, rfl⟩, ⟨_, rfl⟩, ⟨_, _, _, rfl, ⟨_, rfl⟩, ⟨_, rfl⟩, ⟨_, _, _, rfl, ⟨_, rfl⟩, ⟨_, rfl⟩, ⟨_, _, _, rfl, ⟨_, rfl⟩, ⟨_, rfl⟩, ⟨_, _, _, rfl, ⟨_, rfl⟩, ⟨_, rfl⟩, ⟨_, _, _, rfl, ⟨_, rfl⟩, ⟨_, rfl⟩, ⟨_, _, _, rfl, ⟨_, rfl⟩, ⟨_, rfl⟩, ⟨_, _, _, rfl, ⟨_, rfl⟩, ⟨_, rfl⟩, ⟨_, _, _, rfl, ⟨_, rfl⟩, ⟨_, rfl⟩, rfl⟩⟩⟩⟩⟩⟩⟩⟩⟩, by decide +kernel⟩⟩, ⟨aL, PySem.W.mg_of X G lva, [bL0, bL1, bL2, bL3, bL4], rfl, (fun H => .inr ⟨_, _, _, lvb, rfl, rfl, (show 5 ≤ sizeLine by decide), (.cons rfl (.cons rfl (.cons rfl (.cons rfl (.cons rfl .nil)))))⟩), fun l hl => by
    match l, hl with
    | 0, _ => exact ⟨bL0, rfl, (fun H => .inr ⟨_, _, _, lvc0, rfl, rfl, (show 1 ≤ sizeLine by decide), (.cons ⟨_, rfl⟩ .nil)⟩)⟩
    | 1, _ => exact ⟨bL1, rfl, (fun H => .inr ⟨_, _, _, lvc1, rfl, rfl, (show 1 ≤ sizeLine by decide), (.cons ⟨_, rfl⟩ .nil)⟩)⟩
    | 2, _ => exact ⟨bL2, rfl, (fun H => .inr ⟨_, _, _, lvc2, rfl, rfl, (show 1 ≤ sizeLine by decide), (.cons ⟨_, rfl⟩ .nil)⟩)⟩
    | 3, _ => exact ⟨bL3, rfl, (fun H => .inr ⟨_, _, _, lvc3, rfl, rfl, (show 1 ≤ sizeLine by decide), (.cons ⟨_, rfl⟩ .nil)⟩)⟩
    | 4, _ => exact ⟨bL4, rfl, (fun H => .inr ⟨_, _, _, lvc4, rfl, rfl, (show 5 ≤ sizeLine by decide), (.cons ⟨_, rfl⟩ (.cons ⟨_, rfl⟩ (.cons ⟨_, rfl⟩ (.cons ⟨_, rfl⟩ (.cons ⟨_, rfl⟩ .nil)))))⟩)⟩⟩, ⟨tm1, tm2, tm3, tm4, tm5, tm6, PySem.W.mg_of X G mt0, PySem.W.mg_of X G mt1, PySem.W.mg_of X G mt2, PySem.W.mg_of X G mt3, PySem.W.mg_of X G mt4, PySem.W.mg_of X G mt5⟩, ⟨cS, CZS, fZS, _, ⟨PySem.W.mg_of X G xa, xb, xc, xd, xe, ⟨xf, xg, xh, xi, xj, xk, xl, xm⟩⟩, ⟨⟨vb, vc, vd, ve⟩, vf0, vf1, vf2, vf3, vf4, vf5⟩, ⟨vj, vk, vl, vm⟩, PySem.W.mg_of X G va, ⟨⟨ocZ, odZ, .none, .ref kDZS, dcZ, pmZ, anZ, cdZ, ctZ, slmZ, rfl, vn, vo, .inl ⟨rfl, rfl⟩, .inr ⟨kDZS, rfl, fun q hq => by rw [List.mem_singleton.mp hq]; exact ⟨_, vq, rfl⟩⟩⟩, vp⟩, ⟨⟨vb, vc, vd, ve⟩, qa, qb, qc, qd, (if_pos (beq_self_eq_true _))⟩⟩, ⟨u0, u1, u2, u3, u4, u5, u6, u7, u8, u9, PySem.W.mg_of X G vt0, PySem.W.mg_of X G vt1, PySem.W.mg_of X G vt2, PySem.W.mg_of X G vt3, PySem.W.mg_of X G vt4, PySem.W.mg_of X G vt5, PySem.W.mg_of X G vt6, PySem.W.mg_of X G vt7, PySem.W.mg_of X G vt8, PySem.W.mg_of X G vt9⟩, ⟨cTX, czd, gzd, czu, gzu, czf, gzf, czl, gzl, _, _, _, _, ⟨PySem.W.mg_of X G xxa, xxb, xxc, xxd, xxe, ⟨xxf, xxg, xxh, xxi, xxj, xxk, xxl, xxm⟩⟩, ⟨⟨⟨_, _, _, _, _, _, _, _, _, _, _, _, _, _, _, zdb, zdc⟩, zdd, zde, zdf, zdg⟩, PySem.W.mg_of X G zda, zdh, zdi, ⟨_, _, _, _, _, _, _, _, _, _, _, _, _, _, _, _, _, _, _, _, rfl, zdj, zdk, zdl, zdm, zdn, zdo, zdp, zdq⟩, zdr, hp2, hp3, zds, PySem.W.mg_none_of X G hp1⟩, ⟨zdt, zdu, zde, zdv⟩, zdw, ⟨⟨⟨_, _, _, _, _, _, _, _, _, _, _, _, _, _, _, zub, zuc⟩, zud, zue, zuf, zug⟩, PySem.W.mg_of X G zua, zuh, zui, ⟨_, _, _, _, _, _, _, _, _, _, _, _, _, _, _, _, _, _, _, _, rfl, zuj, zuk, zul, zum, zun, zuo, zup, zuq⟩, zur, hp2, hp3, zus, PySem.W.mg_none_of X G hp1⟩, ⟨zut, zuu, zue, zuv⟩, zuw, ⟨⟨⟨_, _, _, _, _, _, _, _, _, _, _, _, _, _, _, zfb, zfc⟩, zfd, zfe, zff, zfg⟩, PySem.W.mg_of X G zfa, zfh, zfi, ⟨_, _, _, _, _, _, _, _, _, _, _, _, _, _, _, _, _, _, _, _, rfl, zfj, zfk, zfl, zfm, zfn, zfo, zfp, zfq⟩, zfr, hp2, hp3, zfs, PySem.W.mg_none_of X G hp1⟩, ⟨zft, zfu, zfe, zfv⟩, zfw, ⟨⟨⟨_, _, _, _, _, _, _, _, _, _, _, _, _, _, _, zlb, zlc⟩, zld, zle, zlf, zlg⟩, PySem.W.mg_of X G zla, zlh, zli, ⟨_, _, _, _, _, _, _, _, _, _, _, _, _, _, _, _, _, _, _, _, rfl, zlj, zlk, zll, zlm, zln, zlo, zlp, zlq⟩, zlr, hp2, hp3, zls, PySem.W.mg_none_of X G hp1⟩, ⟨zlt, zlu, zle, zlv⟩, zlw, hq0, hq1, hq2, hq3, hq4, hq5, hq6, hq7, hq8⟩⟩⟩
  exact ⟨_, fun s v => .of_eq rfl, fun base _ _ => ok_law (fun_mk (st := s_law) l35 c35 k35) T⟩
end My
open PySem PySem.W PyProof.Rows
set_option maxHeartbeats 0 in
theorem PySem.Challenge.cw_reactivesynth_k48_spec_text_refused_holds : PySem.Challenge.rw_reactivesynth_k48_spec_text_refused.Holds := by
  w_on; o_law; k_head; (case hw => w_witness2)
  k_fill
  refine L2.walk_of (l := PySem.Challenge.rw_reactivesynth_k48_spec_text_refused) (n := 63) (k := 120) (x := "script") (CX := fun _ => L2.CX0) (sp := fun w => My.spLaw _) rfl (by decide) rfl ⟨rfl, by decide, by decide⟩ (fun w h Y => PySem.W.kIn_of Y) ?F (fun _ _ a ns hl _ hS => ⟨a, ns, rfl, hS, hl, fun _ => rfl⟩) (fun _ _ _ _ _ h => h)
  case F =>
    intro w mg fa h KX G hmg
    refine' My.all_mk KX G hmg ?a0 ?l0 ?c0 ?k0 ?a1 ?l1 ?c1 ?k1 ?a2 ?l2 ?c2 ?k2 ?a3 ?l3 ?c3 ?k3 ?a4 ?l4 ?c4 ?k4 ?a5 ?l5 ?c5 ?k5 ?a6 ?l6 ?c6 ?k6 ?a7 ?l7 ?c7 ?k7 ?a8 ?l8 ?c8 ?k8 ?a9 ?l9 ?c9 ?k9 ?a10 ?l10 ?c10 ?k10 ?a11 ?l11 ?c11 ?k11 ?a12 ?l12 ?c12 ?k12 ?a13 ?l13 ?c13 ?k13 ?a14 ?l14 ?c14 ?k14 ?a15 ?l15 ?c15 ?k15 ?a16 ?l16 ?c16 ?k16 ?a17 ?l17 ?c17 ?k17 ?a18 ?l18 ?c18 ?k18 ?a19 ?l19 ?c19 ?k19 ?a20 ?l20 ?c20 ?k20 ?a21 ?l21 ?c21 ?k21 ?a22 ?l22 ?c22 ?k22 ?a23 ?l23 ?c23 ?k23 ?a24 ?l24 ?c24 ?k24 ?a25 ?l25 ?c25 ?k25 ?a26 ?l26 ?c26 ?k26 ?a27 ?l27 ?c27 ?k27 ?a28 ?l28 ?c28 ?k28 ?a29 ?l29 ?c29 ?k29 ?a30 ?l30 ?c30 ?k30 ?a31 ?l31 ?c31 ?k31 ?a32 ?l32 ?c32 ?k32 ?a33 ?l33 ?c33 ?k33 ?a34 ?l34 ?c34 ?k34 ?a35 ?l35 ?c35 ?k35 ?z0 ?z1 ?z2 ?z3 ?z4 ?z5 ?z6 ?z7 ?z8 ?z9 ?z10 ?z11 ?gQa ?gQb ?gNa ?gNb ?gFa ?gFb ?gPa ?gPb ?gGa ?gGb ?gAa ?gAb ?gc ?gd ?ya ?yb ?yc ?yd ?ye ?yf0 ?yf1 ?yf2 ?yj ?yk ?yl ?ym ?yn ?yo ?yp ?p9a ?p9n ?p9o ?p9p ?p9b ?t9a ?t9n ?t9o ?t9p ?t9b ?a9a ?a9n ?a9o ?a9p ?a9b ?h9a ?h9n ?h9o ?h9p ?h9b ?f9a ?f9n ?f9o ?f9p ?f9b ?u9a ?u9n ?u9o ?u9p ?u9b ?o9a ?o9n ?o9o ?o9p ?o9b ?kra ?krb ?krk ?krl ?kia ?kib ?kik ?kil ?lva ?lvb ?lvc0 ?lvc1 ?lvc2 ?lvc3 ?lvc4 ?mt0 ?mt1 ?mt2 ?mt3 ?mt4 ?mt5 ?xa ?xb ?xc ?xd ?xe ?xf ?xg ?xh ?xi ?xj ?xk ?xl ?xm ?va ?vb ?vc ?vd ?ve ?vf0 ?vf1 ?vf2 ?vf3 ?vf4 ?vf5 ?vj ?vk ?vl ?vm ?vn ?vo ?vp ?vq ?qa ?qb ?qc ?qd ?vt0 ?vt1 ?vt2 ?vt3 ?vt4 ?vt5 ?vt6 ?vt7 ?vt8 ?vt9 ?xxa ?xxb ?xxc ?xxd ?xxe ?xxf ?xxg ?xxh ?xxi ?xxj ?xxk ?xxl ?xxm ?zda ?zdb ?zdc ?zdd ?zde ?zdf ?zdg ?zdh ?zdi ?zdj ?zdk ?zdl ?zdm ?zdn ?zdo ?zdp ?zdq ?zdr ?zds ?zdt ?zdu ?zdv ?zdw ?zua ?zub ?zuc ?zud ?zue ?zuf ?zug ?zuh ?zui ?zuj ?zuk ?zul ?zum ?zun ?zuo ?zup ?zuq ?zur ?zus ?zut ?zuu ?zuv ?zuw ?zfa ?zfb ?zfc ?zfd ?zfe ?zff ?zfg ?zfh ?zfi ?zfj ?zfk ?zfl ?zfm ?zfn ?zfo ?zfp ?zfq ?zfr ?zfs ?zft ?zfu ?zfv ?zfw ?zla ?zlb ?zlc ?zld ?zle ?zlf ?zlg ?zlh ?zli ?zlj ?zlk ?zll ?zlm ?zln ?zlo ?zlp ?zlq ?zlr ?zls ?zlt ?zlu ?zlv ?zlw ?hp1 ?hp2 ?hp3 ?hq0 ?hq1 ?hq2 ?hq3 ?hq4 ?hq5 ?hq6 ?hq7 ?hq8
    (case a0 => k_is); (case l0 => k_is); (case c0 => k_is); (case k0 => k_is); (case a1 => k_is); (case l1 => k_is); (case c1 => k_is); (case k1 => k_is); (case a2 => k_is); (case l2 => k_is); (case c2 => k_is); (case k2 => k_is); (case a3 => k_is); (case l3 => k_is); (case c3 => k_is); (case k3 => k_is); (case a4 => k_is); (case l4 => k_is); (case c4 => k_is); (case k4 => k_is); (case a5 => k_is); (case l5 => k_is); (case c5 => k_is); (case k5 => k_is); (case a6 => k_is); (case l6 => k_is); (case c6 => k_is); (case k6 => k_is); (case a7 => k_is); (case l7 => k_is); (case c7 => k_is); (case k7 => k_is); (case a8 => k_is); (case l8 => k_is); (case c8 => k_is); (case k8 => k_is); (case a9 => k_is); (case l9 => k_is); (case c9 => k_is); (case k9 => k_is); (case a10 => k_is); (case l10 => k_is); (case c10 => k_is); (case k10 => k_is); (case a11 => k_is); (case l11 => k_is); (case c11 => k_is); (case k11 => k_is); (case a12 => k_is); (case l12 => k_is); (case c12 => k_is); (case k12 => k_is); (case a13 => k_is); (case l13 => k_is); (case c13 => k_is); (case k13 => k_is); (case a14 => k_is); (case l14 => k_is); (case c14 => k_is); (case k14 => k_is); (case a15 => k_is); (case l15 => k_is); (case c15 => k_is); (case k15 => k_is); (case a16 => k_is); (case l16 => k_is); (case c16 => k_is); (case k16 => k_is); (case a17 => k_is); (case l17 => k_is); (case c17 => k_is); (case k17 => k_is); (case a18 => k_is); (case l18 => k_is); (case c18 => k_is); (case k18 => k_is); (case a19 => k_is); (case l19 => k_is); (case c19 => k_is); (case k19 => k_is); (case a20 => k_is); (case l20 => k_is); (case c20 => k_is); (case k20 => k_is); (case a21 => k_is); (case l21 => k_is); (case c21 => k_is); (case k21 => k_is); (case a22 => k_is); (case l22 => k_is); (case c22 => k_is); (case k22 => k_is); (case a23 => k_is); (case l23 => k_is); (case c23 => k_is); (case k23 => k_is); (case a24 => k_is); (case l24 => k_is); (case c24 => k_is); (case k24 => k_is); (case a25 => k_is); (case l25 => k_is); (case c25 => k_is); (case k25 => k_is); (case a26 => k_is); (case l26 => k_is); (case c26 => k_is); (case k26 => k_is); (case a27 => k_is); (case l27 => k_is); (case c27 => k_is); (case k27 => k_is); (case a28 => k_is); (case l28 => k_is); (case c28 => k_is); (case k28 => k_is); (case a29 => k_is); (case l29 => k_is); (case c29 => k_is); (case k29 => k_is); (case a30 => k_is); (case l30 => k_is); (case c30 => k_is); (case k30 => k_is); (case a31 => k_is); (case l31 => k_is); (case c31 => k_is); (case k31 => k_is); (case a32 => k_is); (case l32 => k_is); (case c32 => k_is); (case k32 => k_is); (case a33 => k_is); (case l33 => k_is); (case c33 => k_is); (case k33 => k_is); (case a34 => k_is); (case l34 => k_is); (case c34 => k_is); (case k34 => k_is); (case a35 => k_is); (case l35 => k_is); (case c35 => k_is); (case k35 => k_is); (case z0 => k_is); (case z1 => k_is); (case z2 => k_is); (case z3 => k_is); (case z4 => k_is); (case z5 => k_is); (case z6 => k_is); (case z7 => k_is); (case z8 => k_is); (case z9 => k_is); (case z10 => k_is); (case z11 => k_is); (case gQa => k_is); (case gQb => k_is); (case gNa => k_is); (case gNb => k_is); (case gFa => k_is); (case gFb => k_is); (case gPa => k_is); (case gPb => k_is); (case gGa => k_is); (case gGb => k_is); (case gAa => k_is); (case gAb => k_is); (case gc => k_is); (case gd => k_is); (case ya => k_is); (case yb => k_is); (case yc => k_is); (case yd => k_is); (case ye => k_is); (case yf0 => k_is); (case yf1 => k_is); (case yf2 => k_is); (case yj => k_is); (case yk => k_is); (case yl => k_is); (case ym => k_is); (case yn => k_is); (case yo => k_is); (case yp => k_is); (case p9a => k_is); (case p9n => k_is); (case p9o => k_is); (case p9p => k_is); (case p9b => k_is); (case t9a => k_is); (case t9n => k_is); (case t9o => k_is); (case t9p => k_is); (case t9b => k_is); (case a9a => k_is); (case a9n => k_is); (case a9o => k_is); (case a9p => k_is); (case a9b => k_is); (case h9a => k_is); (case h9n => k_is); (case h9o => k_is); (case h9p => k_is); (case h9b => k_is); (case f9a => k_is); (case f9n => k_is); (case f9o => k_is); (case f9p => k_is); (case f9b => k_is); (case u9a => k_is); (case u9n => k_is); (case u9o => k_is); (case u9p => k_is); (case u9b => k_is); (case o9a => k_is); (case o9n => k_is); (case o9o => k_is); (case o9p => k_is); (case o9b => k_is); (case kra => k_is); (case krb => k_is); (case krk => k_keys); (case krl => first | rfl | decide | k_is); (case kia => k_is); (case kib => k_is); (case kik => k_keys); (case kil => first | rfl | decide | k_is); (case lva => k_is); (case lvb => k_is); (case lvc0 => k_is); (case lvc1 => k_is); (case lvc2 => k_is); (case lvc3 => k_is); (case lvc4 => k_is); (case mt0 => k_is); (case mt1 => k_is); (case mt2 => k_is); (case mt3 => k_is); (case mt4 => k_is); (case mt5 => k_is); (case xa => first | rfl | k_is); (case xb => first | k_exc | rfl | k_is); (case xc => first | rfl | k_is); (case xd => first | rfl | k_is); (case xe => first | rfl | k_is); (case xf => first | rfl | k_is); (case xg => first | rfl | k_is); (case xh => first | rfl | k_is); (case xi => first | rfl | k_is); (case xj => first | rfl | k_is); (case xk => first | rfl | k_is); (case xl => first | rfl | k_is); (case xm => first | rfl | k_is); (case va => k_is); (case vb => k_is); (case vc => k_is); (case vd => k_is); (case ve => k_is); (case vf0 => k_is); (case vf1 => k_is); (case vf2 => k_is); (case vf3 => k_is); (case vf4 => k_is); (case vf5 => k_is); (case vj => k_is); (case vk => k_is); (case vl => k_is); (case vm => k_is); (case vn => k_is); (case vo => k_is); (case vp => k_is); (case vq => k_is); (case qa => k_is); (case qb => k_is); (case qc => k_is); (case qd => k_is); (case vt0 => k_is); (case vt1 => k_is); (case vt2 => k_is); (case vt3 => k_is); (case vt4 => k_is); (case vt5 => k_is); (case vt6 => k_is); (case vt7 => k_is); (case vt8 => k_is); (case vt9 => k_is); (case xxa => first | rfl | k_is); (case xxb => first | k_exc | rfl | k_is); (case xxc => first | rfl | k_is); (case xxd => first | rfl | k_is); (case xxe => first | rfl | k_is); (case xxf => first | rfl | k_is); (case xxg => first | rfl | k_is); (case xxh => first | rfl | k_is); (case xxi => first | rfl | k_is); (case xxj => first | rfl | k_is); (case xxk => first | rfl | k_is); (case xxl => first | rfl | k_is); (case xxm => first | rfl | k_is); (case zda => k_is); (case zdb => k_is); (case zdc => first | rfl | decide | k_is); (case zdd => k_is); (case zde => k_is); (case zdf => k_is); (case zdg => k_is); (case zdh => k_is); (case zdi => k_is); (case zdj => k_is); (case zdk => k_is); (case zdl => k_is); (case zdm => first | rfl | k_is); (case zdn => first | rfl | decide +kernel); (case zdo => k_is); (case zdp => k_is); (case zdq => first | kernel_rfl | rfl | decide +kernel); (case zdr => k_is); (case zds => k_is); (case zdt => k_is); (case zdu => k_is); (case zdv => k_is); (case zdw => k_is); (case zua => k_is); (case zub => k_is); (case zuc => first | rfl | decide | k_is); (case zud => k_is); (case zue => k_is); (case zuf => k_is); (case zug => k_is); (case zuh => k_is); (case zui => k_is); (case zuj => k_is); (case zuk => k_is); (case zul => k_is); (case zum => first | rfl | k_is); (case zun => first | rfl | decide +kernel); (case zuo => k_is); (case zup => k_is); (case zuq => first | kernel_rfl | rfl | decide +kernel); (case zur => k_is); (case zus => k_is); (case zut => k_is); (case zuu => k_is); (case zuv => k_is); (case zuw => k_is); (case zfa => k_is); (case zfb => k_is); (case zfc => first | rfl | decide | k_is); (case zfd => k_is); (case zfe => k_is); (case zff => k_is); (case zfg => k_is); (case zfh => k_is); (case zfi => k_is); (case zfj => k_is); (case zfk => k_is); (case zfl => k_is); (case zfm => first | rfl | k_is); (case zfn => first | rfl | decide +kernel); (case zfo => k_is); (case zfp => k_is); (case zfq => first | kernel_rfl | rfl | decide +kernel); (case zfr => k_is); (case zfs => k_is); (case zft => k_is); (case zfu => k_is); (case zfv => k_is); (case zfw => k_is); (case zla => k_is); (case zlb => k_is); (case zlc => first | rfl | decide | k_is); (case zld => k_is); (case zle => k_is); (case zlf => k_is); (case zlg => k_is); (case zlh => k_is); (case zli => k_is); (case zlj => k_is); (case zlk => k_is); (case zll => k_is); (case zlm => first | rfl | k_is); (case zln => first | rfl | decide +kernel); (case zlo => k_is); (case zlp => k_is); (case zlq => first | kernel_rfl | rfl | decide +kernel); (case zlr => k_is); (case zls => k_is); (case zlt => k_is); (case zlu => k_is); (case zlv => k_is); (case zlw => k_is); (case hp1 => k_is); (case hp2 => first | rfl | decide +kernel); (case hp3 => k_is); (case hq0 => first | k_is | rfl | decide +kernel); (case hq1 => first | k_is | rfl | decide +kernel); (case hq2 => first | k_is | rfl | decide +kernel); (case hq3 => first | k_is | rfl | decide +kernel); (case hq4 => first | k_is | rfl | decide +kernel); (case hq5 => first | k_is | rfl | decide +kernel); (case hq6 => first | k_is | rfl | decide +kernel); (case hq7 => first | k_is | rfl | decide +kernel); (case hq8 => first | k_is | rfl | decide +kernel)
