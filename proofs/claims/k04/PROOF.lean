import PyProof.Rows.All
import Wide.All
import OpenK.AllK
import Wide.FinOn
import HandS.ForMost
import HandS.Codes
import HandS.IsInst
import PySem.Challenge.RW_reactivesynth_k04_first_difference
set_option Elab.async false
set_option linter.all false
set_option maxRecDepth 100000
set_option maxHeartbeats 4000000
namespace Bx
open PySem PySem.Spec PyProof.Rows L2
/-! ### rules over the written part by its name -/
section
variable {X : Cx} {K : PySem.W.Frag}
theorem ix_tupK (h : X.K = K) : IxR X (rIxT K) := h ▸ ix_tup
theorem ix_listK (h : X.K = K) : IxR X (rIxL K) := h ▸ ix_list
theorem ix_seqK (h : X.K = K) : IxR X (rIx K) := h ▸ ix_seq
def rLen (K : PySem.W.Frag) : List V → Hp → VK → Prop := fun xs H Q => ∃ (p : Addr) (ys : List V), xs = [.ref p] ∧ (SqL K H p ys ∨ SqT K H p ys) ∧ Q (.int ys.length) H
theorem call_lenK (h : X.K = K) : CallR X (.builtin "len") (rLen K) := by
  subst h
  exact call_len_seq
def rTupOf (K : PySem.W.Frag) : List V → Hp → VK → Prop := fun xs H Q => ∃ (p : Addr) (ys : List V), xs = [.ref p] ∧ ((SqL K H p ys ∧ ∀ l, H l = none → Q (.ref l) (upd H l (.tup ys))) ∨ (SqT K H p ys ∧ Q (.ref p) H))
theorem call_tuple_ofK (h : X.K = K) : CallR X (.type "tuple") (rTupOf K) := by
  subst h
  exact call_tuple_of
def rLstOf (K : PySem.W.Frag) : List V → Hp → VK → Prop := fun xs H Q => ∃ (p : Addr) (ys : List V), xs = [.ref p] ∧ (SqL K H p ys ∨ SqT K H p ys) ∧ ∀ l, H l = none → Q (.ref l) (upd H l (.lst ys))
theorem call_list_ofK (h : X.K = K) : CallR X (.type "list") (rLstOf K) := by
  subst h
  exact call_list_of
end
end Bx
/-! ### heaps: what one list at d may lose, all else as it was -/
namespace Bx
open PySem PySem.Spec PyProof.Rows L2
def Kp (d : Addr) (H H' : Hp) : Prop := ∀ b o, b ≠ d → H b = some o → H' b = some o
theorem Kp.refl (d : Addr) (H : Hp) : Kp d H H := fun _ _ _ h => h
theorem Kp.trans {d : Addr} {H H1 H2 : Hp} (a : Kp d H H1) (b : Kp d H1 H2) : Kp d H H2 := fun c o n h => b c o n (a c o n h)
theorem Same.kp {d : Addr} {H H' : Hp} (s : Same H H') : Kp d H H' := fun b o _ h => s b o h
theorem Kp.own {d : Addr} {H : Hp} {o : HO} : Kp d H (upd H d o) := fun b _ n h => by rw [upd_ne n]; exact h
theorem same_new {H : Hp} {p : Addr} {o : HO} (h : H p = none) : Same H (upd H p o) := fun b x e => by
  rw [upd_ne (ne_of_none e h)]
  exact e
theorem Kp.new {d p : Addr} {H : Hp} {o : HO} (h : H p = none) : Kp d H (upd H p o) := Same.kp (same_new h)
theorem upd_self {H : Hp} {d : Addr} {o : HO} (h : H d = some o) : upd H d o = H := by
  funext b
  by_cases e : b = d
  · rw [e, upd_same, h]
  · rw [upd_ne e]
/-- a list of ints at d -/
def Ints (H : Hp) (d : Addr) (xs : List Int) : Prop := H d = some (.lst (xs.map V.int))
/-- the draws: some list of ints -/
def Drw (H : Hp) (d : Addr) : Prop := ∃ ds : List Int, H d = some (.lst (ds.map V.int))
theorem Drw.new {H : Hp} {d p : Addr} {o : HO} (h : Drw H d) (n : H p = none) : Drw (upd H p o) d := by
  obtain ⟨ds, e⟩ := h
  exact ⟨ds, same_new n _ _ e⟩
theorem Drw.own {H : Hp} {d : Addr} {ds : List Int} : Drw (upd H d (.lst (ds.map V.int))) d := ⟨ds, upd_same⟩
theorem Drw.same {H H' : Hp} {d : Addr} (h : Drw H d) (s : Same H H') : Drw H' d := by
  obtain ⟨ds, e⟩ := h
  exact ⟨ds, s _ _ e⟩
/-- a tuple of ints -/
def TupI (H : Hp) (a : Addr) (xs : List Int) : Prop := H a = some (.tup (xs.map V.int))
theorem Drw.ne_tup {H : Hp} {d a : Addr} {xs : List V} (h : Drw H d) (e : H a = some (.tup xs)) : a ≠ d := by
  obtain ⟨ds, e2⟩ := h
  exact ne_of e e2 (by intro z; cases z)
/-- a lasso: a pair of tuples of ints -/
def Las (H : Hp) (p : Addr) (h l : List Int) : Prop := ∃ a b, H p = some (.tup [.ref a, .ref b]) ∧ H a = some (.tup (h.map V.int)) ∧ H b = some (.tup (l.map V.int))
theorem Las.keep {H H' : Hp} {d p : Addr} {h l : List Int} (k : Kp d H H') (w : Drw H d) (x : Las H p h l) : Las H' p h l := by
  obtain ⟨a, b, e1, e2, e3⟩ := x
  exact ⟨a, b, k _ _ (w.ne_tup e1) e1, k _ _ (w.ne_tup e2) e2, k _ _ (w.ne_tup e3) e3⟩
theorem Las.same {H H' : Hp} {p : Addr} {h l : List Int} (k : Same H H') (x : Las H p h l) : Las H' p h l := by
  obtain ⟨a, b, e1, e2, e3⟩ := x
  exact ⟨a, b, k _ _ e1, k _ _ e2, k _ _ e3⟩
theorem lenI {xs : List Int} (h : xs.length ≤ 1000000) : (xs.map V.int).length < sizeLine := by
  rw [List.length_map]
  exact Nat.lt_of_le_of_lt h (by decide)
theorem ixN_at {n j : Nat} (h : j < n) : ixN n (j : Int) = some j := by
  unfold ixN
  rw [if_pos (by omega), if_pos (by omega)]
  rfl
theorem set_mapI {xs : List Int} {j : Nat} {v : Int} : (xs.map V.int).set j (.int v) = (xs.set j v).map V.int := by rw [List.map_set]
/-! ### the letters of a word -/
def wat (h l : List Int) (t : Nat) : Int := if t < h.length then h.getD t 0 else l.getD ((t - h.length) % l.length) 0
theorem wat_head {h l : List Int} {t : Nat} (c : t < h.length) : (h.map V.int)[t]? = some (.int (wat h l t)) := by
  unfold wat
  rw [if_pos c, List.getElem?_map, List.getElem?_eq_getElem c, List.getD_eq_getElem?_getD, List.getElem?_eq_getElem c]
  rfl
theorem wat_loop {h l : List Int} {t : Nat} (c : ¬ t < h.length) (n : l ≠ []) : (l.map V.int)[(t - h.length) % l.length]? = some (.int (wat h l t)) := by
  have hl : 0 < l.length := List.length_pos_iff.mpr n
  have c2 : (t - h.length) % l.length < l.length := Nat.mod_lt _ hl
  unfold wat
  rw [if_neg c, List.getElem?_map, List.getElem?_eq_getElem c2, List.getD_eq_getElem?_getD, List.getElem?_eq_getElem c2]
  rfl
theorem ix_mod {t n m : Nat} (h : n ≤ t) : ((t : Int) - (n : Int)) % (m : Int) = (((t - n) % m : Nat) : Int) := by
  have e : ((t : Int) - (n : Int)) = ((t - n : Nat) : Int) := by omega
  rw [e]
  rfl
/-! ### promises of the helpers -/
def spTake : Sp := fun vs H Q _ => ∃ (d : Addr) (n : Int), vs = [.ref d, .int n] ∧ Drw H d ∧ 0 < n ∧
  ∀ (r : Int) (ds : List Int), 0 ≤ r → r < n → Q (.int r) (upd H d (.lst (ds.map V.int)))
def spDraws (K : PySem.W.Frag) : Sp := fun vs H Q _ => ∃ (a : Addr) (ns : List Int) (c : Nat), vs = [.ref a, .int c] ∧ SqL K H a (ns.map V.int) ∧ c ≤ 1000 ∧
  ∀ (H' : Hp) (d : Addr), Same H H' → H d = none → Drw H' d → Q (.ref d) H'
def spAt : Sp := fun vs H Q _ => ∃ (p : Addr) (h l : List Int) (t : Nat), vs = [.ref p, .int t] ∧ Las H p h l ∧ l ≠ [] ∧ Q (.int (wat h l t)) H
def spLasso : Sp := fun vs H Q _ => ∃ (d : Addr) (n : Int) (m : Nat), vs = [.ref d, .int n, .int m] ∧ Drw H d ∧ 0 < n ∧ 0 < m ∧ m ≤ 1000 ∧
  ∀ (H' : Hp) (p : Addr) (h l : List Int), Kp d H H' → Drw H' d → Las H' p h l → h.length ≤ m → l ≠ [] → l.length ≤ m → (∀ x ∈ h, 0 ≤ x ∧ x < n) → (∀ x ∈ l, 0 ≤ x ∧ x < n) → Q (.ref p) H'
/-- v says where f and g first differ below n -/
def IsDiff (f g : Nat → Int) (n : Nat) (v : V) : Prop := (v = .non ∧ ∀ t < n, f t = g t) ∨ ∃ t, t < n ∧ v = .int (t : Nat) ∧ f t ≠ g t ∧ ∀ s < t, f s = g s
theorem IsDiff.uniq {f g : Nat → Int} {n : Nat} {v u : V} (a : IsDiff f g n v) (b : IsDiff f g n u) : v = u := by
  rcases a with ⟨rfl, a⟩ | ⟨t, ht, rfl, a1, a2⟩
  · rcases b with ⟨rfl, b⟩ | ⟨s, hs, rfl, b1, b2⟩
    · rfl
    · exact absurd (a s hs) b1
  · rcases b with ⟨rfl, b⟩ | ⟨s, hs, rfl, b1, b2⟩
    · exact absurd (b t ht) a1
    · rcases Nat.lt_trichotomy t s with c | c | c
      · exact absurd (b2 t c) a1
      · rw [c]
      · exact absurd (a2 s c) b1
theorem IsDiff.swap {f g : Nat → Int} {n : Nat} {v : V} (a : IsDiff f g n v) : IsDiff g f n v := by
  rcases a with ⟨rfl, a⟩ | ⟨t, ht, rfl, a1, a2⟩
  · exact .inl ⟨rfl, fun t h => (a t h).symm⟩
  · exact .inr ⟨t, ht, rfl, a1.symm, fun s h => (a2 s h).symm⟩
def dfn (h1 l1 h2 l2 : List Int) : Nat := max h1.length h2.length + l1.length + l2.length
def spFd : Sp := fun vs H Q _ => ∃ (p q : Addr) (h1 l1 h2 l2 : List Int), vs = [.ref p, .ref q] ∧ Las H p h1 l1 ∧ Las H q h2 l2 ∧ l1 ≠ [] ∧ l2 ≠ [] ∧ dfn h1 l1 h2 l2 ≤ 1000000 ∧
  ∀ v, IsDiff (wat h1 l1) (wat h2 l2) (dfn h1 l1 h2 l2) v → Q v H
theorem max_if (a b : Nat) : (if ((b : Nat) : Int) > (a : Int) then (b : Int) else (a : Int)) = ((max a b : Nat) : Int) := by
  by_cases h : ((b : Nat) : Int) > (a : Int)
  · rw [if_pos h]
    omega
  · rw [if_neg h]
    omega
def spIsInt : Sp := fun vs H Q _ => ∃ (i : Int), vs = [.int i] ∧ Q (.bl true) H
end Bx
local macro_rules | `(tactic| walk_at "bx") => `(tactic| repeat (first
  | refine ⟨_, rfl, ?_⟩
  | refine ⟨_, _, rfl, rfl, ?_⟩
  | refine ⟨rfl, ?_⟩
  | refine Or.inl ⟨_, rfl, ?_⟩
  | refine ⟨Or.inr ⟨by decide, by decide⟩, ?_⟩
  | refine ⟨Or.inl ⟨by decide, by decide⟩, ?_⟩
  | refine ⟨(show (0 : Int) < _ by decide), ?_⟩
  | refine ⟨⟨by decide, by decide⟩, ?_⟩
  | refine ⟨_, _, rfl, Or.inl (L2.SqL.of (by assumption)), ?_⟩
  | refine ⟨_, _, rfl, Or.inr (L2.SqT.of (by assumption)), ?_⟩
  | refine ⟨Or.inl ⟨rfl, _, L2.SqL.of (by assumption)⟩, ?_⟩
  | refine ⟨_, _, _, rfl, rfl, (by assumption), ?_⟩
  | refine ⟨_, _, rfl, rfl, (by assumption), ?_⟩
  | refine ⟨_, _, _, _, rfl, rfl, L2.SqT.of (by assumption), (by assumption), ?_⟩
  | refine ⟨_, _, _, _, rfl, rfl, L2.SqL.of (by assumption), (by assumption), ?_⟩
  | refine And.intro (by assumption) ?_))

namespace My
open PySem PySem.Spec PyProof.Rows L2 Bx
def topS (i : Nat) : Stmt := PySem.Challenge.pw_reactivesynth_k04_first_difference.main.body.getD i (.Pass ⟨0, 0, 0, 0⟩)
abbrev s_letter_at : Stmt := topS 4
abbrev N_letter_at : List Str := ["lasso", "turn", "head", "loop"]
theorem sc_letter_at : FnScope N_letter_at ["lasso", "turn"] (defScope s_letter_at) := ⟨rfl, rfl, rfl, by decide +kernel, rfl, by decide +kernel, by decide +kernel⟩
abbrev s_first_difference : Stmt := topS 5
abbrev N_first_difference : List Str := ["first", "second", "bound", "turn"]
theorem sc_first_difference : FnScope N_first_difference ["first", "second"] (defScope s_first_difference) := ⟨rfl, rfl, rfl, by decide +kernel, rfl, by decide +kernel, by decide +kernel⟩
abbrev s_law_draws : Stmt := topS 7
abbrev N_law_draws : List Str := ["script", "count", "cells", "found", "mixed", "k", "j", "cell", "again"]
theorem sc_law_draws : FnScope N_law_draws ["script", "count"] (defScope s_law_draws) := ⟨rfl, rfl, rfl, by decide +kernel, rfl, by decide +kernel, by decide +kernel⟩
abbrev s_law_take : Stmt := topS 8
abbrev N_law_take : List Str := ["draws", "limit"]
theorem sc_law_take : FnScope N_law_take ["draws", "limit"] (defScope s_law_take) := ⟨rfl, rfl, rfl, by decide +kernel, rfl, by decide +kernel, by decide +kernel⟩
abbrev s_law_is_integer : Stmt := topS 9
abbrev N_law_is_integer : List Str := ["actual"]
theorem sc_law_is_integer : FnScope N_law_is_integer ["actual"] (defScope s_law_is_integer) := ⟨rfl, rfl, rfl, by decide +kernel, rfl, by decide +kernel, by decide +kernel⟩
abbrev s_law_at : Stmt := topS 10
abbrev N_law_at : List Str := ["lasso", "turn"]
theorem sc_law_at : FnScope N_law_at ["lasso", "turn"] (defScope s_law_at) := ⟨rfl, rfl, rfl, by decide +kernel, rfl, by decide +kernel, by decide +kernel⟩
abbrev s_law_lasso : Stmt := topS 11
abbrev N_law_lasso : List Str := ["draws", "letters", "longest", "head", "loop", "k"]
theorem sc_law_lasso : FnScope N_law_lasso ["draws", "letters", "longest"] (defScope s_law_lasso) := ⟨rfl, rfl, rfl, by decide +kernel, rfl, by decide +kernel, by decide +kernel⟩
abbrev s_law : Stmt := topS 12
abbrev N_law : List Str := ["script", "draws", "first", "second", "copies", "moved", "heads", "loops", "at", "expected", "turn", "found", "again"]
theorem sc_law : FnScope N_law ["script"] (defScope s_law) := ⟨rfl, rfl, rfl, by decide +kernel, rfl, by decide +kernel, by decide +kernel⟩
structure Has (K : PySem.W.Frag) (mg : Str → Option Value) (x : Str) (st : Stmt) (ps : List Str) : Prop where
  ex : ∃ (f : Addr) (fd : FuncData), L2.Fun K x x st f fd ∧ mg x = some (.ref f) ∧ Binds K fd ps []
structure Txt (K : PySem.W.Frag) (mg : Str → Option Value) : Prop where
  h_letter_at : Has K mg "letter_at" s_letter_at ["lasso", "turn"]
  h_first_difference : Has K mg "first_difference" s_first_difference ["first", "second"]
  h_law_draws : Has K mg "_law_draws" s_law_draws ["script", "count"]
  h_law_take : Has K mg "_law_take" s_law_take ["draws", "limit"]
  h_law_is_integer : Has K mg "_law_is_integer" s_law_is_integer ["actual"]
  h_law_at : Has K mg "_law_at" s_law_at ["lasso", "turn"]
  h_law_lasso : Has K mg "_law_lasso" s_law_lasso ["draws", "letters", "longest"]
  z_bool : mg "bool" = none
  z_int : mg "int" = none
  z_isinstance : mg "isinstance" = none
  z_len : mg "len" = none
  z_list : mg "list" = none
  z_max : mg "max" = none
  z_range : mg "range" = none
  z_tuple : mg "tuple" = none

-- BODY
def spLaw (K : PySem.W.Frag) : Sp := fun vs H Q _ => ∃ (a : Addr) (ns : List Int), vs = [.ref a] ∧ SqL K H a (ns.map V.int) ∧ ns.length ≤ 63 ∧ ∀ H', Q (.bl true) H'
section
variable {P : Program} {w : World} {K : PySem.W.Frag} {mg : Str → Option Value} {base : Heap}
theorem cal_take (T : Txt K mg) : C8.Cal P w K mg base 1 "_law_take" spTake [] := by
  obtain ⟨f, fd, F, hm, hb⟩ := T.h_law_take
  refine ⟨f, fd, _, [], F.ok sc_law_take (fun vs H Q E h => ?_) (fun cdv A outer s H vs Q E hr h => ?_), hm, F.kp, hb, .nil⟩
  · obtain ⟨d, n, rfl, _⟩ := h
    rfl
  · obtain ⟨d, n, rfl, ⟨ds, hd⟩, hn, q⟩ := h
    refine ⟨_, (pss_cons
      (ps_if (pt_cmpR op_eq (pe_callB (call_lenK (K := K) rfl) (by rfl) T.z_len PySem.boot_len (pa_cons (pv 0) pa_nil)) pe_int (nomark _)) (pss_one
      (ps_ret pe_int)) pss_nil)
      (pss_one
      (ps_ret (pe_op op_mod (pe_callTy call_int1 (by rfl) T.z_int (by decide +kernel) (pa_cons (pe_bm0 PySem.F.plainAttrs_list PySem.F.slot_list_pop PySem.F.type_list_pop mt_pop (pv 0)) pa_nil)) (pv 1))))), ?_⟩
    walk_at "bx"
    refine ite2 (fun e => ?_) (fun e => ?_)
    · have q0 := q 0 ds (Int.le_refl 0) hn
      rw [upd_self hd] at q0
      exact q0
    · have hne : ds ≠ [] := fun z => e (by rw [z]; rfl)
      refine ⟨_, rfl, .inl ⟨rfl, _, SqL.of hd⟩, d, _, .int (ds.getLast hne), rfl, rfl, hd, ?_, ?_⟩
      · rw [List.length_map, List.getElem?_map, ← List.getLast?_eq_getElem?, List.getLast?_eq_getLast hne]
        rfl
      · walk_at "bx"
        rw [← List.map_dropLast]
        exact q _ _ (Int.emod_nonneg _ (by omega)) (Int.emod_lt_of_pos _ hn)
theorem cal_isint (T : Txt K mg) : C8.Cal P w K mg base 1 "_law_is_integer" spIsInt [] := by
  obtain ⟨f, fd, F, hm, hb⟩ := T.h_law_is_integer
  refine ⟨f, fd, _, [], F.ok sc_law_is_integer (fun vs H Q E h => ?_) (fun cdv A outer s H vs Q E hr h => ?_), hm, F.kp, hb, .nil⟩
  · obtain ⟨i, rfl, _⟩ := h
    rfl
  · obtain ⟨i, rfl, q⟩ := h
    refine ⟨_, (pss_one
      (ps_ret (pe_and (pe_callB call_isi (by rfl) T.z_isinstance (by decide +kernel) (pa_cons (pv 0) (pa_cons (pe_bltn (v := .ty "int") (by rfl) T.z_int (by decide +kernel) rfl) pa_nil))) (pe_one (pe_not (pe_callB call_isi (by rfl) T.z_isinstance (by decide +kernel) (pa_cons (pv 0) (pa_cons (pe_bltn (v := .ty "bool") (by rfl) T.z_bool (by decide +kernel) rfl) pa_nil)))))))), ?_⟩
    refine ⟨_, rfl, _, _, _, _, true, rfl, .ty "int", .base (.int i), kit_ty (by decide +kernel), true, rfl, iteT ?_⟩
    exact ⟨_, rfl, _, _, _, _, false, rfl, .ty "bool", .base (.int i), kit_ty (by decide +kernel), false, rfl, q⟩
theorem cal_draws (T : Txt K mg) : C8.Cal P w K mg base 1 "_law_draws" (spDraws K) [] := by
  obtain ⟨f, fd, F, hm, hb⟩ := T.h_law_draws
  refine ⟨f, fd, _, [], F.ok sc_law_draws (fun vs H Q E h => ?_) (fun cdv A outer s H vs Q E hr h => ?_), hm, F.kp, hb, .nil⟩
  · obtain ⟨a, ns, c, rfl, _⟩ := h
    rfl
  · obtain ⟨a, ns, n, rfl, hS, hn, q⟩ := h
    refine ⟨_, (pss_cons
      (ps_set (i := 2) sc_law_draws.nd rfl (Or.inl rfl) (pe_callTy (call_list_ofK (K := K) rfl) (by rfl) T.z_list (by decide +kernel) (pa_cons (pv 0) pa_nil)))
      (C8.pss_cut
      (ps_if (pt_cmpR op_eq (pe_callB (call_lenK (K := K) rfl) (by rfl) T.z_len PySem.boot_len (pa_cons (pv 2) pa_nil)) pe_int (nomark _)) (pss_one
      (ps_set (i := 2) sc_law_draws.nd rfl (Or.inl rfl) (pe_lst (pa_cons pe_int pa_nil)))) pss_nil)
      (pss_cons
      (ps_set (i := 3) sc_law_draws.nd rfl (Or.inl rfl) (pe_lst pa_nil))
      (pss_cons
      (ps_set (i := 4) sc_law_draws.nd rfl (Or.inl rfl) pe_int)
      (pss_cons
      (ps_for PassesOwn.never rfl (pi_range1 (by rfl) T.z_range (pa_cons (pv 1) pa_nil)) (pg_name (i := 5) sc_law_draws.nd rfl (.inl rfl)) (pss_cons
      (ps_set (i := 6) sc_law_draws.nd rfl (Or.inl rfl) (pe_op op_mod (pv 5) (pe_callB (call_lenK (K := K) rfl) (by rfl) T.z_len PySem.boot_len (pa_cons (pv 2) pa_nil))))
      (pss_cons
      (ps_set (i := 7) sc_law_draws.nd rfl (Or.inl rfl) (pe_ix (ix_listK (K := K) rfl) (pv 2) (pv 6) (fun _ _ => rfl)))
      (pss_cons
      (ps_set (i := 4) sc_law_draws.nd rfl (Or.inl rfl) (pe_op op_mod (pe_callTy call_int1 (by rfl) T.z_int (by decide +kernel) (pa_cons (pe_op op_add (pe_op op_add (pe_op op_add (pe_op op_mul (pv 4) pe_int) (pe_op op_mul (pe_op op_mod (pe_callTy call_int1 (by rfl) T.z_int (by decide +kernel) (pa_cons (pv 7) pa_nil)) pe_int) pe_int)) (pe_op op_mul (pv 5) pe_int)) pe_int) pa_nil)) pe_int))
      (pss_cons
      (ps_set (i := 8) sc_law_draws.nd rfl (Or.inl rfl) (pe_op op_mod (pe_callTy call_int1 (by rfl) T.z_int (by decide +kernel) (pa_cons (pe_op op_add (pe_op op_add (pe_op op_mul (pv 4) (pv 4)) (pe_op op_mul pe_int (pv 4))) (pv 5)) pa_nil)) pe_int))
      (pss_one
      (ps_if (pt_cmpR op_ge (pv 7) (pe_op op_pow pe_int pe_int) (nomark _)) (pss_cons
      (ps_expr (pe_bm PySem.F.plainAttrs_list PySem.F.slot_list_append PySem.F.type_list_append mt_append (pv 3) (pa_cons (pe_op op_mod (pe_callTy call_int1 (by rfl) T.z_int (by decide +kernel) (pa_cons (pv 7) pa_nil)) pe_int) pa_nil)))
      (pss_one
      (ps_asg (pe_op op_fdiv (pv 7) pe_int) (pg_sub (pv 2) (pv 6) set_list)))) (pss_one
      (ps_expr (pe_bm PySem.F.plainAttrs_list PySem.F.slot_list_append PySem.F.type_list_append mt_append (pv 3) (pa_cons (pe_op op_mod (pe_callTy call_int1 (by rfl) T.z_int (by decide +kernel) (pa_cons (pv 8) pa_nil)) pe_int) pa_nil)))))))))))
      (pss_cons
      (ps_expr (pe_bm0 PySem.F.plainAttrs_list PySem.F.slot_list_reverse PySem.F.type_list_reverse mt_reverse (pv 3)))
      (pss_one
      (ps_ret (pv 3))))))))), ?_⟩
    -- cells = list(script)
    refine ⟨_, rfl, a, _, rfl, .inl hS, fun l hl => ?_⟩
    -- if len(cells) == 0: cells = [7]
    refine ⟨fun σ H2 => ∃ (c : Addr) (cs : List Int), σ = [some (.ref a), some (.int n), some (.ref c), none, none, none, none, none, none] ∧ H c = none ∧ Same H H2 ∧ H2 c = some (.lst (cs.map V.int)) ∧ cs ≠ [], ?_, ?_⟩
    · have h0 : (upd H l (.lst (ns.map V.int))) l = some (.lst (ns.map V.int)) := upd_same
      walk_at "bx"
      refine ite2 (fun e => ?_) (fun e => ?_)
      · refine ⟨by show 1 ≤ sizeLine; decide, fun l2 h2 => ?_⟩
        have s1 : Same H (upd H l (.lst (ns.map V.int))) := same_new hl
        exact ⟨l2, [7], rfl, s1.free h2, s1.trans (same_new h2), upd_same, by decide⟩
      · exact ⟨l, ns, rfl, hl, same_new hl, upd_same, fun z => e (by rw [z]; rfl)⟩
    · rintro σ H2 ⟨c, cs, rfl, hc0, s2, hc, hcs⟩
      -- found = [], mixed = 12345
      refine ⟨Nat.zero_le _, fun o ho => ?_⟩
      have hco : c ≠ o := ne_of_none hc ho
      have ho0 : H o = none := s2.free ho
      -- for k in range(count)
      refine ⟨_, rfl, _, rfl, by omega, by omega, for_range (lo := 0) (n := ((n : Int)).toNat) (fun i σ H3 => ∃ (m : Int) (cs fs : List Int) (v5 v6 v7 v8 : Option V), σ = [some (.ref a), some (.int n), some (.ref c), some (.ref o), some (.int m), v5, v6, v7, v8] ∧ 0 ≤ m ∧ m < 2147483647 ∧ Same H H3 ∧ H3 c = some (.lst (cs.map V.int)) ∧ cs ≠ [] ∧ H3 o = some (.lst (fs.map V.int)) ∧ fs.length ≤ i)
        ⟨12345, cs, [], none, none, none, none, rfl, by decide, by decide, s2.trans (same_new ho), by rw [upd_ne hco]; exact hc, hcs, upd_same, Nat.le_refl _⟩ ?_ ?_⟩
      · rintro i σ H3 hi ⟨m, cs, fs, v5, v6, v7, v8, rfl, m0, m1, s3, hc, hcs, hf, hfl⟩
        have hl : 0 < cs.length := List.length_pos_iff.mpr hcs
        obtain ⟨z, hz⟩ : ∃ z, cs[i % cs.length]? = some z := ⟨_, List.getElem?_eq_getElem (Nat.mod_lt _ hl)⟩
        have ej : ((0 : Int) + (i : Int)) % (((cs.map V.int).length : Nat) : Int) = ((i % cs.length : Nat) : Int) := by
          rw [Int.zero_add, List.length_map]
          rfl
        -- j = k % len(cells)
        walk_at "bx"
        refine ⟨(show (0 : Int) < _ by rw [List.length_map]; omega), ?_⟩
        -- cell = cells[j]
        refine ⟨_, rfl, _, rfl, c, _, _, .int z, rfl, rfl, SqL.of hc, ?_, ?_⟩
        · rw [ej]
          exact atI_nat (by rw [List.getElem?_map, hz]; rfl)
        -- mixed, again
        walk_at "bx"
        have b1 : (0 : Int) ≤ z % 1000003 := Int.emod_nonneg _ (by decide)
        refine ⟨.inl ⟨?_, ?_⟩, ?_⟩
        · have := Int.emod_nonneg (m * 48271 + z % 1000003 * 69621 + (0 + (i : Int)) * 7919 + 11) (show (2147483647 : Int) ≠ 0 by decide)
          show -(2 ^ 64) < (m * 48271 + z % 1000003 * 69621 + (0 + (i : Int)) * 7919 + 11) % 2147483647
          omega
        · have := Int.emod_lt_of_pos (m * 48271 + z % 1000003 * 69621 + (0 + (i : Int)) * 7919 + 11) (show (0 : Int) < 2147483647 by decide)
          show (m * 48271 + z % 1000003 * 69621 + (0 + (i : Int)) * 7919 + 11) % 2147483647 < 2 ^ 64
          omega
        have c0 : 0 ≤ (m * 48271 + z % 1000003 * 69621 + (0 + (i : Int)) * 7919 + 11) % 2147483647 := Int.emod_nonneg _ (by decide)
        have c1 : (m * 48271 + z % 1000003 * 69621 + (0 + (i : Int)) * 7919 + 11) % 2147483647 < 2147483647 := Int.emod_lt_of_pos _ (by decide)
        walk_at "bx"
        refine ite2 (fun e => ?_) (fun e => ?_)
        · walk_at "bx"
          refine ⟨lenI (by omega), ?_⟩
          walk_at "bx"
          refine ⟨c, cs.map V.int, _, i % cs.length, rfl, rfl, by rw [upd_ne hco]; exact hc, by rw [ej]; exact ixN_at (by rw [List.length_map]; exact Nat.mod_lt _ hl), ?_⟩
          refine ⟨_, cs.set (i % cs.length) (z / 1000), fs ++ [z % 1000], _, _, _, _, rfl, c0, c1, fun b o' hb => ?_, by rw [upd_same, set_mapI], by simpa using hcs, by rw [upd_ne hco.symm, upd_same]; simp, by simp; omega⟩
          rw [upd_ne (fun z => by rw [z, hc0] at hb; cases hb), upd_ne (fun z => by rw [z, ho0] at hb; cases hb)]
          exact s3 _ _ hb
        · walk_at "bx"
          refine ⟨lenI (by omega), ?_⟩
          refine ⟨_, cs, fs ++ [_], _, _, _, _, rfl, c0, c1, fun b o' hb => ?_, by rw [upd_ne hco]; exact hc, hcs, by rw [upd_same, List.map_append]; rfl, by simp; omega⟩
          rw [upd_ne (fun z => by rw [z, ho0] at hb; cases hb)]
          exact s3 _ _ hb
      · rintro σ H3 ⟨m, cs, fs, v5, v6, v7, v8, rfl, m0, m1, s3, hc, hcs, hf, hfl⟩
        -- found.reverse()
        walk_at "bx"
        refine q _ o (fun b o' hb => ?_) ho0 ⟨fs.reverse, ?_⟩
        · rw [upd_ne (fun z => by rw [z, ho0] at hb; cases hb)]
          exact s3 _ _ hb
        · rw [upd_same, List.map_reverse]
theorem cal_at (T : Txt K mg) : C8.Cal P w K mg base 1 "_law_at" spAt [] := by
  obtain ⟨f, fd, F, hm, hb⟩ := T.h_law_at
  refine ⟨f, fd, _, [], F.ok sc_law_at (fun vs H Q E h => ?_) (fun cdv A outer s H vs Q E hr h => ?_), hm, F.kp, hb, .nil⟩
  · obtain ⟨p, h, l, t, rfl, _⟩ := h
    rfl
  · obtain ⟨p, h, l, t, rfl, ⟨a, b, e1, e2, e3⟩, hn, q⟩ := h
    have i0 : atI [V.ref a, V.ref b] 0 = some (.ref a) := rfl
    have i1 : atI [V.ref a, V.ref b] 1 = some (.ref b) := rfl
    have hl : 0 < l.length := List.length_pos_iff.mpr hn
    refine ⟨_, (pss_cons
      (ps_if (pt_cmpR op_lt (pv 1) (pe_callB (call_lenK (K := K) rfl) (by rfl) T.z_len PySem.boot_len (pa_cons (pe_ix (ix_tupK (K := K) rfl) (pv 0) pe_int (fun _ _ => rfl)) pa_nil)) (nomark _)) (pss_one
      (ps_ret (pe_ix (ix_tupK (K := K) rfl) (pe_ix (ix_tupK (K := K) rfl) (pv 0) pe_int (fun _ _ => rfl)) (pv 1) (fun _ _ => rfl)))) pss_nil)
      (pss_one
      (ps_ret (pe_ix (ix_tupK (K := K) rfl) (pe_ix (ix_tupK (K := K) rfl) (pv 0) pe_int (fun _ _ => rfl)) (pe_op op_mod (pe_callTy call_int1 (by rfl) T.z_int (by decide +kernel) (pa_cons (pe_op op_sub (pv 1) (pe_callB (call_lenK (K := K) rfl) (by rfl) T.z_len PySem.boot_len (pa_cons (pe_ix (ix_tupK (K := K) rfl) (pv 0) pe_int (fun _ _ => rfl)) pa_nil))) pa_nil)) (pe_callB (call_lenK (K := K) rfl) (by rfl) T.z_len PySem.boot_len (pa_cons (pe_ix (ix_tupK (K := K) rfl) (pv 0) pe_int (fun _ _ => rfl)) pa_nil))) (fun _ _ => rfl))))), ?_⟩
    walk_at "bx"
    refine ite2 (fun e => ?_) (fun e => ?_)
    · have e0 : t < h.length := by
        have := of_decide_eq_true e
        rw [List.length_map] at this
        omega
      walk_at "bx"
      exact ⟨_, _, _, _, rfl, rfl, .of e2, atI_nat (wat_head e0), q⟩
    · have e0 : ¬ t < h.length := fun z => e (decide_eq_true (by rw [List.length_map]; omega))
      walk_at "bx"
      refine ⟨(show (0 : Int) < _ by rw [List.length_map]; omega), ?_⟩
      dsimp only
      rw [List.length_map, List.length_map, ix_mod (Nat.le_of_not_lt e0)]
      exact ⟨_, _, _, _, rfl, rfl, .of e3, atI_nat (wat_loop e0 hn), q⟩
theorem cal_letter (T : Txt K mg) : C8.Cal P w K mg base 1 "letter_at" spAt [] := by
  obtain ⟨f, fd, F, hm, hb⟩ := T.h_letter_at
  refine ⟨f, fd, _, [], F.ok sc_letter_at (fun vs H Q E h => ?_) (fun cdv A outer s H vs Q E hr h => ?_), hm, F.kp, hb, .nil⟩
  · obtain ⟨p, h, l, t, rfl, _⟩ := h
    rfl
  · obtain ⟨p, h, l, t, rfl, ⟨a, b, e1, e2, e3⟩, hn, q⟩ := h
    have hl : 0 < l.length := List.length_pos_iff.mpr hn
    refine ⟨_, (pss_cons
      (ps_if (pt_cmpR op_lt (pv 1) pe_int (nomark _)) (pss_one
      ps_never) pss_nil)
      (pss_cons
      (ps_asg (pv 0) (pg_tup (by rfl) (pgs_cons (pg_name (i := 2) sc_letter_at.nd rfl (.inl rfl)) (pgs_cons (pg_name (i := 3) sc_letter_at.nd rfl (.inl rfl)) pgs_nil))))
      (pss_cons
      (ps_if (pt_cmpR op_lt (pv 1) (pe_callB (call_lenK (K := K) rfl) (by rfl) T.z_len PySem.boot_len (pa_cons (pv 2) pa_nil)) (nomark _)) (pss_one
      (ps_ret (pe_ix (ix_tupK (K := K) rfl) (pv 2) (pv 1) (fun _ _ => rfl)))) pss_nil)
      (pss_one
      (ps_ret (pe_ix (ix_tupK (K := K) rfl) (pv 3) (pe_op op_mod (pe_op op_sub (pv 1) (pe_callB (call_lenK (K := K) rfl) (by rfl) T.z_len PySem.boot_len (pa_cons (pv 2) pa_nil))) (pe_callB (call_lenK (K := K) rfl) (by rfl) T.z_len PySem.boot_len (pa_cons (pv 3) pa_nil))) (fun _ _ => rfl))))))), ?_⟩
    walk_at "bx"
    refine ⟨p, _, rfl, .of e1, rfl, _, _, rfl, _, _, rfl, rfl, ?_⟩
    walk_at "bx"
    refine ite2 (fun e => ?_) (fun e => ?_)
    · have e0 : t < h.length := by
        have := of_decide_eq_true e
        rw [List.length_map] at this
        omega
      exact ⟨_, rfl, _, rfl, a, _, _, _, rfl, rfl, .of e2, atI_nat (wat_head e0), q⟩
    · have e0 : ¬ t < h.length := fun z => e (decide_eq_true (by rw [List.length_map]; omega))
      walk_at "bx"
      refine ⟨(show (0 : Int) < _ by rw [List.length_map]; omega), ?_⟩
      dsimp only
      rw [List.length_map, List.length_map, ix_mod (Nat.le_of_not_lt e0)]
      exact ⟨_, _, _, _, rfl, rfl, .of e3, atI_nat (wat_loop e0 hn), q⟩
theorem cal_fd (T : Txt K mg) : C8.Cal P w K mg base 2 "first_difference" spFd [] := by
  have C_letter_at : C8.Cal P w K mg base 1 "letter_at" spAt [] := cal_letter T
  obtain ⟨f, fd, F, hm, hb⟩ := T.h_first_difference
  refine ⟨f, fd, _, [], F.ok sc_first_difference (fun vs H Q E h => ?_) (fun cdv A outer s H vs Q E hr h => ?_), hm, F.kp, hb, .nil⟩
  · obtain ⟨p, q, h1, l1, h2, l2, rfl, _⟩ := h
    rfl
  · obtain ⟨p, q, h1, l1, h2, l2, rfl, L1, L2, n1, n2, hbd, k⟩ := h
    obtain ⟨a, b, e1, e2, e3⟩ := id L1
    obtain ⟨a', b', e1', e2', e3'⟩ := id L2
    have i0 : ∀ a b : V, atI [a, b] 0 = some a := fun _ _ => rfl
    have i1 : ∀ a b : V, atI [a, b] 1 = some b := fun _ _ => rfl
    refine ⟨_, (pss_cons
      (ps_set (i := 2) sc_first_difference.nd rfl (Or.inl rfl) (pe_op op_add (pe_op op_add (pe_callB (call_max2 rfl) (by rfl) T.z_max (by decide +kernel) (pa_cons (pe_callB (call_lenK (K := K) rfl) (by rfl) T.z_len PySem.boot_len (pa_cons (pe_ix (ix_tupK (K := K) rfl) (pv 0) pe_int (fun _ _ => rfl)) pa_nil)) (pa_cons (pe_callB (call_lenK (K := K) rfl) (by rfl) T.z_len PySem.boot_len (pa_cons (pe_ix (ix_tupK (K := K) rfl) (pv 1) pe_int (fun _ _ => rfl)) pa_nil)) pa_nil))) (pe_callB (call_lenK (K := K) rfl) (by rfl) T.z_len PySem.boot_len (pa_cons (pe_ix (ix_tupK (K := K) rfl) (pv 0) pe_int (fun _ _ => rfl)) pa_nil))) (pe_callB (call_lenK (K := K) rfl) (by rfl) T.z_len PySem.boot_len (pa_cons (pe_ix (ix_tupK (K := K) rfl) (pv 1) pe_int (fun _ _ => rfl)) pa_nil))))
      (pss_cons
      (ps_for PassesOwn.never rfl (pi_range1 (by rfl) T.z_range (pa_cons (pv 2) pa_nil)) (pg_name (i := 3) sc_first_difference.nd rfl (.inl rfl)) (pss_one
      (ps_if (pt_cmpR op_ne (C8.pe_c C_letter_at hr (by decide) (by rfl) (pa_cons (pv 0) (pa_cons (pv 3) pa_nil))) (C8.pe_c C_letter_at hr (by decide) (by rfl) (pa_cons (pv 1) (pa_cons (pv 3) pa_nil))) (nomark _)) (pss_one
      (ps_ret (pv 3))) pss_nil)))
      (pss_one
      (ps_ret pe_non)))), ?_⟩
    -- bound
    refine ⟨_, rfl, p, _, _, _, rfl, rfl, .of e1, i0 _ _, a, _, rfl, .inr (.of e2), ?_⟩
    refine ⟨_, rfl, q, _, _, _, rfl, rfl, .of e1', i0 _ _, a', _, rfl, .inr (.of e2'), ?_⟩
    refine ⟨_, _, rfl, ?_⟩
    refine ⟨_, rfl, p, _, _, _, rfl, rfl, .of e1, i1 _ _, b, _, rfl, .inr (.of e3), ?_⟩
    refine ⟨_, _, rfl, rfl, ?_⟩
    refine ⟨_, rfl, q, _, _, _, rfl, rfl, .of e1', i1 _ _, b', _, rfl, .inr (.of e3'), ?_⟩
    refine ⟨_, _, rfl, rfl, ?_⟩
    dsimp only
    rw [List.length_map, List.length_map, List.length_map, List.length_map, max_if, ← Int.natCast_add, ← Int.natCast_add]
    show tSeq _ _ _ [some (V.ref p), some (V.ref q), some (V.int ((dfn h1 l1 h2 l2 : Nat) : Int)), none] H
    generalize hd : dfn h1 l1 h2 l2 = n at *
    refine ⟨_, rfl, _, rfl, by omega, by omega, for_range (lo := 0) (n := ((n : Int)).toNat) (fun i σ H3 => ∃ v : Option V, σ = [some (.ref p), some (.ref q), some (.int (n : Int)), v] ∧ H3 = H ∧ ∀ t < i, wat h1 l1 t = wat h2 l2 t)
      ⟨none, rfl, rfl, fun t h => absurd h (Nat.not_lt_zero t)⟩ ?_ ?_⟩
    · rintro i σ H3 hi ⟨v, rfl, rfl, hall⟩
      refine ⟨_, rfl, _, rfl, p, h1, l1, i, by rw [Int.zero_add]; rfl, L1, n1, ?_⟩
      refine ⟨_, rfl, _, rfl, q, h2, l2, i, by rw [Int.zero_add]; rfl, L2, n2, ?_⟩
      walk_at "bx"
      by_cases c : wat h1 l1 i = wat h2 l2 i
      · have : (!decide (V.int (wat h1 l1 i) = V.int (wat h2 l2 i))) = false := by rw [c, decide_eq_true rfl]; rfl
        rw [this]
        refine iteF ?_
        refine ⟨_, rfl, rfl, fun t ht => ?_⟩
        rcases Nat.lt_succ_iff_lt_or_eq.mp ht with z | z
        · exact hall t z
        · rw [z]; exact c
      · have : (!decide (V.int (wat h1 l1 i) = V.int (wat h2 l2 i))) = true := by rw [decide_eq_false (fun z => c (V.int.inj z))]; rfl
        rw [this]
        refine iteT ?_
        refine ⟨_, rfl, ?_⟩
        rw [Int.zero_add]
        exact k _ (.inr ⟨i, by omega, rfl, c, hall⟩)
    · rintro σ H3 ⟨v, rfl, rfl, hall⟩
      exact k _ (.inl ⟨rfl, fun t h => hall t (by omega)⟩)
theorem cal_lasso (T : Txt K mg) : C8.Cal P w K mg base 2 "_law_lasso" spLasso [] := by
  have C_law_take : C8.Cal P w K mg base 1 "_law_take" spTake [] := cal_take T
  obtain ⟨f, fd, F, hm, hb⟩ := T.h_law_lasso
  refine ⟨f, fd, _, [], F.ok sc_law_lasso (fun vs H Q E h => ?_) (fun cdv A outer s H vs Q E hr h => ?_), hm, F.kp, hb, .nil⟩
  · obtain ⟨d, n, m, rfl, _⟩ := h
    rfl
  · obtain ⟨d, n, m, rfl, hd, hn, hm0, hm1, q⟩ := h
    refine ⟨_, (pss_cons
      (ps_setLc (i := 3) (own := [("k", 5)]) (g := gName 5) (tt := tYes) rfl sc_law_lasso.nd rfl rfl (sw_true rfl rfl rfl (by decide +kernel)) (pi_range1 (by rfl) T.z_range (pa_cons (C8.pe_c C_law_take hr (by decide) (by rfl) (pa_cons (pv 0) (pa_cons (pe_op op_add (pv 2) pe_int) pa_nil))) pa_nil)) (blkOk_by (N := N_law_lasso) (sc := defScope s_law_lasso) (by decide +kernel)) (fun _ _ _ _ _ => pg_name (i := 5) sc_law_lasso.nd rfl (Or.inl rfl)) (fun _ _ _ _ _ => pts_nil) (fun _ _ _ _ _ => (C8.pe_c C_law_take hr (by decide) (by rfl) (pa_cons (pv 0) (pa_cons (pv 1) pa_nil)))))
      (pss_cons
      (ps_setLc (i := 4) (own := [("k", 5)]) (g := gName 5) (tt := tYes) rfl sc_law_lasso.nd rfl rfl (sw_true rfl rfl rfl (by decide +kernel)) (pi_range1 (by rfl) T.z_range (pa_cons (pe_op op_add pe_int (C8.pe_c C_law_take hr (by decide) (by rfl) (pa_cons (pv 0) (pa_cons (pv 2) pa_nil)))) pa_nil)) (blkOk_by (N := N_law_lasso) (sc := defScope s_law_lasso) (by decide +kernel)) (fun _ _ _ _ _ => pg_name (i := 5) sc_law_lasso.nd rfl (Or.inl rfl)) (fun _ _ _ _ _ => pts_nil) (fun _ _ _ _ _ => (C8.pe_c C_law_take hr (by decide) (by rfl) (pa_cons (pv 0) (pa_cons (pv 1) pa_nil)))))
      (pss_one
      (ps_ret (pe_tup (pa_cons (pe_callTy (call_tuple_ofK (K := K) rfl) (by rfl) T.z_tuple (by decide +kernel) (pa_cons (pv 3) pa_nil)) (pa_cons (pe_callTy (call_tuple_ofK (K := K) rfl) (by rfl) T.z_tuple (by decide +kernel) (pa_cons (pv 4) pa_nil)) pa_nil))))))), ?_⟩
    -- head
    refine ⟨_, rfl, _, rfl, _, _, rfl, rfl, d, _, rfl, hd, by omega, fun r ds r0 r1 => ?_⟩
    refine ⟨_, rfl, by omega, by omega, fun D hD => ?_⟩
    have nDd : D ≠ d := fun z => by rw [z, upd_same] at hD; cases hD
    refine lc_range (lo := 0) (n := r.toNat) (fun i H' => ∃ xs : List Int, Kp d H H' ∧ Drw H' d ∧ H' D = some (.lst (xs.map V.int)) ∧ xs.length = i ∧ ∀ x ∈ xs, 0 ≤ x ∧ x < n)
      ⟨[], Kp.own.trans (Kp.new hD), Drw.own.new hD, upd_same, rfl, by simp⟩ ?_ ?_
    · rintro i H1 hi ⟨xs, k1, d1, e1, el, hx⟩
      refine ⟨rfl, _, rfl, _, rfl, d, _, rfl, d1, hn, fun u us u0 u1 => ?_⟩
      refine ⟨xs.map V.int, by rw [upd_ne nDd]; exact e1, lenI (by omega), xs ++ [u], ?_, ?_, ?_, ?_, ?_⟩
      · intro b o nb hb
        have nbD : b ≠ D := fun z => by
          have h0 : (upd H d (.lst (ds.map V.int))) D = none := hD
          rw [upd_ne nDd] at h0
          rw [z, h0] at hb
          cases hb
        rw [upd_ne nbD, upd_ne nb]
        exact k1 _ _ nb hb
      · exact ⟨us, by rw [upd_ne nDd.symm, upd_same]⟩
      · rw [upd_same, List.map_append]
        rfl
      · simp [el]
      · intro x hx2
        rcases List.mem_append.mp hx2 with z | z
        · exact hx x z
        · rw [List.mem_singleton.mp z]
          exact ⟨u0, u1⟩
    · rintro H1 ⟨xs, k1, d1, e1, el, hx⟩
      have hD0 : H D = none := by
        have h0 : (upd H d (.lst (ds.map V.int))) D = none := hD
        rw [upd_ne nDd] at h0
        exact h0
      -- loop
      refine ⟨_, rfl, _, rfl, d, _, rfl, d1, by omega, fun r2 ds2 r20 r21 => ?_⟩
      refine ⟨_, _, rfl, rfl, _, rfl, by omega, by omega, fun D2 hD2 => ?_⟩
      have nD2d : D2 ≠ d := fun z => by rw [z, upd_same] at hD2; cases hD2
      have hD2' : H1 D2 = none := by rw [upd_ne nD2d] at hD2; exact hD2
      have nDD : D ≠ D2 := ne_of_none e1 hD2'
      have hD20 : H D2 = none := by
        cases e : H D2 with
        | none => rfl
        | some o => rw [k1 _ _ nD2d e] at hD2'; cases hD2'
      refine lc_range (lo := 0) (n := (1 + r2).toNat) (fun i H' => ∃ ys : List Int, Kp d H H' ∧ Drw H' d ∧ H' D = some (.lst (xs.map V.int)) ∧ H' D2 = some (.lst (ys.map V.int)) ∧ ys.length = i ∧ ∀ x ∈ ys, 0 ≤ x ∧ x < n)
        ⟨[], k1.trans (Kp.own.trans (Kp.new hD2)), Drw.own.new hD2, by rw [upd_ne nDD, upd_ne nDd]; exact e1, upd_same, rfl, by simp⟩ ?_ ?_
      · rintro i H2 hi ⟨ys, k2, d2, e2, e3, el2, hy⟩
        refine ⟨rfl, _, rfl, _, rfl, d, _, rfl, d2, hn, fun u us u0 u1 => ?_⟩
        refine ⟨ys.map V.int, by rw [upd_ne nD2d]; exact e3, lenI (by omega), ys ++ [u], ?_, ?_, ?_, ?_, ?_, ?_⟩
        · intro b o nb hb
          rw [upd_ne (fun z => by rw [z, hD20] at hb; cases hb), upd_ne nb]
          exact k2 _ _ nb hb
        · exact ⟨us, by rw [upd_ne nD2d.symm, upd_same]⟩
        · rw [upd_ne nDD, upd_ne nDd]
          exact e2
        · rw [upd_same, List.map_append]
          rfl
        · simp [el2]
        · intro x hx2
          rcases List.mem_append.mp hx2 with z | z
          · exact hy x z
          · rw [List.mem_singleton.mp z]
            exact ⟨u0, u1⟩
      · rintro H2 ⟨ys, k2, d2, e2, e3, el2, hy⟩
        -- return (tuple(head), tuple(loop))
        refine ⟨_, rfl, D, _, rfl, .inl ⟨.of e2, fun a ha => ?_⟩⟩
        have e3' : (upd H2 a (.tup (xs.map V.int))) D2 = some (.lst (ys.map V.int)) := same_new ha _ _ e3
        refine ⟨_, rfl, D2, _, rfl, .inl ⟨.of e3', fun b hb => ?_⟩⟩
        refine ⟨by show 2 ≤ sizeLine; decide, fun p hp => ?_⟩
        have nab : a ≠ b := fun z => by rw [← z, upd_same] at hb; cases hb
        have nap : a ≠ p := fun z => by rw [← z, upd_ne nab, upd_same] at hp; cases hp
        have nbp : b ≠ p := fun z => by rw [← z, upd_same] at hp; cases hp
        refine q _ p xs ys (k2.trans ((Kp.new ha).trans ((Kp.new hb).trans (Kp.new hp)))) (((d2.new ha).new hb).new hp) ⟨a, b, upd_same, by rw [upd_ne nap, upd_ne nab, upd_same], by rw [upd_ne nbp, upd_same]⟩ (by omega) (fun z => ?_) (by omega) hx hy
        rw [z] at el2
        have : (0 : Nat) = (1 + r2).toNat := el2
        omega
theorem ok_law {f : Addr} {fd : FuncData} (F : L2.Fun K "law" "law" s_law f fd) (T : Txt K mg) : FnOk P w K mg base CX0 3 f fd ["script"] (spLaw K) := by
  have C_law_draws : C8.Cal P w K mg base 1 "_law_draws" (spDraws K) [] := cal_draws T
  have C_law_take : C8.Cal P w K mg base 1 "_law_take" spTake [] := cal_take T
  have C_law_lasso : C8.Cal P w K mg base 2 "_law_lasso" spLasso [] := cal_lasso T
  have C_law_at : C8.Cal P w K mg base 1 "_law_at" spAt [] := cal_at T
  have C_first_difference : C8.Cal P w K mg base 2 "first_difference" spFd [] := cal_fd T
  have C_law_is_integer : C8.Cal P w K mg base 1 "_law_is_integer" spIsInt [] := cal_isint T
  refine F.ok sc_law (fun vs H Q E h => ?_) (fun cdv A outer s H vs Q E hr h => ?_)
  · obtain ⟨a, ns, rfl, _⟩ := h
    rfl
  · obtain ⟨sa, ns, rfl, hS, hlen, q⟩ := h
    have i0 : ∀ a b : V, atI [a, b] 0 = some a := fun _ _ => rfl
    have i1 : ∀ a b : V, atI [a, b] 1 = some b := fun _ _ => rfl
    refine ⟨_, (pss_cons
      (ps_set (i := 1) sc_law.nd rfl (Or.inl rfl) (C8.pe_c C_law_draws hr (by decide) (by rfl) (pa_cons (pv 0) (pa_cons pe_int pa_nil))))
      (pss_cons
      (ps_set (i := 2) sc_law.nd rfl (Or.inr rfl) (C8.pe_c C_law_lasso hr (by decide) (by rfl) (pa_cons (pv 1) (pa_cons pe_int (pa_cons pe_int pa_nil)))))
      (pss_cons
      (ps_set (i := 3) sc_law.nd rfl (Or.inl rfl) (C8.pe_c C_law_lasso hr (by decide) (by rfl) (pa_cons (pv 1) (pa_cons pe_int (pa_cons pe_int pa_nil)))))
      (C8.pss_cut
      (ps_if (pt_cmpR op_gt (C8.pe_c C_law_take hr (by decide) (by rfl) (pa_cons (pv 1) (pa_cons pe_int pa_nil))) pe_int (nomark _)) (pss_cons
      (ps_set (i := 4) sc_law.nd rfl (Or.inl rfl) (pe_op op_add pe_int (C8.pe_c C_law_take hr (by decide) (by rfl) (pa_cons (pv 1) (pa_cons pe_int pa_nil)))))
      (pss_cons
      (ps_set (i := 5) sc_law.nd rfl (Or.inr rfl) (C8.pe_c C_law_take hr (by decide) (by rfl) (pa_cons (pv 1) (pa_cons (pe_op op_add (pe_op op_mul pe_int (pe_callB (call_lenK (K := K) rfl) (by rfl) T.z_len PySem.boot_len (pa_cons (pe_ix (ix_tupK (K := K) rfl) (pv 2) pe_int (fun _ _ => rfl)) pa_nil))) pe_int) pa_nil))))
      (pss_cons
      (ps_setLc (i := 6) (own := [("turn", 10)]) (g := gName 10) (tt := tYes) rfl sc_law.nd rfl rfl (sw_true rfl rfl rfl (by decide +kernel)) (pi_range1 (by rfl) T.z_range (pa_cons (pe_op op_add (pe_callB (call_lenK (K := K) rfl) (by rfl) T.z_len PySem.boot_len (pa_cons (pe_ix (ix_tupK (K := K) rfl) (pv 2) pe_int (fun _ _ => rfl)) pa_nil)) (pv 5)) pa_nil)) (blkOk_by (N := N_law) (sc := defScope s_law) (by decide +kernel)) (fun _ _ _ _ _ => pg_name (i := 10) sc_law.nd rfl (Or.inl rfl)) (fun _ _ _ _ _ => pts_nil) (fun _ _ _ _ _ => (C8.pe_c C_law_at hr (by decide) (by rfl) (pa_cons (pv 2) (pa_cons (pv 10) pa_nil)))))
      (pss_cons
      (ps_setLc (i := 7) (own := [("turn", 10)]) (g := gName 10) (tt := tYes) rfl sc_law.nd rfl rfl (sw_true rfl rfl rfl (by decide +kernel)) (pi_range1 (by rfl) T.z_range (pa_cons (pe_op op_mul (pv 4) (pe_callB (call_lenK (K := K) rfl) (by rfl) T.z_len PySem.boot_len (pa_cons (pe_ix (ix_tupK (K := K) rfl) (pv 2) pe_int (fun _ _ => rfl)) pa_nil))) pa_nil)) (blkOk_by (N := N_law) (sc := defScope s_law) (by decide +kernel)) (fun _ _ _ _ _ => pg_name (i := 10) sc_law.nd rfl (Or.inl rfl)) (fun _ _ _ _ _ => pts_nil) (fun _ _ _ _ _ => (C8.pe_c C_law_at hr (by decide) (by rfl) (pa_cons (pv 2) (pa_cons (pe_op op_add (pe_op op_add (pe_callB (call_lenK (K := K) rfl) (by rfl) T.z_len PySem.boot_len (pa_cons (pe_ix (ix_tupK (K := K) rfl) (pv 2) pe_int (fun _ _ => rfl)) pa_nil)) (pv 5)) (pv 10)) pa_nil)))))
      (C8.pss_cut
      (ps_if (PW.pt (pw_and (pt_cmpR op_eq (C8.pe_c C_law_take hr (by decide) (by rfl) (pa_cons (pv 1) (pa_cons pe_int pa_nil))) pe_int (nomark _)) (pw_and1 (pt_cmpR op_gt (pe_callB (call_lenK (K := K) rfl) (by rfl) T.z_len PySem.boot_len (pa_cons (pv 6) pa_nil)) pe_int (nomark _))))) (pss_cons
      (ps_set (i := 8) sc_law.nd rfl (Or.inl rfl) (C8.pe_c C_law_take hr (by decide) (by rfl) (pa_cons (pv 1) (pa_cons (pe_callB (call_lenK (K := K) rfl) (by rfl) T.z_len PySem.boot_len (pa_cons (pv 6) pa_nil)) pa_nil))))
      (pss_one
      (ps_asg (pe_op op_sub pe_int (pe_ix (ix_listK (K := K) rfl) (pv 6) (pv 8) (fun _ _ => rfl))) (pg_sub (pv 6) (pv 8) set_list)))) pss_nil)
      (pss_one
      (ps_set (i := 3) sc_law.nd rfl (Or.inl rfl) (pe_tup (pa_cons (pe_callTy (call_tuple_ofK (K := K) rfl) (by rfl) T.z_tuple (by decide +kernel) (pa_cons (pv 6) pa_nil)) (pa_cons (pe_callTy (call_tuple_ofK (K := K) rfl) (by rfl) T.z_tuple (by decide +kernel) (pa_cons (pv 7) pa_nil)) pa_nil)))))))))) pss_nil)
      (pss_cons
      (ps_set (i := 9) sc_law.nd rfl (Or.inl rfl) pe_non)
      (pss_cons
      (ps_for PassesOwn.never rfl (pi_range1 (by rfl) T.z_range (pa_cons (pe_op op_add (pe_op op_add (pe_callB (call_max2 rfl) (by rfl) T.z_max (by decide +kernel) (pa_cons (pe_callB (call_lenK (K := K) rfl) (by rfl) T.z_len PySem.boot_len (pa_cons (pe_ix (ix_tupK (K := K) rfl) (pv 2) pe_int (fun _ _ => rfl)) pa_nil)) (pa_cons (pe_callB (call_lenK (K := K) rfl) (by rfl) T.z_len PySem.boot_len (pa_cons (pe_ix (ix_tupK (K := K) rfl) (pv 3) pe_int (fun _ _ => rfl)) pa_nil)) pa_nil))) (pe_callB (call_lenK (K := K) rfl) (by rfl) T.z_len PySem.boot_len (pa_cons (pe_ix (ix_tupK (K := K) rfl) (pv 2) pe_int (fun _ _ => rfl)) pa_nil))) (pe_callB (call_lenK (K := K) rfl) (by rfl) T.z_len PySem.boot_len (pa_cons (pe_ix (ix_tupK (K := K) rfl) (pv 3) pe_int (fun _ _ => rfl)) pa_nil))) pa_nil)) (pg_name (i := 10) sc_law.nd rfl (.inl rfl)) (pss_one
      (ps_if (PW.pt (pw_and (pt_cmpR op_isN (pv 9) pe_non (nomark _)) (pw_and1 (pt_cmpR op_ne (C8.pe_c C_law_at hr (by decide) (by rfl) (pa_cons (pv 2) (pa_cons (pv 10) pa_nil))) (C8.pe_c C_law_at hr (by decide) (by rfl) (pa_cons (pv 3) (pa_cons (pv 10) pa_nil))) (nomark _))))) (pss_one
      (ps_set (i := 9) sc_law.nd rfl (Or.inl rfl) (pv 10))) pss_nil)))
      (pss_cons
      (ps_set (i := 11) sc_law.nd rfl (Or.inl rfl) (C8.pe_c C_first_difference hr (by decide) (by rfl) (pa_cons (pv 2) (pa_cons (pv 3) pa_nil))))
      (pss_cons
      (ps_set (i := 12) sc_law.nd rfl (Or.inl rfl) (C8.pe_c C_first_difference hr (by decide) (by rfl) (pa_cons (pv 3) (pa_cons (pv 2) pa_nil))))
      (pss_cons
      (ps_if (pt_cmpR op_isN (pv 9) pe_non (nomark _)) (pss_one
      (ps_ret (pe_and (pe_cmpR op_isN (pv 11) pe_non (nomark _)) (pe_one (pe_cmpR op_isN (pv 12) pe_non (nomark _)))))) pss_nil)
      (pss_one
      (ps_ret (pe_and (C8.pe_c C_law_is_integer hr (by decide) (by rfl) (pa_cons (pv 11) pa_nil)) (pe_and (pe_cmpR op_eq (pv 11) (pv 9) (nomark _)) (pe_one (pe_cmpR op_eq (pv 12) (pv 9) (nomark _)))))))))))))))), ?_⟩
    -- draws = _law_draws(script, 60)
    refine ⟨_, rfl, sa, ns, 60, rfl, hS, by decide, fun H1 d s1 _ d1 => ?_⟩
    -- first, second
    refine ⟨_, rfl, d, 2, 5, rfl, d1, by decide, by decide, by decide, fun H2 p h1 l1 k2 d2 L1 hh1 hn1 hl1 _ _ => ?_⟩
    refine ⟨_, rfl, d, 2, 5, rfl, d2, by decide, by decide, by decide, fun H3 p2 h2 l2 k3 d3 L2 hh2 hn2 hl2 _ _ => ?_⟩
    have L1' : Las H3 p h1 l1 := L1.keep k3 d2
    clear L1 k2 k3 s1 d1 d2
    refine ⟨fun σ H' => ∃ (p2 : Addr) (h2 l2 : List Int) (v4 v5 v6 v7 v8 : Option V), σ = [some (.ref sa), some (.ref d), some (.ref p), some (.ref p2), v4, v5, v6, v7, v8, none, none, none, none] ∧ Las H' p h1 l1 ∧ Las H' p2 h2 l2 ∧ l2 ≠ [] ∧ h2.length ≤ 1000 ∧ l2.length ≤ 1000, ?_, ?_⟩
    · -- if _law_take(draws, 3) > 0
      refine ⟨_, rfl, d, 3, rfl, d3, by decide, fun r ds r0 r1 => ?_⟩
      have L1 : Las (upd H3 d (.lst (ds.map V.int))) p h1 l1 := L1'.keep Kp.own d3
      have LS : Las (upd H3 d (.lst (ds.map V.int))) p2 h2 l2 := L2.keep Kp.own d3
      have d4 : Drw (upd H3 d (.lst (ds.map V.int))) d := Drw.own
      generalize upd H3 d (.lst (ds.map V.int)) = H4 at *
      refine ⟨_, _, rfl, rfl, _, rfl, ite2 (fun e => ?_) (fun e => ?_)⟩
      · -- copies
        refine ⟨_, rfl, d, 3, rfl, d4, by decide, fun c ds2 c0 c1 => ?_⟩
        have L1a : Las (upd H4 d (.lst (ds2.map V.int))) p h1 l1 := L1.keep Kp.own d4
        have d5 : Drw (upd H4 d (.lst (ds2.map V.int))) d := Drw.own
        generalize upd H4 d (.lst (ds2.map V.int)) = H5 at *
        refine ⟨_, _, rfl, rfl, ?_⟩
        -- moved
        obtain ⟨a, b, e1, e2, e3⟩ := id L1a
        refine ⟨_, rfl, _, rfl, p, _, _, _, rfl, rfl, .of e1, i1 _ _, b, _, rfl, .inr (.of e3), _, _, rfl, rfl, .inl ⟨by decide, by decide⟩, _, _, rfl, rfl, d, _, rfl, d5, by rw [List.length_map]; omega, fun m ds3 m0 m1 => ?_⟩
        rw [List.length_map] at m1
        have L1b : Las (upd H5 d (.lst (ds3.map V.int))) p h1 l1 := L1a.keep Kp.own d5
        have d6 : Drw (upd H5 d (.lst (ds3.map V.int))) d := Drw.own
        generalize upd H5 d (.lst (ds3.map V.int)) = H6 at *
        clear e1 e2 e3
        obtain ⟨a, b, e1, e2, e3⟩ := id L1b
        -- heads
        refine ⟨_, rfl, p, _, _, _, rfl, rfl, .of e1, i0 _ _, a, _, rfl, .inr (.of e2), _, rfl, _, _, rfl, rfl, _, rfl, by rw [List.length_map]; omega, by rw [List.length_map]; omega, fun D hD => ?_⟩
        rw [List.length_map]
        refine lc_range (lo := 0) (n := ((h1.length : Int) + m).toNat) (fun i H' => ∃ xs : List Int, Same H6 H' ∧ H' D = some (.lst (xs.map V.int)) ∧ xs.length = i)
          ⟨[], same_new hD, upd_same, rfl⟩ ?_ ?_
        · rintro i H7 hi ⟨xs, s7, eD, el⟩
          refine ⟨rfl, _, rfl, _, rfl, p, h1, l1, i, by rw [Int.zero_add]; rfl, L1b.same s7, hn1, ?_⟩
          refine ⟨xs.map V.int, eD, lenI (by omega), xs ++ [wat h1 l1 i], fun b o hb => ?_, by rw [upd_same, List.map_append]; rfl, by simp [el]⟩
          rw [upd_ne (ne_of_none hb hD)]
          exact s7 _ _ hb
        · rintro H7 ⟨xs, s7, eD, el⟩
          -- loops
          have L1c : Las H7 p h1 l1 := L1b.same s7
          have d7 : Drw H7 d := d6.same s7
          have nDd : D ≠ d := fun z => by
            obtain ⟨us, eu⟩ := d6
            rw [z, eu] at hD
            cases hD
          clear e1 e2 e3
          obtain ⟨a, b, e1, e2, e3⟩ := id L1c
          have hc0 : 0 < l1.length := List.length_pos_iff.mpr hn1
          have hcb : (1 + c) * (l1.length : Int) ≤ 3 * 5 := Int.mul_le_mul (by omega) (by omega) (by omega) (by omega)
          have hcp : 1 * 1 ≤ (1 + c) * (l1.length : Int) := Int.mul_le_mul (by omega) (by omega) (by omega) (by omega)
          refine ⟨_, rfl, _, rfl, p, _, _, _, rfl, rfl, .of e1, i1 _ _, b, _, rfl, .inr (.of e3), _, _, rfl, rfl, .inl ⟨by omega, by omega⟩, _, rfl, by rw [List.length_map]; omega, by rw [List.length_map]; omega, fun D2 hD2 => ?_⟩
          rw [List.length_map]
          have nDD : D ≠ D2 := ne_of_none eD hD2
          refine lc_range (lo := 0) (n := ((1 + c) * (l1.length : Int)).toNat) (fun i H' => ∃ ys : List Int, Same H7 H' ∧ H' D2 = some (.lst (ys.map V.int)) ∧ ys.length = i)
            ⟨[], same_new hD2, upd_same, rfl⟩ ?_ ?_
          · rintro i H8 hi ⟨ys, s8, eD2, el2⟩
            have L1d := L1c.same s8
            obtain ⟨a, b, e1, e2, e3⟩ := id L1d
            refine ⟨rfl, _, rfl, _, rfl, p, _, _, _, rfl, rfl, .of e1, i0 _ _, a, _, rfl, .inr (.of e2), _, rfl, _, _, rfl, rfl, _, rfl, _, _, rfl, rfl, p, h1, l1, h1.length + m.toNat + i, ?_, L1d, hn1, ?_⟩
            · rw [List.length_map]
              have : ((h1.length : Int) + m + (0 + (i : Int))) = ((h1.length + m.toNat + i : Nat) : Int) := by omega
              show [V.ref p, V.int ((h1.length : Int) + m + (0 + (i : Int)))] ++ [] = _
              rw [this]
              rfl
            · refine ⟨ys.map V.int, eD2, lenI (by omega), ys ++ [_], fun b o hb => ?_, by rw [upd_same, List.map_append]; rfl, by simp [el2]⟩
              rw [upd_ne (ne_of_none hb hD2)]
              exact s8 _ _ hb
          · rintro H8 ⟨ys, s8, eD2, el2⟩
            have eD8 : H8 D = some (.lst (xs.map V.int)) := s8 _ _ eD
            have d8 : Drw H8 d := d7.same s8
            have L8 : Las H8 p h1 l1 := L1c.same s8
            have nD2d : D2 ≠ d := fun z => by
              obtain ⟨us, eu⟩ := d7
              rw [z, eu] at hD2
              cases hD2
            have hys : ys ≠ [] := fun z => by
              rw [z] at el2
              have : (0 : Nat) = ((1 + c) * (l1.length : Int)).toNat := el2
              omega
            -- if _law_take(draws, 2) == 0 and len(heads) > 0
            refine ⟨fun σ H' => ∃ (xs : List Int) (v8 : Option V), σ = [some (.ref sa), some (.ref d), some (.ref p), some (.ref p2), some (.int (1 + c)), some (.int m), some (.ref D), some (.ref D2), v8, none, none, none, none] ∧ Las H' p h1 l1 ∧ H' D = some (.lst (xs.map V.int)) ∧ xs.length ≤ 100 ∧ H' D2 = some (.lst (ys.map V.int)), ?_, ?_⟩
            · refine ⟨_, rfl, d, 2, rfl, d8, by decide, fun r3 ds4 _ _ => ?_⟩
              have L9 : Las (upd H8 d (.lst (ds4.map V.int))) p h1 l1 := L8.keep Kp.own d8
              have eD9 : (upd H8 d (.lst (ds4.map V.int))) D = some (.lst (xs.map V.int)) := by rw [upd_ne nDd]; exact eD8
              have eD29 : (upd H8 d (.lst (ds4.map V.int))) D2 = some (.lst (ys.map V.int)) := by rw [upd_ne nD2d]; exact eD2
              have d9 : Drw (upd H8 d (.lst (ds4.map V.int))) d := Drw.own
              generalize upd H8 d (.lst (ds4.map V.int)) = H9 at *
              have fin : ∃ (xs : List Int) (v8 : Option V), [some (.ref sa), some (.ref d), some (.ref p), some (.ref p2), some (.int (1 + c)), some (.int m), some (.ref D), some (.ref D2), none, none, none, none, none] = [some (V.ref sa), some (.ref d), some (.ref p), some (.ref p2), some (.int (1 + c)), some (.int m), some (.ref D), some (.ref D2), v8, none, none, none, none] ∧ Las H9 p h1 l1 ∧ H9 D = some (.lst (xs.map V.int)) ∧ xs.length ≤ 100 ∧ H9 D2 = some (.lst (ys.map V.int)) :=
                ⟨xs, none, rfl, L9, eD9, by omega, eD29⟩
              refine ⟨rfl, _, rfl, ite2 (fun e5 => ?_) (fun e5 => ?_)⟩
              · refine ⟨_, rfl, D, _, rfl, .inl (.of eD9), _, _, rfl, rfl, _, rfl, ite2 (fun e6 => ?_) (fun e6 => ?_)⟩
                · have hxl : 0 < xs.length := by
                    have := of_decide_eq_true e6
                    rw [List.length_map] at this
                    omega
                  -- at
                  refine ⟨_, rfl, _, rfl, D, _, rfl, .inl (.of eD9), d, _, rfl, d9, by rw [List.length_map]; omega, fun t ds5 t0 t1 => ?_⟩
                  rw [List.length_map] at t1
                  have L10 : Las (upd H9 d (.lst (ds5.map V.int))) p h1 l1 := L9.keep Kp.own d9
                  have eD10 : (upd H9 d (.lst (ds5.map V.int))) D = some (.lst (xs.map V.int)) := by rw [upd_ne nDd]; exact eD9
                  have eD210 : (upd H9 d (.lst (ds5.map V.int))) D2 = some (.lst (ys.map V.int)) := by rw [upd_ne nD2d]; exact eD29
                  generalize upd H9 d (.lst (ds5.map V.int)) = H10 at *
                  obtain ⟨tn, rfl⟩ : ∃ tn : Nat, t = (tn : Int) := ⟨t.toNat, by omega⟩
                  have htn : tn < xs.length := by omega
                  have gx : (xs.map V.int)[tn]? = some (.int xs[tn]) := by
                    rw [List.getElem?_map, List.getElem?_eq_getElem htn]
                    rfl
                  refine ⟨_, rfl, _, rfl, D, _, _, _, rfl, rfl, .of eD10, atI_nat gx, _, _, rfl, rfl, ?_⟩
                  refine ⟨_, rfl, _, rfl, D, _, _, tn, rfl, rfl, eD10, ixN_at (by rw [List.length_map]; exact htn), ?_⟩
                  refine ⟨xs.set tn (1 - xs[tn]), _, rfl, ?_, by rw [upd_same, set_mapI], by simp; omega, by rw [upd_ne nDD.symm]; exact eD210⟩
                  obtain ⟨a, b, e1, e2, e3⟩ := L10
                  exact ⟨a, b, by rw [upd_ne (ne_of e1 eD10 (by intro z; cases z))]; exact e1, by rw [upd_ne (ne_of e2 eD10 (by intro z; cases z))]; exact e2, by rw [upd_ne (ne_of e3 eD10 (by intro z; cases z))]; exact e3⟩
                · exact fin
              · exact fin
            · rintro σ H9 ⟨xs, v8, rfl, L9, eD9, hxs, eD29⟩
              refine ⟨_, rfl, D, _, rfl, .inl ⟨.of eD9, fun a ha => ?_⟩⟩
              have e3' : (upd H9 a (.tup (xs.map V.int))) D2 = some (.lst (ys.map V.int)) := same_new ha _ _ eD29
              refine ⟨_, rfl, D2, _, rfl, .inl ⟨.of e3', fun b hb => ?_⟩⟩
              refine ⟨by show 2 ≤ sizeLine; decide, fun p' hp => ?_⟩
              have nab : a ≠ b := fun z => by rw [← z, upd_same] at hb; cases hb
              have nap : a ≠ p' := fun z => by rw [← z, upd_ne nab, upd_same] at hp; cases hp
              have nbp : b ≠ p' := fun z => by rw [← z, upd_same] at hp; cases hp
              exact ⟨p', xs, ys, _, _, _, _, _, rfl, ((L9.same (same_new ha)).same (same_new hb)).same (same_new hp), ⟨a, b, upd_same, by rw [upd_ne nap, upd_ne nab, upd_same], by rw [upd_ne nbp, upd_same]⟩, hys, by omega, by omega⟩
      · exact ⟨p2, h2, l2, none, none, none, none, none, rfl, L1, LS, hn2, by omega, by omega⟩
    · rintro σ H4 ⟨p2, h2, l2, v4, v5, v6, v7, v8, rfl, L1, L2, n2, b2, c2⟩
      clear L1'
      obtain ⟨a, b, e1, e2, e3⟩ := id L1
      obtain ⟨a', b', e1', e2', e3'⟩ := id L2
      -- expected = None; the loop
      refine ⟨_, rfl, p, _, _, _, rfl, rfl, .of e1, i0 _ _, a, _, rfl, .inr (.of e2), ?_⟩
      refine ⟨_, rfl, p2, _, _, _, rfl, rfl, .of e1', i0 _ _, a', _, rfl, .inr (.of e2'), ?_⟩
      refine ⟨_, _, rfl, ?_⟩
      refine ⟨_, rfl, p, _, _, _, rfl, rfl, .of e1, i1 _ _, b, _, rfl, .inr (.of e3), ?_⟩
      refine ⟨_, _, rfl, rfl, ?_⟩
      refine ⟨_, rfl, p2, _, _, _, rfl, rfl, .of e1', i1 _ _, b', _, rfl, .inr (.of e3'), ?_⟩
      refine ⟨_, _, rfl, rfl, ?_⟩
      have ed : (if (((h2.map V.int).length : Nat) : Int) > (((h1.map V.int).length : Nat) : Int) then (((h2.map V.int).length : Nat) : Int) else (((h1.map V.int).length : Nat) : Int)) + (((l1.map V.int).length : Nat) : Int) + (((l2.map V.int).length : Nat) : Int) = ((dfn h1 l1 h2 l2 : Nat) : Int) := by
        rw [List.length_map, List.length_map, List.length_map, List.length_map, max_if]
        rfl
      have hdf : dfn h1 l1 h2 l2 ≤ 10000 := by unfold dfn; omega
      refine ⟨_, rfl, (by rw [ed]; omega), (by rw [ed]; omega), ?_⟩
      rw [ed]
      refine for_range (lo := 0) (n := ((dfn h1 l1 h2 l2 : Nat) : Int).toNat) (fun i σ H' => ∃ (v : V) (v10 : Option V), σ = [some (.ref sa), some (.ref d), some (.ref p), some (.ref p2), v4, v5, v6, v7, v8, some v, v10, none, none] ∧ H' = H4 ∧ IsDiff (wat h1 l1) (wat h2 l2) i v)
        ⟨.non, none, rfl, rfl, .inl ⟨rfl, fun t h => absurd h (Nat.not_lt_zero t)⟩⟩ ?_ ?_
      · rintro i σ H' hi ⟨v, v10, rfl, rfl, D⟩
        rcases D with ⟨rfl, hall⟩ | ⟨t, ht, rfl, c1, c2⟩
        · refine ⟨_, rfl, rfl, _, rfl, ?_⟩
          refine ite2 (fun _ => ?_) (fun z => (z (decide_eq_true rfl)).elim)
          refine ⟨_, rfl, _, rfl, p, h1, l1, i, by rw [Int.zero_add]; rfl, L1, hn1, ?_⟩
          refine ⟨_, rfl, _, rfl, p2, h2, l2, i, by rw [Int.zero_add]; rfl, L2, n2, ?_⟩
          refine ⟨rfl, _, rfl, ?_⟩
          by_cases c : wat h1 l1 i = wat h2 l2 i
          · have : (!decide (V.int (wat h1 l1 i) = V.int (wat h2 l2 i))) = false := by rw [c, decide_eq_true rfl]; rfl
            rw [this]
            refine iteF ?_
            refine ⟨.non, _, rfl, rfl, .inl ⟨rfl, fun t ht => ?_⟩⟩
            rcases Nat.lt_succ_iff_lt_or_eq.mp ht with z | z
            · exact hall t z
            · rw [z]; exact c
          · have : (!decide (V.int (wat h1 l1 i) = V.int (wat h2 l2 i))) = true := by rw [decide_eq_false (fun z => c (V.int.inj z))]; rfl
            rw [this]
            refine iteT ?_
            refine ⟨_, rfl, _, _, rfl, rfl, .inr ⟨i, Nat.lt_succ_self i, by rw [Int.zero_add], c, hall⟩⟩
        · refine ⟨_, rfl, rfl, _, rfl, ?_⟩
          refine ite2 (fun z => by cases of_decide_eq_true z) (fun _ => ?_)
          exact ⟨_, _, rfl, rfl, .inr ⟨t, Nat.lt_succ_of_lt ht, rfl, c1, c2⟩⟩
      · rintro σ H' ⟨v, v10, rfl, rfl, D⟩
        have D : IsDiff (wat h1 l1) (wat h2 l2) (dfn h1 l1 h2 l2) v := D
        -- found, again
        refine ⟨_, rfl, _, rfl, p, p2, h1, l1, h2, l2, rfl, L1, L2, hn1, n2, by omega, fun u D2 => ?_⟩
        have hds : dfn h2 l2 h1 l1 = dfn h1 l1 h2 l2 := by unfold dfn; omega
        refine ⟨_, rfl, _, rfl, p2, p, h2, l2, h1, l1, rfl, L2, L1, n2, hn1, by omega, fun u2 D3 => ?_⟩
        rw [hds] at D3
        obtain rfl := D.uniq D2
        obtain rfl := D.uniq D3.swap
        rcases D with ⟨rfl, _⟩ | ⟨t, ht, rfl, _, _⟩
        · refine ⟨_, rfl, rfl, _, rfl, ?_⟩
          refine ite2 (fun _ => ?_) (fun z => (z (decide_eq_true rfl)).elim)
          exact ⟨_, rfl, rfl, true, rfl, iteT ⟨_, rfl, rfl, q _⟩⟩
        · refine ⟨_, rfl, rfl, _, rfl, ?_⟩
          refine ite2 (fun z => by cases of_decide_eq_true z) (fun _ => ?_)
          refine ⟨_, rfl, _, rfl, true, rfl, iteT ?_⟩
          refine ⟨_, rfl, _, rfl, rfl, _, rfl, ?_⟩
          rw [decide_eq_true rfl]
          refine iteT ⟨_, rfl, _, rfl, rfl, ?_⟩
          rw [decide_eq_true rfl]
          exact q _
end

theorem all_mk {l : PySem.W.OpenLaw} {w : World} {K : PySem.W.Frag} {h : Heap} {mg : Str → Option Value} {fa : Addr} {f0 f1 f2 f3 f4 f5 f6 f7 : Addr} (X : K.In h) (G : h.Ns mainGlobals mg) (hfa : mg "law" = some (.ref fa))
    {od0 an0 od1 an1 od2 an2 od3 an3 od4 an4 od5 an5 od6 an6 od7 an7 : Option Addr} {sl0 sl1 sl2 sl3 sl4 sl5 sl6 sl7 : Array (Option Value)} {oc0 kV0 dc0 pm0 cd0 ct0 oc1 kV1 dc1 pm1 cd1 ct1 oc2 kV2 dc2 pm2 cd2 ct2 oc3 kV3 dc3 pm3 cd3 ct3 oc4 kV4 dc4 pm4 cd4 ct4 oc5 kV5 dc5 pm5 cd5 ct5 oc6 kV6 dc6 pm6 cd6 ct6 oc7 kV7 dc7 pm7 cd7 ct7 : Value}
    (a0 : PySem.W.nsIn K mainGlobals "letter_at" = some (some (.ref f0))) (l0 : K.lookup f0 = some ⟨oc0, od0, .func (PySem.W.fnOf "letter_at" "letter_at" (defArgs s_letter_at) (defBody s_letter_at) (defScope s_letter_at) .none kV0 dc0 pm0 an0 cd0 ct0), sl0⟩) (c0 : PySem.W.codeIn K cd0 "letter_at" = true) (k0 : PySem.W.keepIn K (.ref f0) = true)
    (a1 : PySem.W.nsIn K mainGlobals "first_difference" = some (some (.ref f1))) (l1 : K.lookup f1 = some ⟨oc1, od1, .func (PySem.W.fnOf "first_difference" "first_difference" (defArgs s_first_difference) (defBody s_first_difference) (defScope s_first_difference) .none kV1 dc1 pm1 an1 cd1 ct1), sl1⟩) (c1 : PySem.W.codeIn K cd1 "first_difference" = true) (k1 : PySem.W.keepIn K (.ref f1) = true)
    (a2 : PySem.W.nsIn K mainGlobals "_law_draws" = some (some (.ref f2))) (l2 : K.lookup f2 = some ⟨oc2, od2, .func (PySem.W.fnOf "_law_draws" "_law_draws" (defArgs s_law_draws) (defBody s_law_draws) (defScope s_law_draws) .none kV2 dc2 pm2 an2 cd2 ct2), sl2⟩) (c2 : PySem.W.codeIn K cd2 "_law_draws" = true) (k2 : PySem.W.keepIn K (.ref f2) = true)
    (a3 : PySem.W.nsIn K mainGlobals "_law_take" = some (some (.ref f3))) (l3 : K.lookup f3 = some ⟨oc3, od3, .func (PySem.W.fnOf "_law_take" "_law_take" (defArgs s_law_take) (defBody s_law_take) (defScope s_law_take) .none kV3 dc3 pm3 an3 cd3 ct3), sl3⟩) (c3 : PySem.W.codeIn K cd3 "_law_take" = true) (k3 : PySem.W.keepIn K (.ref f3) = true)
    (a4 : PySem.W.nsIn K mainGlobals "_law_is_integer" = some (some (.ref f4))) (l4 : K.lookup f4 = some ⟨oc4, od4, .func (PySem.W.fnOf "_law_is_integer" "_law_is_integer" (defArgs s_law_is_integer) (defBody s_law_is_integer) (defScope s_law_is_integer) .none kV4 dc4 pm4 an4 cd4 ct4), sl4⟩) (c4 : PySem.W.codeIn K cd4 "_law_is_integer" = true) (k4 : PySem.W.keepIn K (.ref f4) = true)
    (a5 : PySem.W.nsIn K mainGlobals "_law_at" = some (some (.ref f5))) (l5 : K.lookup f5 = some ⟨oc5, od5, .func (PySem.W.fnOf "_law_at" "_law_at" (defArgs s_law_at) (defBody s_law_at) (defScope s_law_at) .none kV5 dc5 pm5 an5 cd5 ct5), sl5⟩) (c5 : PySem.W.codeIn K cd5 "_law_at" = true) (k5 : PySem.W.keepIn K (.ref f5) = true)
    (a6 : PySem.W.nsIn K mainGlobals "_law_lasso" = some (some (.ref f6))) (l6 : K.lookup f6 = some ⟨oc6, od6, .func (PySem.W.fnOf "_law_lasso" "_law_lasso" (defArgs s_law_lasso) (defBody s_law_lasso) (defScope s_law_lasso) .none kV6 dc6 pm6 an6 cd6 ct6), sl6⟩) (c6 : PySem.W.codeIn K cd6 "_law_lasso" = true) (k6 : PySem.W.keepIn K (.ref f6) = true)
    (a7 : PySem.W.nsIn K mainGlobals "law" = some (some (.ref f7))) (l7 : K.lookup f7 = some ⟨oc7, od7, .func (PySem.W.fnOf "law" "law" (defArgs s_law) (defBody s_law) (defScope s_law) .none kV7 dc7 pm7 an7 cd7 ct7), sl7⟩) (c7 : PySem.W.codeIn K cd7 "law" = true) (k7 : PySem.W.keepIn K (.ref f7) = true)
    (z0 : PySem.W.nsIn K mainGlobals "bool" = some none) (z1 : PySem.W.nsIn K mainGlobals "int" = some none) (z2 : PySem.W.nsIn K mainGlobals "isinstance" = some none) (z3 : PySem.W.nsIn K mainGlobals "len" = some none) (z4 : PySem.W.nsIn K mainGlobals "list" = some none) (z5 : PySem.W.nsIn K mainGlobals "max" = some none) (z6 : PySem.W.nsIn K mainGlobals "range" = some none) (z7 : PySem.W.nsIn K mainGlobals "tuple" = some none) :
    ∃ fd : FuncData, (∀ (s : Shared) (v : Value), BindsTo s fd ⟨[v], []⟩ [("script", v)]) ∧ ∀ base : Heap, K.In base → base.Ns mainGlobals mg → FnOk l.prog w K mg base CX0 3 fa fd ["script"] (spLaw K) := by
  have e := hfa.symm.trans (PySem.W.mg_of X G a7)
  cases e
  have T : Txt K mg := ⟨⟨f0, _, fun_mk (st := s_letter_at) l0 c0 k0, PySem.W.mg_of X G a0, (fun_mk (st := s_letter_at) l0 c0 k0).binds fun _ _ _ _ _ _ us hl => match us, hl with | [_, _], _ => rfl⟩, ⟨f1, _, fun_mk (st := s_first_difference) l1 c1 k1, PySem.W.mg_of X G a1, (fun_mk (st := s_first_difference) l1 c1 k1).binds fun _ _ _ _ _ _ us hl => match us, hl with | [_, _], _ => rfl⟩, ⟨f2, _, fun_mk (st := s_law_draws) l2 c2 k2, PySem.W.mg_of X G a2, (fun_mk (st := s_law_draws) l2 c2 k2).binds fun _ _ _ _ _ _ us hl => match us, hl with | [_, _], _ => rfl⟩, ⟨f3, _, fun_mk (st := s_law_take) l3 c3 k3, PySem.W.mg_of X G a3, (fun_mk (st := s_law_take) l3 c3 k3).binds fun _ _ _ _ _ _ us hl => match us, hl with | [_, _], _ => rfl⟩, ⟨f4, _, fun_mk (st := s_law_is_integer) l4 c4 k4, PySem.W.mg_of X G a4, (fun_mk (st := s_law_is_integer) l4 c4 k4).binds fun _ _ _ _ _ _ us hl => match us, hl with | [_], _ => rfl⟩, ⟨f5, _, fun_mk (st := s_law_at) l5 c5 k5, PySem.W.mg_of X G a5, (fun_mk (st := s_law_at) l5 c5 k5).binds fun _ _ _ _ _ _ us hl => match us, hl with | [_, _], _ => rfl⟩, ⟨f6, _, fun_mk (st := s_law_lasso) l6 c6 k6, PySem.W.mg_of X G a6, (fun_mk (st := s_law_lasso) l6 c6 k6).binds fun _ _ _ _ _ _ us hl => match us, hl with | [_, _, _], _ => rfl⟩, PySem.W.mg_none_of X G z0, PySem.W.mg_none_of X G z1, PySem.W.mg_none_of X G z2, PySem.W.mg_none_of X G z3, PySem.W.mg_none_of X G z4, PySem.W.mg_none_of X G z5, PySem.W.mg_none_of X G z6, PySem.W.mg_none_of X G z7⟩
  exact ⟨_, fun s v => .of_eq rfl, fun base _ _ => ok_law (fun_mk (st := s_law) l7 c7 k7) T⟩
end My
open PySem PySem.W PyProof.Rows
set_option maxHeartbeats 0 in
theorem PySem.Challenge.cw_reactivesynth_k04_first_difference_holds : PySem.Challenge.rw_reactivesynth_k04_first_difference.Holds := by
  w_on; o_law; k_head; (case hw => w_witness2)
  k_fill
  refine L2.walk_of (l := PySem.Challenge.rw_reactivesynth_k04_first_difference) (n := 63) (k := 3) (x := "script") (CX := fun _ => L2.CX0) (sp := fun w => My.spLaw _) rfl (by decide) rfl ⟨rfl, by decide, by decide⟩ (fun w h Y => PySem.W.kIn_of Y) ?F (fun _ _ a ns hl _ hS => ⟨a, ns, rfl, hS, hl, fun _ => rfl⟩) (fun _ _ _ _ _ h => h)
  case F =>
    intro w mg fa h KX G hmg
    refine' My.all_mk KX G hmg ?a0 ?l0 ?c0 ?k0 ?a1 ?l1 ?c1 ?k1 ?a2 ?l2 ?c2 ?k2 ?a3 ?l3 ?c3 ?k3 ?a4 ?l4 ?c4 ?k4 ?a5 ?l5 ?c5 ?k5 ?a6 ?l6 ?c6 ?k6 ?a7 ?l7 ?c7 ?k7 ?z0 ?z1 ?z2 ?z3 ?z4 ?z5 ?z6 ?z7
    (case a0 => k_is); (case l0 => k_is); (case c0 => k_is); (case k0 => k_is); (case a1 => k_is); (case l1 => k_is); (case c1 => k_is); (case k1 => k_is); (case a2 => k_is); (case l2 => k_is); (case c2 => k_is); (case k2 => k_is); (case a3 => k_is); (case l3 => k_is); (case c3 => k_is); (case k3 => k_is); (case a4 => k_is); (case l4 => k_is); (case c4 => k_is); (case k4 => k_is); (case a5 => k_is); (case l5 => k_is); (case c5 => k_is); (case k5 => k_is); (case a6 => k_is); (case l6 => k_is); (case c6 => k_is); (case k6 => k_is); (case a7 => k_is); (case l7 => k_is); (case c7 => k_is); (case k7 => k_is); (case z0 => k_is); (case z1 => k_is); (case z2 => k_is); (case z3 => k_is); (case z4 => k_is); (case z5 => k_is); (case z6 => k_is); (case z7 => k_is)
