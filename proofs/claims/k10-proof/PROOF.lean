import PyProof.Rows.All
import Wide.All
import OpenK.AllK
import Wide.FinOn
import PySem.Challenge.RW_mathgalley_k10_fonts
import HandS.ForMost
import HandS.ForExc
import HandS.IsInst
import HandS.SetBool
import HandS.SetKeys
import HandS.Zip
import HandS.Codes
import HandS.TupAny
import HandS.TupMul
import HandS.Star
import HandS.Evl
import HandS.DictComp
import HandS.ExcOwn
import HandS.Exc
import HandS.ExcInit
import HandS.ExcSuper
import KE.KExcSuper
import HandS.FStr
import HandS.Strs
import HandS.OwnEq
import HandS.ExcField
import HandS.ExcIs
import HandS.Iter
import KE.RegKSuper
set_option Elab.async false
set_option linter.all false
set_option maxRecDepth 100000
set_option maxHeartbeats 2000000
namespace Mg
open PySem L2
/-! a def of the text that keeps a promise, as callers see it -/
structure Cal (P : Program) (w : World) (K : PySem.W.Frag) (mg : Str → Option Value) (base : Heap) (CX : CXT) (k : Nat) (x : Str) (ps : List Str) (sp : Sp) : Prop where
  ex : ∃ (f : Addr) (fd : FuncData), FnOk P w K mg base CX k f fd ps sp ∧ mg x = some (.ref f) ∧ PySem.W.keepIn K (.ref f) = true ∧ Binds K fd ps []
section
variable {X : Cx} {CX : CXT} {k : Nat} {ps : List Str} {sp : Sp} {E : XK} {x : Str} {p pos : Pos} {e : Expr} {es : List Expr} {t : TA}
theorem pe_cal (c : Cal X.prog X.w X.K X.mg X.base CX k x ps sp) (hr : Room k X.A) (hg : Gl X x) (hx : Passes CX X E) (ha : PA X (e :: es) t)
    (hdb : (x == ("__debug__" : Str)) = false := by decide) (he : starEach (e :: es) X.env = (false, eval e X.env) :: starEach es X.env := by rfl) (hpl : (backTo pos (starEach es X.env)).any (·.1) = false := by rfl) :
    PE X (.Call (.Name x p) (e :: es) [] pos) (tCall sp [] E t) := by
  obtain ⟨f, fd, F, hm, hk, hb⟩ := c.ex
  exact pe_call F hr hg hm hk hb .nil hx ha hdb he hpl
theorem pe_cal0 (c : Cal X.prog X.w X.K X.mg X.base CX k x ps sp) (hr : Room k X.A) (hg : Gl X x) (hx : Passes CX X E) (hdb : (x == ("__debug__" : Str)) = false := by decide) :
    PE X (.Call (.Name x p) [] [] pos) (tCall sp [] E tNil) := by
  obtain ⟨f, fd, F, hm, hk, hb⟩ := c.ex
  exact pe_call0 F hr hg hm hk hb .nil hx hdb
end
theorem Cal.mono {P : Program} {w : World} {K : PySem.W.Frag} {mg : Str → Option Value} {base : Heap} {CX : CXT} {j k : Nat} {x : Str} {ps : List Str} {sp : Sp} (c : Cal P w K mg base CX j x ps sp) (h : j ≤ k) : Cal P w K mg base CX k x ps sp := by
  obtain ⟨f, fd, F, r⟩ := c.ex
  exact ⟨f, fd, F.mono h, r⟩
/-! heaps -/
/-- what stood stands, but for what is at pl -/
def KeepB (pl : Addr) (H H' : Hp) : Prop := ∀ b o, H b = some o → b ≠ pl → H' b = some o
theorem KeepB.refl (pl : Addr) (H : Hp) : KeepB pl H H := fun _ _ h _ => h
theorem KeepB.trans {pl : Addr} {H H1 H2 : Hp} (a : KeepB pl H H1) (b : KeepB pl H1 H2) : KeepB pl H H2 := fun c o h n => b c o (a c o h n) n
theorem KeepB.of {pl : Addr} {H H' : Hp} (a : Same H H') : KeepB pl H H' := fun c o h _ => a c o h
theorem same_new {H : Hp} {p : Addr} {o : HO} (h : H p = none) : Same H (upd H p o) := fun b x e => by
  rw [upd_ne (ne_of_none e h)]
  exact e
theorem same_upd_new {H H' : Hp} {p : Addr} {o : HO} (s : Same H H') (h : H p = none) : Same H (upd H' p o) := fun b x e => by
  rw [upd_ne (ne_of_none e h)]
  exact s _ _ e
theorem keep_upd {pl : Addr} {H : Hp} {o : HO} : KeepB pl H (upd H pl o) := fun b x e n => by
  rw [upd_ne n]
  exact e
theorem keep_upd_new {pl p : Addr} {H H' : Hp} {o : HO} (s : KeepB pl H H') (h : H p = none) : KeepB pl H (upd H' p o) := fun b x e n => by
  rw [upd_ne (ne_of_none e h)]
  exact s _ _ e n
theorem room_of {j k : Nat} {A : Around} (r : Room k A) (h : j ≤ k := by decide) : Room j A := r.mono h
theorem iteP {c A B : Prop} [Decidable c] (hc : c) (h : A) : if c then A else B := by
  rw [if_pos hc]
  exact h
theorem iteN {c A B : Prop} [Decidable c] (hc : ¬ c) (h : B) : if c then A else B := by
  rw [if_neg hc]
  exact h
end Mg

set_option Elab.async false
set_option linter.all false
set_option maxRecDepth 100000
set_option maxHeartbeats 2000000
namespace Mg
open PySem L2
def top (i : Nat) : Stmt := PySem.Challenge.pw_mathgalley_k10_fonts.main.body.getD i (.Pass ⟨0, 0, 0, 0⟩)
abbrev sCell : Stmt := top 27
abbrev sDraws : Stmt := top 28
abbrev sStream : Stmt := top 29
abbrev sNext : Stmt := top 30
local macro_rules | `(tactic| walk_at "go") => `(tactic| repeat (first | refine ⟨_, rfl, ?_⟩ | refine ⟨_, _, rfl, rfl, ?_⟩))
structure TxtB (mg : Str → Option Value) : Prop where
  b_len : mg "len" = none
  b_int : mg "int" = none
  b_abs : mg "abs" = none
  range : mg "range" = none
  b_isinstance : mg "isinstance" = none
  b_tuple : mg "tuple" = none
  b_list : mg "list" = none
section
variable {P : Program} {w : World} {K : PySem.W.Frag} {mg : Str → Option Value} {base : Heap}
/-! _law_cell: some int -/
def spCellN (K : PySem.W.Frag) : Sp := fun vs H Q _ => ∃ (a : Addr) (ns : List Int) (j : Int), vs = [.ref a, .int j] ∧ SqL K H a (ns.map V.int) ∧ 0 ≤ j ∧ ∀ n : Int, Q (.int n) H
theorem scCell : FnScope ["script", "k"] ["script", "k"] (defScope sCell) := ⟨rfl, rfl, rfl, by decide +kernel, rfl, by decide +kernel, by decide +kernel⟩
theorem ok_cell {f : Addr} {fd : FuncData} (F : Fun K "_law_cell" "_law_cell" sCell f fd) (T : TxtB mg) : FnOk P w K mg base CX0 1 f fd ["script", "k"] (spCellN K) := by
  have sc := scCell
  refine F.ok scCell (fun vs H Q E h => ?_) (fun cdv A outer s H vs Q E hr h => ?_)
  · obtain ⟨a, ns, j, rfl, _⟩ := h
    rfl
  · obtain ⟨a, ns, j, rfl, hs, hj, k⟩ := h
    refine ⟨_, (pss_cons (ps_if (pt_cmpR op_lt (pv 1) (pe_callB call_len_seq (by rfl) T.b_len PySem.boot_len (pa_cons (pv 0) pa_nil)) (nomark _))
  (pss_one (ps_ret (pe_callTy call_int1 (by rfl) T.b_int (by decide +kernel) (pa_cons (pe_ix ix_list (pv 0) (pv 1) (fun _ _ => rfl)) pa_nil))))
  pss_nil)
  (pss_one (ps_ret pe_int))), ?_⟩
    refine ⟨_, rfl, _, rfl, a, _, rfl, .inl hs, _, _, rfl, rfl, _, rfl, ?_⟩
    rw [List.length_map]
    refine ite2 (fun c => ?_) (fun c => ?_)
    · have c' := of_decide_eq_true c
      obtain ⟨n, rfl⟩ := Int.eq_ofNat_of_zero_le hj
      have hn : n < ns.length := by omega
      have e1 : (ns.map V.int)[n]? = some (.int ns[n]) := by
        rw [List.getElem?_map, List.getElem?_eq_getElem hn]
        rfl
      exact ⟨_, rfl, _, rfl, a, _, _, _, rfl, rfl, hs, atI_nat e1, .inl ⟨_, rfl, k _⟩⟩
    · exact k 0

/-! _law_draws: count digits from 0 to 59, a new list -/
def Digits (ds : List Int) : Prop := ∀ d ∈ ds, 0 ≤ d ∧ d < 60
def spDraws : Sp := fun vs H Q _ => ∃ (n : Int) (c : Nat), vs = [.int n, .int (c : Int)] ∧ c ≤ 60 ∧ ∀ (ds : List Int) (l : Addr) (H' : Hp), H l = none → Same H H' → H' l = some (.lst (ds.map V.int)) → ds.length = c → Digits ds → Q (.ref l) H'
theorem digits_snoc {ds : List Int} {d : Int} (h : Digits ds) (h1 : 0 ≤ d) (h2 : d < 60) : Digits (ds ++ [d]) := fun x hx => by
  rcases List.mem_append.mp hx with z | z
  · exact h x z
  · rw [List.mem_singleton.mp z]
    exact ⟨h1, h2⟩
theorem scDraws : FnScope ["cell", "count", "number", "great", "found", "k", "mixed"] ["cell", "count"] (defScope sDraws) := ⟨rfl, rfl, rfl, by decide +kernel, rfl, by decide +kernel, by decide +kernel⟩
theorem ok_draws {f : Addr} {fd : FuncData} (F : Fun K "_law_draws" "_law_draws" sDraws f fd) (T : TxtB mg) : FnOk P w K mg base CX0 1 f fd ["cell", "count"] spDraws := by
  have sc := scDraws
  refine F.ok scDraws (fun vs H Q E h => ?_) (fun cdv A outer s H vs Q E hr h => ?_)
  · obtain ⟨n, c, rfl, _⟩ := h
    rfl
  · obtain ⟨n, c, rfl, hc, k⟩ := h
    refine ⟨_, (pss_cons (ps_set (i := 2) sc.nd rfl (Or.inl rfl) (pe_callB call_abs (by rfl) T.b_abs (by decide +kernel) (pa_cons (pe_callTy call_int1 (by rfl) T.b_int (by decide +kernel) (pa_cons (pv 0) pa_nil)) pa_nil)))
  (pss_cons (ps_set (i := 3) sc.nd rfl (Or.inl rfl) (pe_cmpR op_ge (pv 2) (pe_op op_pow pe_int pe_int) (nomark _)))
  (pss_cons (ps_set (i := 4) sc.nd rfl (Or.inl rfl) (pe_lst pa_nil))
  (pss_cons (ps_for PassesOwn.never rfl (pi_range1 rfl T.range (pa_cons pe_int pa_nil)) (pg_name (i := 5) sc.nd rfl (Or.inl rfl))
  (pss_one (ps_if (PW.pt (pw_and (pt_cmpR op_lt (pv 5) (pv 1) (nomark _)) (pw_and1 (pt_val (pv 3)))))
  (pss_cons (ps_expr (pe_bm PySem.F.plainAttrs_list PySem.F.slot_list_append PySem.F.type_list_append mt_append (pv 4) (pa_cons (pe_op op_mod (pv 2) pe_int) pa_nil)))
  (pss_one (ps_set (i := 2) sc.nd rfl (Or.inl rfl) (pe_op op_fdiv (pv 2) pe_int))))
  (pss_one (ps_if (pt_cmpR op_lt (pv 5) (pv 1) (nomark _))
  (pss_cons (ps_set (i := 6) sc.nd rfl (Or.inl rfl) (pe_op op_mod (pe_op op_add (pe_op op_add (pe_op op_mul (pe_callTy call_int1 (by rfl) T.b_int (by decide +kernel) (pa_cons (pv 2) pa_nil)) pe_int) (pe_op op_mul (pv 5) pe_int)) pe_int) pe_int))
  (pss_cons (ps_set (i := 6) sc.nd rfl (Or.inl rfl) (pe_op op_mod (pe_op op_add (pe_op op_add (pe_op op_mul (pe_callTy call_int1 (by rfl) T.b_int (by decide +kernel) (pa_cons (pv 6) pa_nil)) (pe_callTy call_int1 (by rfl) T.b_int (by decide +kernel) (pa_cons (pv 6) pa_nil))) (pe_op op_mul (pv 5) pe_int)) pe_int) pe_int))
  (pss_one (ps_expr (pe_bm PySem.F.plainAttrs_list PySem.F.slot_list_append PySem.F.type_list_append mt_append (pv 4) (pa_cons (pe_op op_mod (pe_callTy call_int1 (by rfl) T.b_int (by decide +kernel) (pa_cons (pv 6) pa_nil)) pe_int) pa_nil))))))
  pss_nil)))))
  (pss_one (ps_ret (pv 4))))))), ?_⟩
    refine ⟨_, rfl, .inl ⟨_, rfl, _, rfl, ?_⟩⟩
    refine ⟨_, rfl, _, _, rfl, rfl, ⟨by decide, by decide, by decide⟩, _, _, rfl, rfl, ?_⟩
    refine ⟨Nat.zero_le _, fun l hl => ?_⟩
    generalize (if n < 0 then -n else n) = n0
    obtain ⟨g, hg⟩ : ∃ g : Bool, g = decide ((10 : Int) ^ (Int.toNat 18) ≤ n0) := ⟨_, rfl⟩
    refine ⟨60, rfl, by decide, by decide, for_range (n := 60) (fun i σ H' => ∃ (nb : Int) (ds : List Int) (x5 x6 : Option V), σ = [some (.int n), some (.int (c : Int)), some (.int nb), some (.bl g), some (.ref l), x5, x6] ∧ ds.length = min i c ∧ Digits ds ∧ Same H H' ∧ H' l = some (.lst (ds.map V.int)))
      ⟨n0, [], none, none, (by rw [hg]; rfl), by simp, (fun _ hx => nomatch hx), same_new hl, upd_same⟩ ?_ ?_⟩
    · rintro i σ H' hi ⟨nb, ds, x5, x6, rfl, hlen, hd, hs, hL⟩
      have hz : ∀ m : Int, 0 ≤ m % 60 ∧ m % 60 < 60 := fun m => ⟨Int.emod_nonneg _ (by decide), Int.emod_lt_of_pos _ (by decide)⟩
      have hsz : (ds.map V.int).length < sizeLine := by
        rw [List.length_map]
        exact small1000 (by omega)
      refine ⟨_, rfl, _, rfl, _, _, rfl, rfl, _, rfl, ?_⟩
      refine ite2 (fun q => ?_) (fun q => ?_)
      · have q' : (0 : Int) + (i : Int) < (c : Int) := of_decide_eq_true q
        refine ⟨_, rfl, _, rfl, ?_⟩
        cases g with
        | true =>
          refine iteT ?_
          refine ⟨_, rfl, .inl ⟨rfl, _, SqL.of hL⟩, _, rfl, _, _, rfl, rfl, (by show (0 : Int) < 60; decide), _, _, _, rfl, rfl, hL, hsz, ?_⟩
          refine ⟨_, rfl, _, _, rfl, rfl, ⟨by decide, by decide⟩, ?_⟩
          exact ⟨_, ds ++ [nb % 60], _, _, rfl, by rw [List.length_append, hlen]; simp; omega, digits_snoc hd (hz _).1 (hz _).2, same_upd_new hs hl, by rw [upd_same, List.map_append]; rfl⟩
        | false =>
          refine iteF ?_
          refine ⟨_, rfl, _, rfl, _, _, rfl, rfl, _, rfl, ?_⟩
          refine iteP q ?_
          refine ⟨_, rfl, .inl ⟨_, rfl, ?_⟩⟩
          refine ⟨_, _, rfl, rfl, .inr ⟨by decide, by decide⟩, _, rfl, _, _, rfl, rfl, .inr ⟨by decide, by decide⟩, _, _, rfl, rfl, _, _, rfl, rfl, _, _, rfl, rfl, (by show (0 : Int) < 2147483647; decide), ?_⟩
          generalize hm : (nb * 48271 + (0 + (i : Int)) * 69621 + 11) % 2147483647 = m
          have m0 : 0 ≤ m := hm ▸ Int.emod_nonneg _ (by decide)
          have m1 : m < 2147483647 := hm ▸ Int.emod_lt_of_pos _ (by decide)
          refine ⟨_, rfl, .inl ⟨_, rfl, _, rfl, .inl ⟨_, rfl, ?_⟩⟩⟩
          refine ⟨_, _, rfl, rfl, .inr ⟨by omega, by omega⟩, _, rfl, _, _, rfl, rfl, .inr ⟨by decide, by decide⟩, _, _, rfl, rfl, _, _, rfl, rfl, _, _, rfl, rfl, (by show (0 : Int) < 998244353; decide), ?_⟩
          refine ⟨_, rfl, .inl ⟨rfl, _, SqL.of hL⟩, _, rfl, .inl ⟨_, rfl, _, _, rfl, rfl, (by show (0 : Int) < 60; decide), _, _, _, rfl, rfl, hL, hsz, ?_⟩⟩
          exact ⟨_, ds ++ [_], _, _, rfl, by rw [List.length_append, hlen]; simp; omega, digits_snoc hd (hz _).1 (hz _).2, same_upd_new hs hl, by rw [upd_same, List.map_append]; rfl⟩
      · refine iteF ?_
        refine ⟨_, rfl, _, rfl, _, _, rfl, rfl, _, rfl, ?_⟩
        refine iteN q ?_
        have q' : ¬ (0 : Int) + (i : Int) < (c : Int) := fun z => q (decide_eq_true z)
        exact ⟨_, ds, _, _, rfl, by rw [hlen]; omega, hd, hs, hL⟩
    · rintro σ H' ⟨nb, ds, x5, x6, rfl, hlen, hd, hs, hL⟩
      exact ⟨_, rfl, k ds l H' hl hs hL (by omega) hd⟩

/-! _law_stream: a new list of a list of digits and a list of one place -/
def Stream (H : Hp) (s pd pl : Addr) : Prop := pd ≠ pl ∧ s ≠ pl ∧ ∃ (ds : List Int) (k : Int), H s = some (.lst [.ref pd, .ref pl]) ∧ H pd = some (.lst (ds.map V.int)) ∧ H pl = some (.lst [.int k]) ∧ ds ≠ [] ∧ Digits ds ∧ ds.length ≤ 1000 ∧ 0 ≤ k
def spStream (K : PySem.W.Frag) : Sp := fun vs H Q _ => ∃ (a : Addr) (ns : List Int) (c : Nat), vs = [.ref a, .int 0, .int (c : Int)] ∧ SqL K H a (ns.map V.int) ∧ 1 ≤ c ∧ c ≤ 60 ∧
  ∀ (st pd pl : Addr) (H' : Hp), H st = none → H pd = none → H pl = none → Same H H' → Stream H' st pd pl → Q (.ref st) H'
theorem scStream : FnScope ["script", "first", "count", "found", "k"] ["script", "first", "count"] (defScope sStream) := ⟨rfl, rfl, rfl, by decide +kernel, rfl, by decide +kernel, by decide +kernel⟩
theorem ok_stream {f : Addr} {fd : FuncData} (F : Fun K "_law_stream" "_law_stream" sStream f fd) (T : TxtB mg) (C_law_cell : Cal P w K mg base CX0 1 "_law_cell" ["script", "k"] (spCellN K)) (C_law_draws : Cal P w K mg base CX0 1 "_law_draws" ["cell", "count"] spDraws) :
    FnOk P w K mg base CX0 2 f fd ["script", "first", "count"] (spStream K) := by
  have sc := scStream
  refine F.ok scStream (fun vs H Q E h => ?_) (fun cdv A outer s H vs Q E hr h => ?_)
  · obtain ⟨a, ns, c, rfl, _⟩ := h
    rfl
  · obtain ⟨a, ns, c, rfl, hS, c1, c2, k⟩ := h
    have hrlaw_draws : Room 1 _ := hr.mono (by decide)
    have hrlaw_cell : Room 1 _ := hr.mono (by decide)
    refine ⟨_, (pss_cons (ps_set (i := 3) sc.nd rfl (Or.inl rfl) (pe_lst pa_nil))
  (pss_cons (ps_for PassesOwn.never rfl (pi_range1 rfl T.range (pa_cons (pv 2) pa_nil)) (pg_name (i := 4) sc.nd rfl (Or.inl rfl))
  (pss_one (ps_expr (pe_bm PySem.F.plainAttrs_list PySem.F.slot_list_extend PySem.F.type_list_extend mt_extend (pv 3) (pa_cons (pe_cal C_law_draws hrlaw_draws rfl pass0 (pa_cons (pe_cal C_law_cell hrlaw_cell rfl pass0 (pa_cons (pv 0) (pa_cons (pe_op op_add (pv 1) (pv 4)) pa_nil))) (pa_cons pe_int pa_nil))) pa_nil)))))
  (pss_one (ps_ret (pe_lst (pa_cons (pv 3) (pa_cons (pe_lst (pa_cons pe_int pa_nil)) pa_nil))))))), ?_⟩
    refine ⟨Nat.zero_le _, fun l hl => ?_⟩
    refine ⟨_, rfl, (c : Int), rfl, by omega, by omega, for_range (n := c) (fun i σ H' => ∃ (ds : List Int) (x4 : Option V), σ = [some (.ref a), some (.int 0), some (.int (c : Int)), some (.ref l), x4] ∧ ds.length = 12 * i ∧ Digits ds ∧ Same H H' ∧ H' l = some (.lst (ds.map V.int)))
      ⟨[], none, rfl, rfl, (fun _ hx => nomatch hx), same_new hl, upd_same⟩ ?_ ?_⟩
    · rintro i σ H' hi ⟨ds, x4, rfl, hlen, hd, hs, hL⟩
      refine ⟨_, rfl, .inl ⟨rfl, _, SqL.of hL⟩, _, rfl, _, rfl, _, rfl, _, _, rfl, rfl, ?_⟩
      refine ⟨a, ns, _, rfl, hs.seq hS, by omega, fun n => ?_⟩
      refine ⟨n, 12, rfl, by decide, fun es l2 H2 n2 s2 h2 hl2 hd2 => ?_⟩
      refine ⟨l, l2, _, _, rfl, rfl, s2 _ _ hL, h2, ?_, ?_⟩
      · rw [List.length_map, List.length_map]
        exact Nat.le_of_lt (small1000 (by omega))
      · refine ⟨ds ++ es, _, rfl, by rw [List.length_append]; omega, fun x hx => (List.mem_append.mp hx).elim (hd x) (hd2 x), ?_, by rw [upd_same, List.map_append]⟩
        exact same_upd_new (hs.trans s2) hl
    · rintro σ H' ⟨ds, x4, rfl, hlen, hd, hs, hL⟩
      refine ⟨_, rfl, (by show 1 ≤ sizeLine; decide), fun pl hpl => ⟨(by show 2 ≤ sizeLine; decide), fun st hst => ?_⟩⟩
      have npl : l ≠ pl := ne_of_none hL hpl
      have nst : st ≠ pl := fun e => by
        rw [e, upd_same] at hst
        cases hst
      have hst' : H' st = none := by
        rw [upd_ne nst] at hst
        exact hst
      have nls : l ≠ st := ne_of_none hL hst'
      refine k st l pl _ (hs.free hst') hl (hs.free hpl) (same_upd_new (same_upd_new hs (hs.free hpl)) (hs.free hst')) ⟨npl, nst, ds, 0, upd_same, ?_, ?_, ?_, hd, by omega, by decide⟩
      · rw [upd_ne nls, upd_ne npl]
        exact hL
      · rw [upd_ne nst.symm, upd_same]
      · intro e
        rw [e] at hlen
        simp at hlen
        omega
/-! _law_next: some number below many; the place goes on -/
def spNext : Sp := fun vs H Q _ => ∃ (st pd pl : Addr) (m : Int), vs = [.ref st, .int m] ∧ 0 < m ∧ Stream H st pd pl ∧ ∀ (v : Int) (H' : Hp), 0 ≤ v → v < m → KeepB pl H H' → Stream H' st pd pl → Q (.int v) H'
theorem scNext : FnScope ["stream", "many", "digits", "place", "value"] ["stream", "many"] (defScope sNext) := ⟨rfl, rfl, rfl, by decide +kernel, rfl, by decide +kernel, by decide +kernel⟩
theorem ok_next {f : Addr} {fd : FuncData} (F : Fun K "_law_next" "_law_next" sNext f fd) (T : TxtB mg) : FnOk P w K mg base CX0 1 f fd ["stream", "many"] spNext := by
  have sc := scNext
  refine F.ok scNext (fun vs H Q E h => ?_) (fun cdv A outer s H vs Q E hr h => ?_)
  · obtain ⟨st, pd, pl, m, rfl, _⟩ := h
    rfl
  · obtain ⟨st, pd, pl, m, rfl, hm, ⟨n1, n2, ds, i, h1, h2, h3, hne, hd, hl, hi⟩, k⟩ := h
    refine ⟨_, (pss_cons (ps_set (i := 2) sc.nd rfl (Or.inl rfl) (pe_ix ix_list (pv 0) pe_int (fun _ _ => rfl)))
  (pss_cons (ps_set (i := 3) sc.nd rfl (Or.inl rfl) (pe_ix ix_list (pv 0) pe_int (fun _ _ => rfl)))
  (pss_cons (ps_set (i := 4) sc.nd rfl (Or.inl rfl) (pe_op op_mod (pe_callTy call_int1 (by rfl) T.b_int (by decide +kernel) (pa_cons (pe_ix ix_list (pv 2) (pe_op op_mod (pe_callTy call_int1 (by rfl) T.b_int (by decide +kernel) (pa_cons (pe_ix ix_list (pv 3) pe_int (fun _ _ => rfl)) pa_nil)) (pe_callB call_len_seq (by rfl) T.b_len PySem.boot_len (pa_cons (pv 2) pa_nil))) (fun _ _ => rfl)) pa_nil)) (pv 1)))
  (pss_cons (ps_asg (pe_op op_add (pe_ix ix_list (pv 3) pe_int (fun _ _ => rfl)) pe_int) (pg_sub (pv 3) pe_int set_list))
  (pss_one (ps_ret (pv 4))))))), ?_⟩
    have hlen : 0 < ds.length := List.length_pos_iff.mpr hne
    obtain ⟨q, hq⟩ : ∃ q : Nat, i % ((ds.length : Nat) : Int) = (q : Int) := ⟨_, (Int.toNat_of_nonneg (Int.emod_nonneg _ (by omega))).symm⟩
    have hq2 : q < ds.length := by
      have := Int.emod_lt_of_pos i (show (0 : Int) < ((ds.length : Nat) : Int) by omega)
      omega
    have e1 : (ds.map V.int)[q]? = some (.int ds[q]) := by
      rw [List.getElem?_map, List.getElem?_eq_getElem hq2]
      rfl
    refine ⟨_, rfl, st, _, _, _, rfl, rfl, SqL.of h1, rfl, ?_⟩
    refine ⟨_, rfl, st, _, _, _, rfl, rfl, SqL.of h1, rfl, ?_⟩
    refine ⟨_, rfl, _, rfl, pl, _, _, _, rfl, rfl, SqL.of h3, rfl, .inl ⟨_, rfl, ?_⟩⟩
    refine ⟨_, rfl, pd, _, rfl, .inl (SqL.of h2), _, _, rfl, rfl, (by rw [List.length_map]; omega), ?_⟩
    refine ⟨pd, _, _, _, rfl, rfl, SqL.of h2, (by rw [List.length_map, hq]; exact atI_nat e1), .inl ⟨_, rfl, ?_⟩⟩
    refine ⟨_, rfl, _, _, rfl, rfl, hm, ?_⟩
    refine ⟨_, rfl, pl, _, _, _, rfl, rfl, SqL.of h3, rfl, _, _, rfl, rfl, ?_⟩
    refine ⟨_, rfl, pl, _, _, 0, rfl, rfl, h3, rfl, ?_⟩
    refine ⟨_, rfl, k _ _ (Int.emod_nonneg _ (by omega)) (Int.emod_lt_of_pos _ hm) keep_upd ⟨n1, n2, ds, i + 1, ?_, ?_, upd_same, hne, hd, hl, by omega⟩⟩
    · rw [upd_ne n2]
      exact h1
    · rw [upd_ne n1]
      exact h2
end
end Mg

set_option Elab.async false
set_option linter.all false
set_option maxRecDepth 100000
set_option maxHeartbeats 2000000
namespace Mg
open PySem PySem.Spec PyProof.Rows L2
/-! len of what is read, with its bound -/
theorem call_len_sq {X : Cx} : CallR X (.builtin "len") (fun xs H Q => ∃ p ys, xs = [.ref p] ∧ (SqL X.K H p ys ∨ SqT X.K H p ys) ∧ (ys.length ≤ sizeLine → Q (.int ys.length) H)) := by
  intro pins s σ H xs us Q I r h
  obtain ⟨p, ys, rfl, hq, q⟩ := h
  refine call_len_seq pins s σ H [.ref p] us Q I r ⟨p, ys, rfl, hq, q ?_⟩
  rcases hq with hq | hq
  · obtain ⟨its, r', pl, hz⟩ := I.list hq
    exact hz
  · obtain ⟨its, r', pl, hz⟩ := I.tuple hq
    exact hz
theorem line62 {n : Nat} (h : n ≤ sizeLine) : (n : Int) < 2 ^ 62 := by
  have e := sizeLine_eq
  omega
/-! the types of what is read -/
theorem tyx_tup {K : PySem.W.Frag} {H : Hp} {a : Addr} {xs : List V} (h : SqT K H a xs) : TyX K H (.ref a) (.type "tuple") := by
  rcases h with (h | ⟨o, h⟩) | ⟨o, its, n, hk, hc, _⟩
  · exact .base (.tup h)
  · exact .fTuple h
  · exact .kTuple hk hc
theorem tyx_lst {K : PySem.W.Frag} {H : Hp} {a : Addr} {xs : List V} (h : SqL K H a xs) : TyX K H (.ref a) (.type "list") := by
  rcases h with (h | ⟨o, h⟩) | ⟨o, its, n, hk, hc, _⟩
  · exact .base (.lst h)
  · exact .base (.frz h)
  · exact .kList hk hc
/-- the type's name of data -/
def tyD : PyData → String
  | .none => "NoneType" | .bool _ => "bool" | .int _ => "int" | .str _ => "str" | .list _ => "list" | .tuple _ => "tuple" | .dict _ => "dict"
theorem tyx_D {K : PySem.W.Frag} {H : Hp} {v : V} {d : PyData} (h : Dp K H v d) : TyX K H v (.type (tyD d)) := by
  cases h with
  | non => exact .base .non
  | bl b => exact .base (.bl b)
  | int i => exact .base (.int i)
  | str x => exact .base (.str x)
  | lst hs _ => exact tyx_lst hs
  | tup hs _ => exact tyx_tup hs
/-- isinstance of data and a built-in type -/
theorem isi_D {K : PySem.W.Frag} {H : Hp} {v : V} {d : PyData} {n : String} {b : Bool} {Q : VK} (h : Dp K H v d) (e : kitB (tyD d) n = some b) (q : Q (.bl b) H) : rIsi K [v, .ty n] H Q :=
  ⟨v, .ty n, _, _, b, rfl, .ty n, tyx_D h, kit_ty e, q⟩
/-! data stay -/
/-- tuples that are read stay -/
def TupK (H H' : Hp) : Prop := ∀ a xs, Rd H a (.tup xs) → Rd H' a (.tup xs)
theorem TupK.of {H H' : Hp} (s : Same H H') : TupK H H' := fun a xs h => by
  rcases h with h | ⟨o, h⟩
  · exact .inl (s _ _ h)
  · exact .inr ⟨o, s _ _ h⟩
theorem TupK.trans {H H1 H2 : Hp} (a : TupK H H1) (b : TupK H1 H2) : TupK H H2 := fun c xs h => b c xs (a c xs h)
theorem TupK.keep {pl : Addr} {H H' : Hp} {xs : List V} (s : KeepB pl H H') (hp : H pl = some (.lst xs)) : TupK H H' := fun a ys h => by
  have n : ∀ o, H a = some o → (∀ z, o ≠ .lst z) → a ≠ pl := fun o e z q => by
    rw [q, hp] at e
    exact z _ (Option.some.inj e).symm
  rcases h with h | ⟨o, h⟩
  · exact .inl (s _ _ h (n _ h fun _ z => nomatch z))
  · exact .inr ⟨o, s _ _ h (n _ h fun _ z => nomatch z)⟩
theorem TupK.seq {K : PySem.W.Frag} {H H' : Hp} {a : Addr} {xs : List V} (s : TupK H H') (h : SqT K H a xs) : SqT K H' a xs := by
  rcases h with h | h
  · exact .inl (s _ _ h)
  · exact .inr h
theorem same_sqt {K : PySem.W.Frag} {H H' : Hp} {a : Addr} {xs : List V} (s : Same H H') (h : SqT K H a xs) : SqT K H' a xs := (TupK.of s).seq h
mutual
theorem Dp_same {K : PySem.W.Frag} {H H' : Hp} (s : Same H H') : ∀ {d : PyData} {v : V}, Dp K H v d → Dp K H' v d
  | _, _, .non => .non
  | _, _, .bl b => .bl b
  | _, _, .int i => .int i
  | _, _, .str x => .str x
  | _, _, .lst h r => .lst (s.seq h) (DpAll_same s r)
  | _, _, .tup h r => .tup (same_sqt s h) (DpAll_same s r)
theorem DpAll_same {K : PySem.W.Frag} {H H' : Hp} (s : Same H H') : ∀ {ds : List PyData} {vs : List V}, DpAll K H vs ds → DpAll K H' vs ds
  | _, _, .nil => .nil
  | _, _, .cons h r => .cons (Dp_same s h) (DpAll_same s r)
end
/-- data made of tuples alone -/
inductive Tp (K : PySem.W.Frag) (H : Hp) : V → PyData → Prop
  | non : Tp K H .non .none
  | bl (b : Bool) : Tp K H (.bl b) (.bool b)
  | int (i : Int) : Tp K H (.int i) (.int i)
  | str (x : Str) : Tp K H (.str x) (.str x)
  | tup {a : Addr} {xs : List V} {ds : List PyData} : SqT K H a xs → xs.length = ds.length → (∀ (i : Nat) (x : V) (d : PyData), xs[i]? = some x → ds[i]? = some d → Tp K H x d) → Tp K H (.ref a) (.tuple ds)
theorem Tp.stay {K : PySem.W.Frag} {H H' : Hp} (s : TupK H H') {v : V} {d : PyData} (h : Tp K H v d) : Tp K H' v d := by
  induction h with
  | non => exact .non
  | bl b => exact .bl b
  | int i => exact .int i
  | str x => exact .str x
  | tup hs hl _ ih => exact .tup (s.seq hs) hl ih
theorem all_of_get {K : PySem.W.Frag} {H : Hp} : ∀ {ds : List PyData} {xs : List V}, xs.length = ds.length → (∀ (i : Nat) (x : V) (d : PyData), xs[i]? = some x → ds[i]? = some d → Dp K H x d) → DpAll K H xs ds
  | [], [], _, _ => .nil
  | [], _ :: _, e, _ => by simp at e
  | _ :: _, [], e, _ => by simp at e
  | d :: ds, x :: xs, e, h => .cons (h 0 x d rfl rfl) (all_of_get (by simpa using e) fun i y z h1 h2 => h (i + 1) y z h1 h2)
theorem Tp.dp {K : PySem.W.Frag} {H : Hp} {v : V} {d : PyData} (h : Tp K H v d) : Dp K H v d := by
  induction h with
  | non => exact .non
  | bl b => exact .bl b
  | int i => exact .int i
  | str x => exact .str x
  | tup hs hl _ ih => exact .tup hs (all_of_get hl ih)
theorem DpAll.len {K : PySem.W.Frag} {H : Hp} : ∀ {ds : List PyData} {vs : List V}, DpAll K H vs ds → vs.length = ds.length
  | _, _, .nil => rfl
  | _, _, .cons _ r => by rw [List.length_cons, List.length_cons, DpAll.len r]
theorem DpAll.get {K : PySem.W.Frag} {H : Hp} : ∀ {ds : List PyData} {vs : List V} {i : Nat} {d : PyData}, DpAll K H vs ds → ds[i]? = some d → ∃ v, vs[i]? = some v ∧ Dp K H v d
  | _, _, _, _, .nil, e => by simp at e
  | _, _, 0, _, .cons h _, e => by
    cases Option.some.inj e
    exact ⟨_, rfl, h⟩
  | _, _, i + 1, _, .cons _ r, e => by
    obtain ⟨v, h1, h2⟩ := DpAll.get (i := i) r e
    exact ⟨v, h1, h2⟩
theorem depth_get : ∀ {ds : List PyData} {i : Nat} {d : PyData}, ds[i]? = some d → d.depth ≤ PyData.depthAll ds
  | [], _, _, e => by simp at e
  | x :: xs, 0, _, e => by
    cases Option.some.inj e
    simp only [PyData.depthAll]
    omega
  | x :: xs, i + 1, d, e => by
    have := depth_get (ds := xs) (i := i) (d := d) e
    simp only [PyData.depthAll]
    omega
end Mg

set_option Elab.async false
set_option linter.all false
set_option maxRecDepth 100000
set_option maxHeartbeats 2000000
namespace Mg
open PySem L2
abbrev sSame : Stmt := top 31
structure TxtC (mg : Str → Option Value) : Prop extends TxtB mg where
  b_bool : mg "bool" = none
  b_str : mg "str" = none
section
variable {P : Program} {w : World} {K : PySem.W.Frag} {mg : Str → Option Value} {base : Heap}
/-! _law_same: equal data are told so -/
def spSame (K : PySem.W.Frag) (n : Nat) : Sp := fun vs H Q _ => ∃ (v u : V) (d : PyData), vs = [v, u] ∧ Dp K H v d ∧ Dp K H u d ∧ d.depth ≤ n ∧ Q (.bl true) H
theorem scSame : FnScope ["actual", "expected", "k"] ["actual", "expected"] (defScope sSame) := ⟨rfl, rfl, rfl, by decide +kernel, rfl, by decide +kernel, by decide +kernel⟩
def spSameR (K : PySem.W.Frag) : Nat → Sp
  | 0 => fun _ _ _ _ => False
  | n + 1 => spSame K n
theorem FnOk.no {P : Program} {w : World} {K : PySem.W.Frag} {mg : Str → Option Value} {base : Heap} {CX : CXT} {k : Nat} {f : Addr} {fd : FuncData} {ps : List Str} : FnOk P w K mg base CX k f fd ps (fun _ _ _ _ => False) :=
  ⟨fun _ _ _ _ h => h.elim, fun _ _ _ _ _ _ _ _ _ _ _ _ _ h => h.elim⟩
theorem ok_same1 {f : Addr} {fd : FuncData} {n : Nat} (F : Fun K "_law_same" "_law_same" sSame f fd) (T : TxtC mg)
    (C_law_same : Cal P w K mg base CX0 n "_law_same" ["actual", "expected"] (spSameR K n)) : FnOk P w K mg base CX0 (n + 1) f fd ["actual", "expected"] (spSame K n) := by
  have sc := scSame
  refine F.ok scSame (fun vs H Q E h => ?_) (fun cdv A outer s H vs Q E hr h => ?_)
  · obtain ⟨v, u, d, rfl, _⟩ := h
    rfl
  · obtain ⟨v, u, d, rfl, hv, hu, hn, k⟩ := h
    have hrlaw_same : Room n _ := hr
    refine ⟨_, (pss_cons (ps_if (pt_cmpR op_isN (pv 1) pe_non (nomark _))
  (pss_one (ps_ret (pe_cmpR op_isN (pv 0) pe_non (nomark _))))
  pss_nil)
  (pss_cons (ps_if (pt_val (pe_callB call_isi (by rfl) T.b_isinstance (by decide +kernel) (pa_cons (pv 1) (pa_cons (pe_bltn (v := .ty "bool") (by rfl) T.b_bool PyProof.Rows.boot_bool rfl) pa_nil))))
  (pss_one (ps_ret (pe_and (pe_callB call_isi (by rfl) T.b_isinstance (by decide +kernel) (pa_cons (pv 0) (pa_cons (pe_bltn (v := .ty "bool") (by rfl) T.b_bool PyProof.Rows.boot_bool rfl) pa_nil))) (pe_one (pe_cmpR op_eq (pv 0) (pv 1) (nomark _))))))
  pss_nil)
  (pss_cons (ps_if (pt_val (pe_callB call_isi (by rfl) T.b_isinstance (by decide +kernel) (pa_cons (pv 1) (pa_cons (pe_bltn (v := .ty "int") (by rfl) T.b_int PyProof.Rows.boot_int rfl) pa_nil))))
  (pss_one (ps_ret (pe_and (pe_callB call_isi (by rfl) T.b_isinstance (by decide +kernel) (pa_cons (pv 0) (pa_cons (pe_bltn (v := .ty "int") (by rfl) T.b_int PyProof.Rows.boot_int rfl) pa_nil))) (pe_and (pe_not (pe_callB call_isi (by rfl) T.b_isinstance (by decide +kernel) (pa_cons (pv 0) (pa_cons (pe_bltn (v := .ty "bool") (by rfl) T.b_bool PyProof.Rows.boot_bool rfl) pa_nil)))) (pe_one (pe_cmpR op_eq (pv 0) (pv 1) (nomark _)))))))
  pss_nil)
  (pss_cons (ps_if (pt_val (pe_callB call_isi (by rfl) T.b_isinstance (by decide +kernel) (pa_cons (pv 1) (pa_cons (pe_bltn (v := .ty "str") (by rfl) T.b_str PyProof.Rows.boot_str rfl) pa_nil))))
  (pss_one (ps_ret (pe_and (pe_callB call_isi (by rfl) T.b_isinstance (by decide +kernel) (pa_cons (pv 0) (pa_cons (pe_bltn (v := .ty "str") (by rfl) T.b_str PyProof.Rows.boot_str rfl) pa_nil))) (pe_one (pe_cmpR op_eq (pv 0) (pv 1) (nomark _))))))
  pss_nil)
  (pss_cons (ps_if (PW.pt (pw_and (pt_val (pe_callB call_isi (by rfl) T.b_isinstance (by decide +kernel) (pa_cons (pv 1) (pa_cons (pe_bltn (v := .ty "tuple") (by rfl) T.b_tuple PyProof.Rows.boot_tuple rfl) pa_nil)))) (pw_and1 (pt_not (pt_val (pe_callB call_isi (by rfl) T.b_isinstance (by decide +kernel) (pa_cons (pv 0) (pa_cons (pe_bltn (v := .ty "tuple") (by rfl) T.b_tuple PyProof.Rows.boot_tuple rfl) pa_nil))))))))
  (pss_one (ps_ret pe_bl))
  pss_nil)
  (pss_cons (ps_if (PW.pt (pw_and (pt_val (pe_callB call_isi (by rfl) T.b_isinstance (by decide +kernel) (pa_cons (pv 1) (pa_cons (pe_bltn (v := .ty "list") (by rfl) T.b_list PyProof.Rows.boot_list rfl) pa_nil)))) (pw_and1 (pt_not (pt_val (pe_callB call_isi (by rfl) T.b_isinstance (by decide +kernel) (pa_cons (pv 0) (pa_cons (pe_bltn (v := .ty "list") (by rfl) T.b_list PyProof.Rows.boot_list rfl) pa_nil))))))))
  (pss_one (ps_ret pe_bl))
  pss_nil)
  (pss_cons (ps_if (pt_cmpR op_ne (pe_callB call_len_sq (by rfl) T.b_len PySem.boot_len (pa_cons (pv 0) pa_nil)) (pe_callB call_len_sq (by rfl) T.b_len PySem.boot_len (pa_cons (pv 1) pa_nil)) (nomark _))
  (pss_one (ps_ret pe_bl))
  pss_nil)
  (pss_cons (ps_for PassesOwn.never rfl (pi_range1 rfl T.range (pa_cons (pe_callB call_len_sq (by rfl) T.b_len PySem.boot_len (pa_cons (pv 1) pa_nil)) pa_nil)) (pg_name (i := 2) sc.nd rfl (Or.inl rfl))
  (pss_one (ps_if (pt_not (pt_val (pe_cal C_law_same hrlaw_same rfl pass0 (pa_cons (pe_ix ix_seq (pv 0) (pv 2) (fun _ _ => rfl)) (pa_cons (pe_ix ix_seq (pv 1) (pv 2) (fun _ _ => rfl)) pa_nil)))))
  (pss_one (ps_ret pe_bl))
  pss_nil)))
  (pss_one (ps_ret pe_bl)))))))))), ?_⟩
    refine ⟨_, rfl, rfl, _, rfl, ?_⟩
    cases hu with
    | non =>
      cases hv
      refine iteP (by simp) ?_
      exact ⟨_, rfl, rfl, by simpa using k⟩
    | bl b =>
      cases hv
      refine iteN (by simp) ?_
      refine ⟨_, rfl, _, _, _, _, true, rfl, .ty _, tyx_D (Dp.bl b), kit_ty (show kitB "bool" "bool" = some true by decide +kernel), _, rfl, ?_⟩
      refine iteT ?_
      refine ⟨_, rfl, _, _, _, _, true, rfl, .ty _, tyx_D (Dp.bl b), kit_ty (show kitB "bool" "bool" = some true by decide +kernel), _, rfl, ?_⟩
      refine iteT ?_
      exact ⟨_, rfl, _, rfl, rfl, by simpa using k⟩
    | int i =>
      cases hv
      refine iteN (by simp) ?_
      refine ⟨_, rfl, _, _, _, _, false, rfl, .ty _, tyx_D (Dp.int i), kit_ty (show kitB "int" "bool" = some false by decide +kernel), _, rfl, ?_⟩
      refine iteF ?_
      refine ⟨_, rfl, _, _, _, _, true, rfl, .ty _, tyx_D (Dp.int i), kit_ty (show kitB "int" "int" = some true by decide +kernel), _, rfl, ?_⟩
      refine iteT ?_
      refine ⟨_, rfl, _, _, _, _, true, rfl, .ty _, tyx_D (Dp.int i), kit_ty (show kitB "int" "int" = some true by decide +kernel), _, rfl, ?_⟩
      refine iteT ?_
      refine ⟨_, rfl, _, _, _, _, false, rfl, .ty _, tyx_D (Dp.int i), kit_ty (show kitB "int" "bool" = some false by decide +kernel), _, rfl, _, rfl, ?_⟩
      refine iteT ?_
      exact ⟨_, rfl, _, rfl, rfl, by simpa using k⟩
    | str x =>
      cases hv
      refine iteN (by simp) ?_
      refine ⟨_, rfl, _, _, _, _, false, rfl, .ty _, tyx_D (Dp.str x), kit_ty (show kitB "str" "bool" = some false by decide +kernel), _, rfl, ?_⟩
      refine iteF ?_
      refine ⟨_, rfl, _, _, _, _, false, rfl, .ty _, tyx_D (Dp.str x), kit_ty (show kitB "str" "int" = some false by decide +kernel), _, rfl, ?_⟩
      refine iteF ?_
      refine ⟨_, rfl, _, _, _, _, true, rfl, .ty _, tyx_D (Dp.str x), kit_ty (show kitB "str" "str" = some true by decide +kernel), _, rfl, ?_⟩
      refine iteT ?_
      refine ⟨_, rfl, _, _, _, _, true, rfl, .ty _, tyx_D (Dp.str x), kit_ty (show kitB "str" "str" = some true by decide +kernel), _, rfl, ?_⟩
      refine iteT ?_
      exact ⟨_, rfl, _, rfl, rfl, by simpa using k⟩
    | @lst a xs ds hs ha =>
      have hu : Dp K H (.ref a) (.list ds) := .lst hs ha
      have hv0 := hv
      cases hv with
      | @lst b ys _ hs2 ha2 =>
      refine iteN (by simp) ?_
      refine ⟨_, rfl, _, _, _, _, false, rfl, .ty _, tyx_D hu, kit_ty (show kitB "list" "bool" = some false by decide +kernel), _, rfl, ?_⟩
      refine iteF ?_
      refine ⟨_, rfl, _, _, _, _, false, rfl, .ty _, tyx_D hu, kit_ty (show kitB "list" "int" = some false by decide +kernel), _, rfl, ?_⟩
      refine iteF ?_
      refine ⟨_, rfl, _, _, _, _, false, rfl, .ty _, tyx_D hu, kit_ty (show kitB "list" "str" = some false by decide +kernel), _, rfl, ?_⟩
      refine iteF ?_
      refine ⟨_, rfl, _, _, _, _, false, rfl, .ty _, tyx_D hu, kit_ty (show kitB "list" "tuple" = some false by decide +kernel), _, rfl, ?_⟩
      refine iteF (iteF ?_)
      refine ⟨_, rfl, _, _, _, _, true, rfl, .ty _, tyx_D hu, kit_ty (show kitB "list" "list" = some true by decide +kernel), _, rfl, ?_⟩
      refine iteT ?_
      refine ⟨_, rfl, _, _, _, _, true, rfl, .ty _, tyx_D hv0, kit_ty (show kitB "list" "list" = some true by decide +kernel), _, rfl, ?_⟩
      refine iteF ?_
      have e1 := DpAll.len ha
      have e2 := DpAll.len ha2
      refine ⟨_, rfl, _, _, rfl, .inl hs2, fun _ => ⟨_, rfl, _, _, rfl, .inl hs, fun hz => ⟨rfl, _, rfl, ?_⟩⟩⟩
      refine iteN (by simp; omega) ?_
      refine ⟨_, rfl, a, xs, rfl, .inl hs, fun _ => ⟨(xs.length : Int), rfl, by omega, line62 hz, for_range (n := xs.length) (fun i σ H' => ∃ x2, σ = [some (.ref b), some (.ref a), x2] ∧ H' = H) ⟨none, rfl, rfl⟩ ?_ ?_⟩⟩
      · rintro i σ H' hi ⟨x2, rfl, rfl⟩
        obtain ⟨d, hd⟩ : ∃ d, ds[i]? = some d := ⟨_, List.getElem?_eq_getElem (by omega)⟩
        obtain ⟨x, hx, dx⟩ := DpAll.get ha hd
        obtain ⟨y, hy, dy⟩ := DpAll.get ha2 hd
        have dn := depth_get hd
        simp only [PyData.depth] at hn
        refine ⟨_, rfl, _, rfl, .inl ⟨b, ys, _, _, rfl, rfl, hs2, at_of (by omega) hy, _, rfl, _, rfl, .inl ⟨a, xs, _, _, rfl, rfl, hs, at_of (by omega) hx, ?_⟩⟩⟩
        cases n with
        | zero => omega
        | succ m =>
          refine ⟨y, x, d, rfl, dy, dx, by omega, _, rfl, ?_⟩
          exact iteF ⟨_, rfl, rfl⟩
      · rintro σ H' ⟨x2, rfl, rfl⟩
        exact k
    | @tup a xs ds hs ha =>
      have hu : Dp K H (.ref a) (.tuple ds) := .tup hs ha
      have hv0 := hv
      cases hv with
      | @tup b ys _ hs2 ha2 =>
      refine iteN (by simp) ?_
      refine ⟨_, rfl, _, _, _, _, false, rfl, .ty _, tyx_D hu, kit_ty (show kitB "tuple" "bool" = some false by decide +kernel), _, rfl, ?_⟩
      refine iteF ?_
      refine ⟨_, rfl, _, _, _, _, false, rfl, .ty _, tyx_D hu, kit_ty (show kitB "tuple" "int" = some false by decide +kernel), _, rfl, ?_⟩
      refine iteF ?_
      refine ⟨_, rfl, _, _, _, _, false, rfl, .ty _, tyx_D hu, kit_ty (show kitB "tuple" "str" = some false by decide +kernel), _, rfl, ?_⟩
      refine iteF ?_
      refine ⟨_, rfl, _, _, _, _, true, rfl, .ty _, tyx_D hu, kit_ty (show kitB "tuple" "tuple" = some true by decide +kernel), _, rfl, ?_⟩
      refine iteT ?_
      refine ⟨_, rfl, _, _, _, _, true, rfl, .ty _, tyx_D hv0, kit_ty (show kitB "tuple" "tuple" = some true by decide +kernel), _, rfl, ?_⟩
      refine iteF ?_
      refine ⟨_, rfl, _, _, _, _, false, rfl, .ty _, tyx_D hu, kit_ty (show kitB "tuple" "list" = some false by decide +kernel), _, rfl, ?_⟩
      refine iteF (iteF ?_)
      have e1 := DpAll.len ha
      have e2 := DpAll.len ha2
      refine ⟨_, rfl, _, _, rfl, .inr hs2, fun _ => ⟨_, rfl, _, _, rfl, .inr hs, fun hz => ⟨rfl, _, rfl, ?_⟩⟩⟩
      refine iteN (by simp; omega) ?_
      refine ⟨_, rfl, a, xs, rfl, .inr hs, fun _ => ⟨(xs.length : Int), rfl, by omega, line62 hz, for_range (n := xs.length) (fun i σ H' => ∃ x2, σ = [some (.ref b), some (.ref a), x2] ∧ H' = H) ⟨none, rfl, rfl⟩ ?_ ?_⟩⟩
      · rintro i σ H' hi ⟨x2, rfl, rfl⟩
        obtain ⟨d, hd⟩ : ∃ d, ds[i]? = some d := ⟨_, List.getElem?_eq_getElem (by omega)⟩
        obtain ⟨x, hx, dx⟩ := DpAll.get ha hd
        obtain ⟨y, hy, dy⟩ := DpAll.get ha2 hd
        have dn := depth_get hd
        simp only [PyData.depth] at hn
        refine ⟨_, rfl, _, rfl, .inr (.inl ⟨b, ys, _, _, rfl, rfl, hs2, at_of (by omega) hy, _, rfl, _, rfl, .inr (.inl ⟨a, xs, _, _, rfl, rfl, hs, at_of (by omega) hx, ?_⟩)⟩)⟩
        cases n with
        | zero => omega
        | succ m =>
          refine ⟨y, x, d, rfl, dy, dx, by omega, _, rfl, ?_⟩
          exact iteF ⟨_, rfl, rfl⟩
      · rintro σ H' ⟨x2, rfl, rfl⟩
        exact k
/-- at every depth -/
theorem ok_same {f : Addr} {fd : FuncData} (F : Fun K "_law_same" "_law_same" sSame f fd) (T : TxtC mg) (hm : mg "_law_same" = some (.ref f)) (hk : PySem.W.keepIn K (.ref f) = true) (hb : Binds K fd ["actual", "expected"] []) :
    ∀ n, Cal P w K mg base CX0 n "_law_same" ["actual", "expected"] (spSameR K n)
  | 0 => ⟨f, fd, FnOk.no, hm, hk, hb⟩
  | n + 1 => ⟨f, fd, ok_same1 F T (ok_same F T hm hk hb n), hm, hk, hb⟩
end
end Mg

set_option Elab.async false
set_option linter.all false
set_option maxRecDepth 100000
set_option maxHeartbeats 4000000
namespace Mg
open PySem PySem.Spec PyProof.Rows L2
/-! a set comprehension whose members are ints and texts -/
section
variable {X : Cx}
/-- {e for t in it if ..}: D is the new set -/
def tSk (P : Program) (w : World) (wi : TI) (g : TG) (tt : TT) (te : TE) (own : List Nat) : TE := fun σ H Q => wi σ H fun J Ha => ∀ D, Ha D = none →
  ∃ W : Nat → Nat → Hp → Prop, (∃ m, W 0 m (upd Ha D (SetK P w D (fun _ => false) 0))) ∧ ∀ i m Hb, W i m Hb → (J.stop i Hb ∧ Q (.ref D) Hb) ∨ (J.go i Hb ∧ ∃ Z : Hp → Prop, (∀ Hc, Z Hc → ∃ m', m' < m ∧ W (i + 1) m' Hc) ∧
    ∀ x Hc, J.yld i Hb x Hc → g x (wipe σ own) Hc fun ρ Hd => wipe ρ own = wipe σ own ∧ tt ρ Hd fun b He => if b = true then te ρ He fun y Hf => ∃ (k : Key) (S : Key → Bool) (n : Nat), y = kV k ∧ Hf D = some (SetK P w D S n) ∧ n + 1 < scanBound ∧
      Z (upd Hf D (SetK P w D (fun j => S j || decide (j = k)) (if S k = true then n else n + 1))) else Z He)
theorem setk_fresh (P : Program) (w : World) (h : Heap) : (h.push { cls := .type "set", dict := none, data := .set #[] 0 (.fresh 0 0 (!w.params.followText "set-order")) }).SetOf (mixKind P w) h.objs.size (fun _ => false) 0 := by
  refine ⟨_, #[], 0, _, Heap.get?_push_size _ rfl, ⟨rfl, rfl, rfl⟩, rfl, ?_, ?_, by decide, by rfl, rfl⟩
  · intro e he
    simp at he
  · intro k
    simp
theorem pe_sk {elt tg iter : Expr} {ifs : List Expr} {scope : Scope} {own : List (PySem.Str × Nat)} {pos : Pos} {wi : TI} {g : TG} {tt : TT} {te : TE} (calm : X.calm = true) (nd : X.N.Nodup) (hi : PI X tg iter wi) (ok : BlkOk X.N X.env.scope scope own)
    (hg : ∀ s H C cl fp, PG (X.blk s H scope (compEnvC scope cl C X.env) fp) tg g) (ht : ∀ s H C cl fp, PTs (X.blk s H scope (compEnvC scope cl C X.env) fp) ifs tt)
    (he : ∀ s H C cl fp, PE (X.blk s H scope (compEnvC scope cl C X.env) fp) elt te) (hf : ∀ x, foldedSetIterable iter X.env x = pure x := by intro _; rfl) :
    PE X (.SetComp elt [⟨tg, iter, ifs, 0⟩] scope pos) (tSk X.prog X.w wi g tt te (own.map (·.2))) := by
  refine ⟨fun pins s σ H Q I h => ?_⟩
  rw [PpSet.eval_SetComp]
  have free : ∀ y ∈ scope.names, y.2 = .free → ∃ c, X.env.cells.lookup y.1 = some c := fun y hy e => (ok.free y hy e).elim (fun k => I.ok.has _ (.inl k)) fun k => I.ok.has _ (.inr k)
  refine wpAny_comprehension_free (use := none) rfl hf (closure_ok free) ok.kind (fun y hy e => by rw [ok.uniq y hy, e]) ?_
  refine thn (hi.run pins s σ H _ I h) fun xv s1 hx => thn hx fun itv s2 h2 => ?_
  obtain ⟨it, fp, tn, J, Ha, rfl, Ia, T, sta, fa, q⟩ := h2
  refine PpSet.newSet_ok (newEnv_comp ?_)
  obtain ⟨D, hD⟩ : ∃ D, s2.heap.objs.size = D := ⟨_, rfl⟩
  rw [hD]
  obtain ⟨W, ⟨m0, w0⟩, turn⟩ := q D (Ia.hok.fresh (Nat.le_of_eq hD))
  obtain ⟨s3, hs3⟩ : ∃ s3 : Shared, s3 = { s2 with heap := s2.heap.push { cls := .type "set", dict := none, data := .set #[] 0 (.fresh 0 0 (!X.w.params.followText "set-order")) } } := ⟨_, rfl⟩
  rw [← hs3]
  have heap3 : s3.heap = s2.heap.push { cls := .type "set", dict := none, data := .set #[] 0 (.fresh 0 0 (!X.w.params.followText "set-order")) } := by rw [hs3]
  obtain ⟨Hd, hHd⟩ : ∃ Hd, Hd = upd Ha D (SetK X.prog X.w D (fun _ => false) 0) := ⟨_, rfl⟩
  rw [← hHd] at w0
  have Id : Inv X pins σ Hd s3 := by
    rw [hs3, hHd]
    refine Ia.laid (t' := s2.toks) (fun b o e => Heap.get?_push_of_some _ e) (Nat.le_of_eq hD) ?_
    rw [← hD]
    exact setK_new (setk_fresh X.prog X.w s2.heap)
  have small : ∀ b ∈ fp, b < s2.heap.objs.size := fun b hb => (T.obj _ _ sta b hb).elim fun o e => Heap.lt_size e.1
  have fd : ∀ b ∈ fp, FpOk X pins Hd b ∧ b < s3.heap.objs.size := fun b hb => by
    have lt := small b hb
    refine ⟨⟨?_, (fa b hb).2⟩, by rw [heap3, Heap.size_push]; exact Nat.lt_succ_of_lt lt⟩
    rw [hHd, upd_ne (by rw [← hD]; exact Nat.ne_of_lt lt)]
    exact (fa b hb).1
  have std : tn 0 s3.heap := T.keep _ _ _ sta fun b _ o e => by rw [heap3]; exact Heap.get?_push_of_some _ e
  have I4 := block_start Id ok nd fd
  obtain ⟨cl, hcl⟩ : ∃ cl, cl = cellsFrom (s3.heap.objs.size + 1) scope.names (cloFrom X.env.cells scope.names []) := ⟨_, rfl⟩
  rw [← hcl] at I4
  show codeAny _ _ (.compStart (.SetComp elt [⟨tg, iter, ifs, 0⟩] scope pos) 0 (.ref it) (.ref D) (compEnvC scope (cellsFrom (s3.heap.objs.size + 1) scope.names (cloFrom X.env.cells scope.names [])) s3.heap.objs.size X.env)) _ { s3 with heap := pushCells (s3.heap.push { cls := .type "dict", data := .dict #[] }) scope.names }
  rw [← hcl]
  have pg := hg s3 Hd s3.heap.objs.size cl fp
  have pt := ht s3 Hd s3.heap.objs.size cl fp
  have pe := he s3 Hd s3.heap.objs.size cl fp
  have none4 : ∀ b ∈ fp, Hd b = none := fun b hb => (fd b hb).1.1
  obtain ⟨ce, hce⟩ : ∃ ce, ce = compEnvC scope cl s3.heap.objs.size X.env := ⟨_, rfl⟩
  rw [← hce] at I4 pg pt pe ⊢
  have loc : ce.locals = s3.heap.objs.size := by rw [hce]; rfl
  obtain ⟨s4, hs4⟩ : ∃ s4 : Shared, s4 = { s3 with heap := pushCells (s3.heap.push { cls := .type "dict", data := .dict #[] }) scope.names } := ⟨_, rfl⟩
  rw [← hs4] at I4 ⊢
  have st4 : tn 0 s4.heap := T.keep _ _ _ std fun b _ o e => by rw [hs4]; exact pushCells_keeps _ _ _ _ (Heap.get?_push_of_some _ e)
  have fps : ∀ {σ' : L2.St} {H' : Hp} {s' : Shared}, Inv (X.blk s3 Hd scope ce fp) [] σ' H' s' → (∀ b ∈ fp, H' b = none) → ∀ b ∈ fp, FpOk (X.blk s3 Hd scope ce fp) [] H' b := fun {σ' H' s'} I' hn b hb =>
    ⟨hn b hb, (I'.ok.exf b hb).1, I'.ok.exfs b hb, .inl hb, fun x c e => (I'.ok.exf b hb).2 x c e, fun p hp => absurd (show p ∈ ([] : List (Addr × Obj)) ++ [] from hp) (by simp)⟩
  refine PpSet.codeAny_compStart_set ?loop (T.self X.A 0 _ _ _ st4 ?loop)
  refine PpSet.compLoopS_any (fun n s' => ∃ i Hk, Inv (X.blk s3 Hd scope ce fp) [] (wipe σ (own.map (·.2))) Hk s' ∧ tn i s'.heap ∧ (∀ b ∈ fp, Hk b = none) ∧ W i n Hk) ?_ m0 ⟨0, Hd, I4, st4, none4, w0⟩
  rintro n s5 ⟨i, H5, I5, st5, n5, w5⟩
  rcases turn i n H5 w5 with ⟨stop, fin⟩ | ⟨go, Z, hZ, step⟩
  · refine thnF (T.done (X.blk s3 Hd scope ce fp) rfl rfl rfl calm i [] s5 _ H5 (fun _ _ => False) I5 (fps I5 n5) st5 stop) fun r s6 ⟨hr, I6⟩ => ?_
    subst hr
    have I7 : Inv X pins σ H5 s6 := Id.call' (ch := fp) I6.os I6.base I6.hok I6.bare fun b hb => ⟨(fd b hb).1.2.2.2.1, (fd b hb).1.2.1, (fd b hb).1.2.2.2.2.1, (fd b hb).1.2.2.2.2.2⟩
    have gone : H5 s3.heap.objs.size = none := by
      rw [← loc]
      exact I6.free
    obtain ⟨mm, hn, _⟩ := I6.loc
    have hn : s6.heap.Ns ce.locals mm := hn
    rw [loc] at hn
    obtain ⟨f0, f1, f2, f3, f4, f5⟩ := Id.fpOk (Nat.le_refl _) gone
    exact ⟨mm, hn, fun h'' sb => ⟨.ref D, H5, I7.turned (t' := s6.toks) (fun b o hb e => (sb.2 b hb).trans e) f0 f1 f3 f4 f5, rfl, fin⟩⟩
  · refine thnF (T.item (X.blk s3 Hd scope ce fp) rfl rfl rfl calm i [] s5 _ H5 (fun _ _ => False) I5 (fps I5 n5) st5 go) fun r s6 ⟨u, hr, h6⟩ => ?_
    subst hr
    refine thnF h6 fun _ s7 ⟨x, H7, I7, r7, y7, st7, n7⟩ => ?_
    refine thnF (pg.run _ s7 _ H7 x u _ (I7.pinned (fps I7 n7) (T.obj _ _ st7)) r7 (step x H7 y7)) fun _ s8 ⟨σ8, H8, I8, hw8, q8⟩ => ?_
    refine thnF (pt.run _ s8 σ8 H8 _ I8 q8) fun b s9 ⟨H9, I9, q9⟩ => ?_
    have next : ∀ {s' : Shared} {H' : Hp}, Inv (X.blk s3 Hd scope ce fp) ([] ++ pinsAt fp s7.heap) σ8 H' s' → Z H' → ∃ m, m < n ∧ ∃ i Hk, Inv (X.blk s3 Hd scope ce fp) [] (wipe σ (own.map (·.2))) Hk s' ∧ tn i s'.heap ∧ (∀ b ∈ fp, Hk b = none) ∧ W i m Hk := fun {s' H'} I' nx => by
      obtain ⟨m', hm, w'⟩ := hZ H' nx
      have kept : ∀ b ∈ fp, ∀ o, s7.heap.get? b = some o → s'.heap.get? b = some o ∧ H' b = none := fun b hb o e => by
        have z := I'.pin (b, o) (List.mem_append_right _ (List.mem_append_right _ (mem_pinsAt hb e)))
        exact ⟨z.1, z.2.1⟩
      refine ⟨m', hm, i + 1, H', (I'.unpinned (pins := [])).weak (by rw [← hw8, wipe_length]) (fun j v e => ?_), T.keep _ _ _ st7 fun b hb o e => (kept b hb o e).1, fun b hb => ?_, w'⟩
      · rw [← hw8] at e
        exact (wipe_some e).1
      · obtain ⟨o, e, _⟩ := T.obj _ _ st7 b hb
        exact (kept b hb o e).2
    cases b with
    | false =>
      rw [if_neg Bool.false_ne_true] at q9
      exact next I9 q9
    | true =>
      rw [if_pos (rfl : true = true)] at q9
      refine thnF (pe.run _ s9 σ8 H9 _ I9 q9) fun z s10 ⟨yv, H10, I10, r10, k, S, n0, ey, hD10, room, nx⟩ => ?_
      subst ey
      refine thnF (mt_saddK (X := X.blk s3 Hd scope ce fp) _ s10 σ8 H10 (.ref D) [kV k] (.ref D) [z] (fun _ H' => Z H') I10 rfl (.cons r10 .nil) ⟨D, k, S, n0, rfl, rfl, hD10, room, nx⟩) fun _ s11 ⟨_, H11, I11, _, q11⟩ => ?_
      exact next I11 q11
end
end Mg

set_option Elab.async false
set_option linter.all false
set_option maxRecDepth 100000
set_option maxHeartbeats 2000000
namespace Mg
open PySem PySem.Spec PyProof.Rows L2
/-- a comprehension's walk by a word: acc is the list so far -/
theorem lc_word {J : It} {n : Nat} {g : TG} {tt : TT} {te : TE} {vs : List Nat} {σ : L2.St} {H1 : Hp} {D : Addr} {Qd : Hp → Prop} (Pv : Nat → List V → Hp → Prop) (h0 : Pv 0 [] (upd H1 D (.lst [])))
    (hgo : ∀ i acc H, i < n → Pv i acc H → J.go i H) (hst : ∀ acc H, Pv n acc H → J.stop n H)
    (hs : ∀ i acc x H H' (R : VK) (Z : Hp → Prop), i < n → Pv i acc H → H D = some (.lst acc) → J.yld i H x H' →
      (∀ y H3, H3 D = some (.lst acc) → acc.length < sizeLine → Pv (i + 1) (acc ++ [y]) (upd H3 D (.lst (acc ++ [y]))) → R y H3) → g x (wipe σ vs) H' fun σ2 H2 => wipe σ2 vs = wipe σ vs ∧ tt σ2 H2 fun b H3 => if b = true then te σ2 H3 R else Z H3)
    (hd : ∀ acc H, Pv n acc H → H D = some (.lst acc) → Qd H) :
    ∃ W : Nat → Nat → Hp → Prop, (∃ m, W 0 m (upd H1 D (.lst []))) ∧ ∀ i m H, W i m H → (J.stop i H ∧ Qd H) ∨ (J.go i H ∧ ∃ Nx : Hp → Prop, (∀ H', Nx H' → ∃ m', m' < m ∧ W (i + 1) m' H') ∧ ∀ x H', J.yld i H x H' →
      g x (wipe σ vs) H' fun σ2 H2 => wipe σ2 vs = wipe σ vs ∧ tt σ2 H2 fun b H3 => if b = true then te σ2 H3 fun y H4 => ∃ acc, H4 D = some (.lst acc) ∧ acc.length < sizeLine ∧ Nx (upd H4 D (.lst (acc ++ [y]))) else Nx H3) := by
  refine ⟨fun i m H => m = n - i ∧ i ≤ n ∧ ∃ acc, Pv i acc H ∧ H D = some (.lst acc), ⟨n, rfl, Nat.zero_le _, [], h0, upd_same⟩, ?_⟩
  rintro i m H ⟨rfl, hi, acc, p, hD⟩
  by_cases hlt : i < n
  · refine .inr ⟨hgo i acc H hlt p, fun H' => ∃ acc, Pv (i + 1) acc H' ∧ H' D = some (.lst acc), fun H' q => ⟨n - (i + 1), by omega, rfl, hlt, q⟩, fun x H' y => ?_⟩
    exact hs i acc x H H' _ _ hlt p hD y fun z H3 e hz q => ⟨acc, e, hz, acc ++ [z], q, upd_same⟩
  · have e : i = n := by omega
    subst e
    exact .inl ⟨hst acc H p, hd acc H p hD⟩
/-- .. where each item gives its value of a list, and nothing that stood is changed -/
theorem lc_pure {J : It} {g : TG} {tt : TT} {te : TE} {vs : List Nat} {σ : L2.St} {H1 : Hp} {D : Addr} {Qd : Hp → Prop} (outs : List V) (hD : H1 D = none) (hz : outs.length ≤ sizeLine)
    (hgo : ∀ i H, i < outs.length → Same H1 H → J.go i H) (hst : ∀ H, Same H1 H → J.stop outs.length H)
    (hs : ∀ i x H H' (R : VK) (Z : Hp → Prop), i < outs.length → Same H1 H → J.yld i H x H' → (∀ y H3, outs[i]? = some y → Same H H3 → R y H3) →
      g x (wipe σ vs) H' fun σ2 H2 => wipe σ2 vs = wipe σ vs ∧ tt σ2 H2 fun b H3 => if b = true then te σ2 H3 R else Z H3)
    (hd : ∀ H, Same H1 H → H D = some (.lst outs) → Qd H) :
    ∃ W : Nat → Nat → Hp → Prop, (∃ m, W 0 m (upd H1 D (.lst []))) ∧ ∀ i m H, W i m H → (J.stop i H ∧ Qd H) ∨ (J.go i H ∧ ∃ Nx : Hp → Prop, (∀ H', Nx H' → ∃ m', m' < m ∧ W (i + 1) m' H') ∧ ∀ x H', J.yld i H x H' →
      g x (wipe σ vs) H' fun σ2 H2 => wipe σ2 vs = wipe σ vs ∧ tt σ2 H2 fun b H3 => if b = true then te σ2 H3 fun y H4 => ∃ acc, H4 D = some (.lst acc) ∧ acc.length < sizeLine ∧ Nx (upd H4 D (.lst (acc ++ [y]))) else Nx H3) := by
  refine lc_word (n := outs.length) (fun i acc H => acc = outs.take i ∧ Same H1 H) ⟨by simp, same_new hD⟩ (fun i acc H hi p => hgo i H hi p.2) (fun acc H p => hst H p.2) ?_ (fun acc H p e => hd H p.2 (by rw [e, p.1, List.take_length]))
  rintro i acc x H H' R Z hi ⟨rfl, s⟩ e y k
  refine hs i x H H' R Z hi s y fun v H3 hv s3 => k v H3 (s3 _ _ e) (by rw [List.length_take]; omega) ⟨?_, same_upd_new (s.trans s3) hD⟩
  rw [List.take_add_one, hv]
  rfl
theorem pe_gstr {X : Cx} {x z : Str} {pos : Pos} (hg : Gl X x) (h : ∃ t, X.mg x = some (.str z t)) (hd : (x == ("__debug__" : Str)) = false := by decide) : PE X (.Name x pos) (tC (.str z)) := by
  obtain ⟨t, h⟩ := h
  exact pe_glob hg h ⟨_, rfl⟩ hd
theorem pe_gint {X : Cx} {x : Str} {z : Int} {pos : Pos} (hg : Gl X x) (h : ∃ t, X.mg x = some (.int z t)) (hd : (x == ("__debug__" : Str)) = false := by decide) : PE X (.Name x pos) (tC (.int z)) := by
  obtain ⟨t, h⟩ := h
  exact pe_glob hg h ⟨_, rfl⟩ hd
theorem pe_gref {X : Cx} {x : Str} {a : Addr} {pos : Pos} (hg : Gl X x) (h : X.mg x = some (.ref a)) (hd : (x == ("__debug__" : Str)) = false := by decide) : PE X (.Name x pos) (tC (.ref a)) :=
  pe_glob (v := .ref a) hg h rfl hd
/-! pieces of texts -/
theorem cut_from (z : Str) (n : Nat) : cutS z (some (n : Int)) none = SX.S (z.cps.toList.drop n) := by
  rw [C8.cutS_slice]
  have e : Txt.slice (SX.S z.cps.toList) (some (n : Int)) none = SX.S (z.cps.toList.drop n) := by
    rw [SX.slice_from (by omega)]
    rfl
  rw [SX.S_tl] at e
  exact e
theorem cut_to (z : Str) (n : Nat) : cutS z none (some (n : Int)) = SX.S (z.cps.toList.take n) := by
  rw [C8.cutS_slice]
  have e : Txt.slice (SX.S z.cps.toList) none (some (n : Int)) = SX.S (z.cps.toList.take n) := by
    rw [SX.slice_to (by omega)]
    rfl
  rw [SX.S_tl] at e
  exact e
theorem str_len (z : Str) : z.length = z.cps.toList.length := by simp [Str.length]
end Mg


set_option Elab.async false
set_option linter.all false
set_option maxRecDepth 100000
set_option maxHeartbeats 2000000
namespace Mg
open PySem L2
local macro_rules | `(tactic| walk_at "dec") => `(tactic| (first | (apply decide_eq_true; omega) | (simp only [Bool.not_eq_true', decide_eq_true_eq, decide_eq_false_iff_not, Bool.not_eq_true, Bool.not_eq_false', Decidable.not_not] <;> omega)))
abbrev sIsCommand : Stmt := top 9
abbrev sIsSymbol : Stmt := top 10
/-! ### names of symbols, over texts -/
def cLETTERS : Str := PySem.Str.ofString "abcdefghijklmnopqrstuvwxyz"
def cSIGNS : Str := PySem.Str.ofString "abcdefghijklmnopqrstuvwxyzABCDEFGHIJKLMNOPQRSTUVWXYZ0123456789+-*/=<>()[],;:!?.'"
def cRESERVED : List Str := ["@frac", "@root", "@left", "@right", "@grid"]
structure TxtS (K : PySem.W.Frag) (mg : Str → Option Value) (aR : Addr) : Prop where
  b_len : mg "len" = none
  b_all : mg "all" = none
  c_LETTERS : ∃ t, mg "LETTERS" = some (.str cLETTERS t)
  c_SIGNS : ∃ t, mg "SIGNS" = some (.str cSIGNS t)
  c_MOST_LETTERS : ∃ t, mg "MOST_LETTERS" = some (.int 8 t)
  c_RESERVED : mg "RESERVED" = some (.ref aR)
  k_RESERVED : ∀ H, SqT K H aR (cRESERVED.map V.str)
def isCommand (w : Str) : Bool := SX.S (w.cps.toList.take 1) == ("@" : Str) && (decide (1 ≤ (w.cps.toList.drop 1).length) && decide ((w.cps.toList.drop 1).length ≤ 8)) && (w.cps.toList.drop 1).all fun c => decide (c ∈ cLETTERS.cps.toList)
def isSymbol (w : Str) : Bool := if w.cps.toList.length = 1 then w.cps.toList.all fun c => decide (c ∈ cSIGNS.cps.toList) else isCommand w && !(cRESERVED.any fun r => r == w)
section
variable {P : Program} {w : World} {K : PySem.W.Frag} {mg : Str → Option Value} {base : Heap} {aR : Addr}
def spIsCommand : Sp := fun vs H Q _ => ∃ z : Str, vs = [.str z] ∧ z.length ≤ 1000 ∧ ∀ H', Same H H' → Q (.bl (isCommand z)) H'
theorem scIsCommand : FnScope ["word", "letters", "letter"] ["word"] (defScope sIsCommand) := ⟨rfl, rfl, rfl, by decide +kernel, rfl, by decide +kernel, by decide +kernel⟩
theorem dec_not {p : Prop} [Decidable p] (h : (!decide p) = true) : ¬ p := by simpa using h
theorem ok_is_command {f : Addr} {fd : FuncData} (F : Fun K "is_command" "is_command" sIsCommand f fd) (T : TxtS K mg aR) : FnOk P w K mg base CX0 1 f fd ["word"] spIsCommand := by
  have sc := scIsCommand
  refine F.ok scIsCommand (fun vs H Q E h => ?_) (fun cdv A outer s H vs Q E hr h => ?_)
  · obtain ⟨z, rfl, _⟩ := h
    rfl
  · obtain ⟨z, rfl, hz, k⟩ := h
    have big : z.length ≤ sizeLine := Nat.le_of_lt (small1000 hz)
    refine ⟨_, (pss_cons (ps_set (i := 1) sc.nd rfl (Or.inl rfl) (pe_slice sl_str (pv 0) (po_some pe_int) po_none))
  (pss_cons (ps_if (PW.pt (pw_or (pt_cmpR op_ne (pe_slice sl_str (pv 0) po_none (po_some pe_int)) pe_str (nomark _)) (pw_or1 (pt_not (pt_chain op_le op_le pe_int (pe_callB call_len_str (by rfl) T.b_len PySem.boot_len (pa_cons (pv 1) pa_nil)) (pe_gint rfl T.c_MOST_LETTERS))))))
  (pss_one (ps_ret pe_bl))
  pss_nil)
  (pss_one (ps_ret (pe_callB (cr_all rfl) (by rfl) T.b_all (by decide +kernel) (pa_cons (pe_lc (own := [("letter", 2)]) rfl sc.nd (pi_str (pv 1)) (blkOk_by (own := [("letter", 2)]) (N := ["word", "letters", "letter"]) (sc := defScope sIsCommand) (by decide +kernel)) (fun _ _ _ _ _ => (pg_name (i := 2) sc.nd rfl (Or.inl rfl))) (fun _ _ _ _ _ => pts_nil) (fun _ _ _ _ _ => (pe_cmpR op_in_sign (pv 2) (pe_gstr rfl T.c_LETTERS) (by rfl)))) pa_nil)))))), ?_⟩
    obtain ⟨l, hl⟩ : ∃ l, l = z.cps.toList := ⟨_, rfl⟩
    have zl : z.length = l.length := by rw [hl, str_len]
    have dl : (l.drop 1).length ≤ 1000 := by rw [List.length_drop]; omega
    refine ⟨_, rfl, 1, rfl, z, rfl, big, ?_⟩
    rw [show cutS z (some 1) none = SX.S (l.drop 1) by rw [hl]; exact cut_from z 1]
    refine ⟨_, rfl, 1, rfl, z, rfl, big, rfl, ?_⟩
    rw [show cutS z none (some 1) = SX.S (l.take 1) by rw [hl]; exact cut_to z 1]
    refine ⟨_, rfl, ?_⟩
    have kk : ∀ b : Bool, isCommand z = b → ∀ H', Same H H' → Q (.bl b) H' := fun b e H' s => e ▸ k H' s
    unfold isCommand at kk
    rw [← hl] at kk
    by_cases c1 : SX.S (l.take 1) = ("@" : Str)
    · refine iteN (by simp [c1]) ?_
      refine ⟨_, rfl, _, rfl, (by rw [SX.S_len]; exact Nat.le_of_lt (small1000 dl)), ?_⟩
      rw [SX.S_len]
      refine ⟨_, _, rfl, rfl, _, rfl, ?_⟩
      by_cases c2 : 1 ≤ (l.drop 1).length
      · refine iteP (by walk_at "dec") ?_
        refine ⟨_, _, rfl, rfl, _, rfl, ?_⟩
        by_cases c3 : (l.drop 1).length ≤ 8
        · refine iteN (by walk_at "dec") ?_
          refine ⟨_, rfl, _, rfl, fun D hD => lc_pure (H1 := H) ((l.drop 1).map fun c => V.bl (decide (c ∈ cLETTERS.cps.toList))) hD (by rw [List.length_map]; exact Nat.le_of_lt (small1000 dl)) ?_ ?_ ?_ ?_⟩
          · intro i H' hi _
            rw [List.length_map] at hi
            show i < (SX.S (l.drop 1)).cps.size
            simpa using hi
          · intro H' _
            rw [List.length_map]
            show (SX.S (l.drop 1)).cps.size ≤ _
            simp
          · rintro i x H' H'' R Z hi s ⟨rfl, c, hc, rfl⟩ kR
            have hc' : (l.drop 1)[i]? = some c := by simpa using hc
            refine ⟨rfl, ?_⟩
            refine ⟨_, rfl, c, _, rfl, rfl, kR _ _ ?_ (Same.refl _)⟩
            rw [List.getElem?_map, hc']
            rfl
          · intro H' s e
            refine ⟨D, (l.drop 1).map (fun c => decide (c ∈ cLETTERS.cps.toList)), rfl, SqL.of (by rw [e, List.map_map]; rfl), kk _ ?_ H' s⟩
            rw [c1, decide_eq_true c2, decide_eq_true c3, List.all_map]
            rfl
        · refine iteP (by walk_at "dec") ?_
          refine kk _ ?_ H (Same.refl _)
          rw [decide_eq_false c3]
          simp
      · refine iteN (by walk_at "dec") ⟨_, rfl, ?_⟩
        refine iteP (by rfl) ?_
        refine kk _ ?_ H (Same.refl _)
        rw [decide_eq_false c2]
        simp
    · refine iteP (by simp [c1]) ?_
      refine iteP rfl ?_
      refine kk _ ?_ H (Same.refl _)
      rw [beq_false_of_ne c1]
      simp
def spIsSymbol : Sp := fun vs H Q _ => ∃ z : Str, vs = [.str z] ∧ z.length ≤ 1000 ∧ ∀ H', Same H H' → Q (.bl (isSymbol z)) H'
theorem scIsSymbol : FnScope ["word"] ["word"] (defScope sIsSymbol) := ⟨rfl, rfl, rfl, by decide +kernel, rfl, by decide +kernel, by decide +kernel⟩
theorem inV_strs (z : Str) (l : List Str) : inV (.str z) (l.map V.str) = l.any fun r => r == z := by
  unfold inV
  rw [List.any_map]
  rfl
theorem flat_strs (l : List Str) : (l.map V.str).all flatV = true := by
  rw [List.all_map]
  exact List.all_eq_true.mpr fun _ _ => rfl
theorem ok_is_symbol {f : Addr} {fd : FuncData} (F : Fun K "is_symbol" "is_symbol" sIsSymbol f fd) (T : TxtS K mg aR) (C_is_command : Cal P w K mg base CX0 1 "is_command" ["word"] spIsCommand) : FnOk P w K mg base CX0 2 f fd ["word"] spIsSymbol := by
  have sc := scIsSymbol
  refine F.ok scIsSymbol (fun vs H Q E h => ?_) (fun cdv A outer s H vs Q E hr h => ?_)
  · obtain ⟨z, rfl, _⟩ := h
    rfl
  · obtain ⟨z, rfl, hz, k⟩ := h
    have big : z.length ≤ sizeLine := Nat.le_of_lt (small1000 hz)
    have hris_command : Room 1 _ := hr.mono (by decide)
    refine ⟨_, (pss_cons (ps_if (pt_cmpR op_eq (pe_callB call_len_str (by rfl) T.b_len PySem.boot_len (pa_cons (pv 0) pa_nil)) pe_int (nomark _))
  (pss_one (ps_ret (pe_cmpR op_in_sign (pv 0) (pe_gstr rfl T.c_SIGNS) (by rfl))))
  pss_nil)
  (pss_one (ps_ret (pe_and (pe_cal C_is_command hris_command rfl pass0 (pa_cons (pv 0) pa_nil)) (pe_one (pe_cmpR op_notIn_seq (pv 0) (pe_gref rfl T.c_RESERVED) (by rfl))))))), ?_⟩
    unfold isSymbol at k
    rw [← str_len] at k
    refine ⟨_, rfl, z, rfl, big, rfl, _, rfl, ?_⟩
    by_cases c : z.length = 1
    · refine iteP (by simp [c]) ?_
      rw [if_pos c] at k
      have c' : z.cps.toList.length = 1 := by rw [← str_len]; exact c
      obtain ⟨x, hx⟩ := List.length_eq_one_iff.mp c'
      have ez : z = ⟨#[x]⟩ := by
        rw [← SX.S_tl z, hx]
      refine ⟨_, rfl, x, _, by rw [ez], rfl, ?_⟩
      have q := k H (Same.refl _)
      rw [hx, List.all_cons, List.all_nil, Bool.and_true] at q
      exact q
    · refine iteN (by simp only [decide_eq_true_eq]; intro e; injection e with e; omega) ?_
      rw [if_neg c] at k
      refine ⟨_, rfl, z, rfl, hz, fun H1 s1 => ⟨_, rfl, ?_⟩⟩
      by_cases d : isCommand z = true
      · rw [d] at k
        refine iteP d ?_
        refine ⟨_, rfl, aR, _, rfl, .inr (T.k_RESERVED _), rfl, flat_strs _, ?_⟩
        have q := k H1 s1
        rw [Bool.true_and] at q
        show Q (V.bl (!inV (.str z) (cRESERVED.map V.str))) H1
        rw [inV_strs]
        exact q
      · refine iteN d ?_
        have q := k H1 s1
        rw [Bool.not_eq_true] at d
        rw [d, Bool.false_and] at q
        exact q
end
end Mg

set_option Elab.async false
set_option linter.all false
set_option maxRecDepth 100000
set_option maxHeartbeats 2000000
namespace Mg
open PySem L2
local macro_rules | `(tactic| walk_at "dec") => `(tactic| (first | (apply decide_eq_true; omega) | (simp only [Bool.not_eq_true', decide_eq_true_eq, decide_eq_false_iff_not, Bool.not_eq_true, Bool.not_eq_false', Decidable.not_not] <;> omega)))
abbrev sIsEntry : Stmt := top 23
abbrev sIsInteger : Stmt := top 25
def cCLASSES : List Str := ["op", "ord", "bin", "rel", "open", "close", "punct"]
structure TxtE (K : PySem.W.Frag) (mg : Str → Option Value) (aC : Addr) : Prop extends TxtC mg where
  b_all : mg "all" = none
  c_ROOT_SIGN : ∃ t, mg "ROOT_SIGN" = some (.str "@root" t)
  c_MOST_MEASURE : ∃ t, mg "MOST_MEASURE" = some (.int 1000 t)
  c_CLASSES : mg "CLASSES" = some (.ref aC)
  k_CLASSES : ∀ H, SqT K H aC (cCLASSES.map V.str)
def isInt (lo hi : Int) : PyData → Bool
  | .int i => decide (lo ≤ i) && decide (i ≤ hi)
  | _ => false
section
variable {P : Program} {w : World} {K : PySem.W.Frag} {mg : Str → Option Value} {base : Heap} {aC : Addr}
def spIsInteger (K : PySem.W.Frag) : Sp := fun vs H Q _ => ∃ (v : V) (d : PyData) (lo hi : Int), vs = [v, .int lo, .int hi] ∧ Dp K H v d ∧ Q (.bl (isInt lo hi d)) H
theorem scIsInteger : FnScope ["value", "least", "most"] ["value", "least", "most"] (defScope sIsInteger) := ⟨rfl, rfl, rfl, by decide +kernel, rfl, by decide +kernel, by decide +kernel⟩
theorem ok_is_integer {f : Addr} {fd : FuncData} (F : Fun K "is_integer" "is_integer" sIsInteger f fd) (T : TxtC mg) : FnOk P w K mg base CX0 1 f fd ["value", "least", "most"] (spIsInteger K) := by
  have sc := scIsInteger
  refine F.ok scIsInteger (fun vs H Q E h => ?_) (fun cdv A outer s H vs Q E hr h => ?_)
  · obtain ⟨v, d, lo, hi, rfl, _⟩ := h
    rfl
  · obtain ⟨v, d, lo, hi, rfl, hv, k⟩ := h
    refine ⟨_, (pss_one (ps_ret (pe_and (pe_callB call_isi (by rfl) T.b_isinstance (by decide +kernel) (pa_cons (pv 0) (pa_cons (pe_bltn (v := .ty "int") (by rfl) T.b_int PyProof.Rows.boot_int rfl) pa_nil))) (pe_and (pe_not (pe_callB call_isi (by rfl) T.b_isinstance (by decide +kernel) (pa_cons (pv 0) (pa_cons (pe_bltn (v := .ty "bool") (by rfl) T.b_bool PyProof.Rows.boot_bool rfl) pa_nil)))) (pe_one (pe_chain op_le op_le (pv 1) (pv 0) (pv 2))))))), ?_⟩
    have hv0 := hv
    cases hv with
    | non => exact ⟨_, rfl, _, _, _, _, false, rfl, .ty _, tyx_D hv0, kit_ty (show kitB "NoneType" "int" = some false by decide +kernel), _, rfl, iteF k⟩
    | str x => exact ⟨_, rfl, _, _, _, _, false, rfl, .ty _, tyx_D hv0, kit_ty (show kitB "str" "int" = some false by decide +kernel), _, rfl, iteF k⟩
    | lst hs ha => exact ⟨_, rfl, _, _, _, _, false, rfl, .ty _, tyx_D hv0, kit_ty (show kitB "list" "int" = some false by decide +kernel), _, rfl, iteF k⟩
    | tup hs ha => exact ⟨_, rfl, _, _, _, _, false, rfl, .ty _, tyx_D hv0, kit_ty (show kitB "tuple" "int" = some false by decide +kernel), _, rfl, iteF k⟩
    | bl b =>
      refine ⟨_, rfl, _, _, _, _, true, rfl, .ty _, tyx_D hv0, kit_ty (show kitB "bool" "int" = some true by decide +kernel), _, rfl, iteT ?_⟩
      exact ⟨_, rfl, _, _, _, _, true, rfl, .ty _, tyx_D hv0, kit_ty (show kitB "bool" "bool" = some true by decide +kernel), _, rfl, _, rfl, iteF k⟩
    | int i =>
      refine ⟨_, rfl, _, _, _, _, true, rfl, .ty _, tyx_D hv0, kit_ty (show kitB "int" "int" = some true by decide +kernel), _, rfl, iteT ?_⟩
      refine ⟨_, rfl, _, _, _, _, false, rfl, .ty _, tyx_D hv0, kit_ty (show kitB "int" "bool" = some false by decide +kernel), _, rfl, _, rfl, iteT ?_⟩
      refine ⟨_, rfl, _, rfl, _, _, rfl, rfl, _, rfl, ?_⟩
      have k' : Q (V.bl (decide (lo ≤ i) && decide (i ≤ hi))) H := k
      by_cases c : lo ≤ i
      · rw [decide_eq_true c, Bool.true_and] at k'
        exact iteP (decide_eq_true c) ⟨_, rfl, _, _, rfl, rfl, k'⟩
      · rw [decide_eq_false c, Bool.false_and] at k'
        exact iteN (by walk_at "dec") k'
/-! ### an entry -/
def isName : PyData → Bool
  | .str s => isSymbol s || s == "@root"
  | _ => false
def isKind : PyData → Bool
  | .str s => cCLASSES.any fun r => r == s
  | _ => false
def isEntry : PyData → Bool
  | .tuple [n, k, a, b, c] => isName n && (isKind k && (isInt 0 1000 a && (isInt 0 1000 b && isInt 0 1000 c)))
  | _ => false
def flatD : PyData → Bool
  | .none => true | .bool _ => true | .int _ => true | .str _ => true | _ => false
/-- what is asked of what may be an entry: names are no long texts, kinds are flat -/
def PreE : PyData → Prop
  | .tuple [n, k, _, _, _] => (∀ s, n = .str s → s.length ≤ 1000) ∧ flatD k = true
  | _ => True
theorem flat_of {K : PySem.W.Frag} {H : Hp} {v : V} {d : PyData} (h : Dp K H v d) (f : flatD d = true) : flatV v = true := by
  cases h <;> first | rfl | exact absurd f Bool.false_ne_true
theorem inV_kind {K : PySem.W.Frag} {H : Hp} {v : V} {d : PyData} (h : Dp K H v d) (f : flatD d = true) : inV v (cCLASSES.map V.str) = isKind d := by
  cases h <;> first | rfl | exact absurd f Bool.false_ne_true | exact inV_strs _ _
def spIsEntry (K : PySem.W.Frag) : Sp := fun vs H Q _ => ∃ (v : V) (d : PyData), vs = [v] ∧ Dp K H v d ∧ PreE d ∧ ∀ H', Same H H' → Q (.bl (isEntry d)) H'
theorem scIsEntry : FnScope ["value", "name", "kind", "width", "height", "depth", "n"] ["value"] (defScope sIsEntry) := ⟨rfl, rfl, rfl, by decide +kernel, rfl, by decide +kernel, by decide +kernel⟩
theorem no_entry {ds : List PyData} (h : ¬ ds.length = 5) : isEntry (.tuple ds) = false := by
  match ds, h with
  | [], _ => rfl
  | [_], _ => rfl
  | [_, _], _ => rfl
  | [_, _, _], _ => rfl
  | [_, _, _, _], _ => rfl
  | [_, _, _, _, _], h => exact absurd rfl h
  | _ :: _ :: _ :: _ :: _ :: _ :: _, _ => rfl
theorem five {α : Type} {l : List α} (h : l.length = 5) : ∃ a b c d e, l = [a, b, c, d, e] := by
  match l, h with
  | [a, b, c, d, e], _ => exact ⟨a, b, c, d, e, rfl⟩
theorem ok_is_entry {f : Addr} {fd : FuncData} (F : Fun K "is_entry" "is_entry" sIsEntry f fd) (T : TxtE K mg aC) (C_is_symbol : Cal P w K mg base CX0 2 "is_symbol" ["word"] spIsSymbol)
    (C_is_integer : Cal P w K mg base CX0 1 "is_integer" ["value", "least", "most"] (spIsInteger K)) : FnOk P w K mg base CX0 3 f fd ["value"] (spIsEntry K) := by
  have sc := scIsEntry
  refine F.ok scIsEntry (fun vs H Q E h => ?_) (fun cdv A outer s H vs Q E hr h => ?_)
  · obtain ⟨v, d, rfl, _⟩ := h
    rfl
  · obtain ⟨v, d, rfl, hv, pre, k⟩ := h
    have hris_symbol : Room 2 _ := hr.mono (by decide)
    have hris_integer : Room 1 _ := hr.mono (by decide)
    refine ⟨_, (pss_cons (ps_if (PW.pt (pw_or (pt_not (pt_val (pe_callB call_isi (by rfl) T.b_isinstance (by decide +kernel) (pa_cons (pv 0) (pa_cons (pe_bltn (v := .ty "tuple") (by rfl) T.b_tuple PyProof.Rows.boot_tuple rfl) pa_nil))))) (pw_or1 (pt_cmpR op_ne (pe_callB call_len_sq (by rfl) T.b_len PySem.boot_len (pa_cons (pv 0) pa_nil)) pe_int (nomark _)))))
  (pss_one (ps_ret pe_bl))
  pss_nil)
  (pss_cons (ps_asg (pv 0) (pg_tup rfl (pgs_cons (pg_name (i := 1) sc.nd rfl (Or.inl rfl)) (pgs_cons (pg_name (i := 2) sc.nd rfl (Or.inl rfl)) (pgs_cons (pg_name (i := 3) sc.nd rfl (Or.inl rfl)) (pgs_cons (pg_name (i := 4) sc.nd rfl (Or.inl rfl)) (pgs_cons (pg_name (i := 5) sc.nd rfl (Or.inl rfl)) pgs_nil)))))))
  (pss_cons (ps_if (PW.pt (pw_or (pt_not (pt_val (pe_callB call_isi (by rfl) T.b_isinstance (by decide +kernel) (pa_cons (pv 1) (pa_cons (pe_bltn (v := .ty "str") (by rfl) T.b_str PyProof.Rows.boot_str rfl) pa_nil))))) (pw_or1 (pt_not (PW.pt (pw_or (pt_val (pe_cal C_is_symbol hris_symbol rfl pass0 (pa_cons (pv 1) pa_nil))) (pw_or1 (pt_cmpR op_eq (pv 1) (pe_gstr rfl T.c_ROOT_SIGN) (nomark _)))))))))
  (pss_one (ps_ret pe_bl))
  pss_nil)
  (pss_one (ps_ret (pe_and (pe_cmpR op_in_seq (pv 2) (pe_gref rfl T.c_CLASSES) (by rfl)) (pe_one (pe_callB (cr_all rfl) (by rfl) T.b_all (by decide +kernel) (pa_cons (pe_lc (own := [("n", 6)]) rfl sc.nd (pi_tup (pe_tup (pa_cons (pv 3) (pa_cons (pv 4) (pa_cons (pv 5) pa_nil))))) (blkOk_by (own := [("n", 6)]) (N := ["value", "name", "kind", "width", "height", "depth", "n"]) (sc := defScope sIsEntry) (by decide +kernel)) (fun _ _ _ _ _ => (pg_name (i := 6) sc.nd rfl (Or.inl rfl))) (fun _ _ _ _ _ => pts_nil) (fun _ _ _ _ _ => (pe_cal C_is_integer hris_integer rfl pass0 (pa_cons (pv 6) (pa_cons pe_int (pa_cons (pe_gint rfl T.c_MOST_MEASURE) pa_nil)))))) pa_nil))))))))), ?_⟩
    have hv0 := hv
    cases hv with
    | non => exact ⟨_, rfl, _, _, _, _, false, rfl, .ty _, tyx_D hv0, kit_ty (show kitB "NoneType" "tuple" = some false by decide +kernel), _, rfl, iteT (iteT (k _ (Same.refl _)))⟩
    | bl b => exact ⟨_, rfl, _, _, _, _, false, rfl, .ty _, tyx_D hv0, kit_ty (show kitB "bool" "tuple" = some false by decide +kernel), _, rfl, iteT (iteT (k _ (Same.refl _)))⟩
    | int b => exact ⟨_, rfl, _, _, _, _, false, rfl, .ty _, tyx_D hv0, kit_ty (show kitB "int" "tuple" = some false by decide +kernel), _, rfl, iteT (iteT (k _ (Same.refl _)))⟩
    | str x => exact ⟨_, rfl, _, _, _, _, false, rfl, .ty _, tyx_D hv0, kit_ty (show kitB "str" "tuple" = some false by decide +kernel), _, rfl, iteT (iteT (k _ (Same.refl _)))⟩
    | lst hs ha => exact ⟨_, rfl, _, _, _, _, false, rfl, .ty _, tyx_D hv0, kit_ty (show kitB "list" "tuple" = some false by decide +kernel), _, rfl, iteT (iteT (k _ (Same.refl _)))⟩
    | @tup a xs ds hs ha =>
      refine ⟨_, rfl, _, _, _, _, true, rfl, .ty _, tyx_D hv0, kit_ty (show kitB "tuple" "tuple" = some true by decide +kernel), _, rfl, iteF ?_⟩
      have el := DpAll.len ha
      refine ⟨_, rfl, a, xs, rfl, .inr hs, fun _ => ⟨rfl, _, rfl, ?_⟩⟩
      by_cases c : ¬ ds.length = 5
      · refine iteP (by simp only [Bool.not_eq_true', decide_eq_false_iff_not]; intro z; injection z with z; omega) ?_
        have q := k H (Same.refl _)
        rw [no_entry c] at q
        exact q
      have c := Decidable.not_not.mp c
      refine iteN (by simp only [Bool.not_eq_true', Bool.not_eq_false, decide_eq_true_eq]; rw [el, c]; rfl) ?_
      obtain ⟨n, kd, w1, w2, w3, rfl⟩ := five c
      obtain ⟨x1, x2, x3, x4, x5, rfl⟩ := five (show xs.length = 5 by omega)
      cases ha with
      | cons d1 ha => cases ha with
      | cons d2 ha => cases ha with
      | cons d3 ha => cases ha with
      | cons d4 ha => cases ha with
      | cons d5 ha =>
      obtain ⟨p1, p2⟩ := pre
      refine ⟨_, rfl, a, _, rfl, hs, rfl, x1, _, rfl, x2, _, rfl, x3, _, rfl, x4, _, rfl, x5, _, rfl, rfl, ?_⟩
      have kk : ∀ b : Bool, (isName n && (isKind kd && (isInt 0 1000 w1 && (isInt 0 1000 w2 && isInt 0 1000 w3)))) = b → ∀ H', Same H H' → Q (.bl b) H' := fun b e H' s => e ▸ k H' s
      have d10 := d1
      cases d1 with
      | non => exact ⟨_, rfl, _, _, _, _, false, rfl, .ty _, tyx_D d10, kit_ty (show kitB "NoneType" "str" = some false by decide +kernel), _, rfl, iteT (iteT (kk _ rfl _ (Same.refl _)))⟩
      | bl b => exact ⟨_, rfl, _, _, _, _, false, rfl, .ty _, tyx_D d10, kit_ty (show kitB "bool" "str" = some false by decide +kernel), _, rfl, iteT (iteT (kk _ rfl _ (Same.refl _)))⟩
      | int b => exact ⟨_, rfl, _, _, _, _, false, rfl, .ty _, tyx_D d10, kit_ty (show kitB "int" "str" = some false by decide +kernel), _, rfl, iteT (iteT (kk _ rfl _ (Same.refl _)))⟩
      | lst hs ha => exact ⟨_, rfl, _, _, _, _, false, rfl, .ty _, tyx_D d10, kit_ty (show kitB "list" "str" = some false by decide +kernel), _, rfl, iteT (iteT (kk _ rfl _ (Same.refl _)))⟩
      | tup hs ha => exact ⟨_, rfl, _, _, _, _, false, rfl, .ty _, tyx_D d10, kit_ty (show kitB "tuple" "str" = some false by decide +kernel), _, rfl, iteT (iteT (kk _ rfl _ (Same.refl _)))⟩
      | str z =>
        have hz := p1 z rfl
        refine ⟨_, rfl, _, _, _, _, true, rfl, .ty _, tyx_D d10, kit_ty (show kitB "str" "str" = some true by decide +kernel), _, rfl, iteF ?_⟩
        refine (Evl.et_not (Evl.et_or (b := decide (V.str z = V.str "@root")) (Evl.et_B (Evl.ev_call (Evl.ea_cons (Evl.ev_var rfl) Evl.ea_nil) (fun H1 _ Q q E => ⟨z, rfl, hz, fun H' s => q H' s⟩))) fun _ => Evl.et_test (Evl.ev_op (Evl.ev_var rfl) Evl.ev_c (Evl.rv_eq rfl)))) H (Evl.Ex.refl H) _ fun H2 s2 => ?_
        have en : (isSymbol z || decide (V.str z = V.str "@root")) = isName (.str z) := by
          show _ = (isSymbol z || z == "@root")
          rw [dec_str]
        rw [en]
        cases hN : isName (.str z) with
        | false =>
          refine iteT ?_
          rw [hN] at kk
          exact kk _ rfl _ s2
        | true =>
          refine iteF ?_
          rw [hN] at kk
          refine ⟨_, rfl, aC, _, rfl, .inr (T.k_CLASSES _), flat_of d2 p2, flat_strs _, _, rfl, ?_⟩
          show (if (inV x2 (cCLASSES.map V.str)) = true then _ else _)
          rw [inV_kind d2 p2]
          cases hK : isKind kd with
          | false =>
            refine iteF ?_
            rw [hK] at kk
            exact kk _ rfl _ s2
          | true =>
            refine iteT ?_
            rw [hK] at kk
            have D3 := Dp_same s2 d3
            have D4 := Dp_same s2 d4
            have D5 := Dp_same s2 d5
            refine ⟨_, rfl, _, rfl, _, rfl, (by show 3 ≤ sizeLine; decide), fun t ht => ⟨t, rfl, ⟨_, SqT.of upd_same⟩, fun D hD => ?_⟩⟩
            have st : ∀ {H'}, Same (upd H2 t (.tup [x3, x4, x5])) H' → SqT K H' t [x3, x4, x5] := fun s => same_sqt s (SqT.of upd_same)
            refine lc_pure ([w1, w2, w3].map fun d => V.bl (isInt 0 1000 d)) hD (by show 3 ≤ sizeLine; decide) (fun i H' hi s => ?_) (fun H' s => ⟨_, st s, Nat.le_refl 3⟩) ?_ ?_
            · have hi : i < 3 := hi
              exact ⟨_, ([x3, x4, x5] : List V)[i], st s, List.getElem?_eq_getElem hi⟩
            · rintro i x H' H'' R Z hi s ⟨rfl, hy⟩ kR
              have hi : i < 3 := hi
              have hx := hy _ (st s)
              have sS : Same H2 H'' := (same_new ht).trans s
              obtain ⟨d, hd, dx⟩ : ∃ d, ([w1, w2, w3] : List PyData)[i]? = some d ∧ Dp K H'' x d := by
                match i, hi with
                | 0, _ =>
                  cases hx
                  exact ⟨_, rfl, Dp_same sS D3⟩
                | 1, _ =>
                  cases hx
                  exact ⟨_, rfl, Dp_same sS D4⟩
                | 2, _ =>
                  cases hx
                  exact ⟨_, rfl, Dp_same sS D5⟩
              refine ⟨rfl, ?_⟩
              exact ⟨_, rfl, x, d, 0, 1000, rfl, dx, kR _ _ (by rw [List.getElem?_map, hd]; rfl) (Same.refl _)⟩
            · intro H' s e
              refine ⟨D, [isInt 0 1000 w1, isInt 0 1000 w2, isInt 0 1000 w3], rfl, SqL.of e, kk _ ?_ H' (s2.trans ((same_new ht).trans s))⟩
              simp
end
end Mg

set_option Elab.async false
set_option linter.all false
set_option maxRecDepth 100000
set_option maxHeartbeats 2000000
namespace Mg
open PySem L2
local macro_rules | `(tactic| walk_at "dec") => `(tactic| (first | (apply decide_eq_true; omega) | (simp only [Bool.not_eq_true', decide_eq_true_eq, decide_eq_false_iff_not, Bool.not_eq_true, Bool.not_eq_false', Decidable.not_not] <;> omega)))
theorem call_len_setk {X : Cx} : CallR X (.builtin "len") (fun xs H Q => ∃ p S n, xs = [.ref p] ∧ H p = some (SetK X.prog X.w p S n) ∧ Q (.int (n : Nat)) H) := by
  intro pins s σ H xs us Q I r h
  obtain ⟨p, S, n, rfl, hp, q⟩ := h
  obtain ⟨u, rfl, rx⟩ := vals1 r
  cases rx
  obtain ⟨o, es, ep, t, ho, hx, hd, g, hm, hb, hf, hn⟩ := setK_get I hp
  have small : (es.size : Int) < 2 ^ 63 := by
    have e : scanBound ≤ 1000000000 := by unfold scanBound; decide
    omega
  refine call_len_set ho hx hd hf small ⟨.int (n : Nat), H, I.tok _, ⟨_, by rw [hn]⟩, q⟩
abbrev sAreSymbols : Stmt := top 22
structure TxtF (K : PySem.W.Frag) (mg : Str → Option Value) (aC : Addr) : Prop extends TxtE K mg aC where
  c_MOST_SYMBOLS : ∃ t, mg "MOST_SYMBOLS" = some (.int 60 t)
/-- an entry's name -/
def nameD : PyData → Str
  | .tuple (.str s :: _) => s
  | _ => ""
def areSymbols : PyData → Bool
  | .tuple ds => decide (1 ≤ ds.length) && decide (ds.length ≤ 60) && ds.all isEntry && decide (ds.map nameD).Nodup
  | _ => false
def PreS : PyData → Prop
  | .tuple ds => ∀ d ∈ ds, PreE d
  | _ => True
theorem entry_name {d : PyData} (h : isEntry d = true) : ∃ n k a b c, d = .tuple [.str n, k, a, b, c] := by
  unfold isEntry at h
  split at h
  · rename_i n k a b c
    rw [Bool.and_eq_true] at h
    obtain ⟨h1, _⟩ := h
    unfold isName at h1
    split at h1
    · exact ⟨_, _, _, _, _, rfl⟩
    · cases h1
  · cases h
section
variable {P : Program} {w : World} {K : PySem.W.Frag} {mg : Str → Option Value} {base : Heap} {aC : Addr}
def spAreSymbols (K : PySem.W.Frag) : Sp := fun vs H Q _ => ∃ (v : V) (d : PyData), vs = [v] ∧ Dp K H v d ∧ PreS d ∧ ∀ H', Same H H' → Q (.bl (areSymbols d)) H'
theorem scAreSymbols : FnScope ["value", "entry"] ["value"] (defScope sAreSymbols) := ⟨rfl, rfl, rfl, by decide +kernel, rfl, by decide +kernel, by decide +kernel⟩
theorem take_snoc {α : Type} {l : List α} {i : Nat} {x : α} (h : l[i]? = some x) : l.take (i + 1) = l.take i ++ [x] := by
  rw [List.take_add_one, h]
  rfl
theorem ok_are_symbols {f : Addr} {fd : FuncData} (F : Fun K "are_symbols" "are_symbols" sAreSymbols f fd) (T : TxtF K mg aC) (C_is_entry : Cal P w K mg base CX0 3 "is_entry" ["value"] (spIsEntry K)) : FnOk P w K mg base CX0 4 f fd ["value"] (spAreSymbols K) := by
  have sc := scAreSymbols
  refine F.ok scAreSymbols (fun vs H Q E h => ?_) (fun cdv A outer s H vs Q E hr h => ?_)
  · obtain ⟨v, d, rfl, _⟩ := h
    rfl
  · obtain ⟨v, d, rfl, hv, pre, k⟩ := h
    have hris_entry : Room 3 _ := hr.mono (by decide)
    refine ⟨_, (pss_cons (ps_if (PW.pt (pw_or (pt_not (pt_val (pe_callB call_isi (by rfl) T.b_isinstance (by decide +kernel) (pa_cons (pv 0) (pa_cons (pe_bltn (v := .ty "tuple") (by rfl) T.b_tuple PyProof.Rows.boot_tuple rfl) pa_nil))))) (pw_or1 (pt_not (pt_chain op_le op_le pe_int (pe_callB call_len_sq (by rfl) T.b_len PySem.boot_len (pa_cons (pv 0) pa_nil)) (pe_gint rfl T.c_MOST_SYMBOLS))))))
  (pss_one (ps_ret pe_bl))
  pss_nil)
  (pss_cons (ps_if (pt_not (pt_val (pe_callB (cr_all rfl) (by rfl) T.b_all (by decide +kernel) (pa_cons (pe_lc (own := [("entry", 1)]) rfl sc.nd (pi_tup (pv 0)) (blkOk_by (own := [("entry", 1)]) (N := ["value", "entry"]) (sc := defScope sAreSymbols) (by decide +kernel)) (fun _ _ _ _ _ => (pg_name (i := 1) sc.nd rfl (Or.inl rfl))) (fun _ _ _ _ _ => pts_nil) (fun _ _ _ _ _ => (pe_cal C_is_entry hris_entry rfl pass0 (pa_cons (pv 1) pa_nil)))) pa_nil))))
  (pss_one (ps_ret pe_bl))
  pss_nil)
  (pss_one (ps_ret (pe_cmpR op_eq (pe_callB call_len_setk (by rfl) T.b_len PySem.boot_len (pa_cons (pe_sk (own := [("entry", 1)]) rfl sc.nd (pi_tup (pv 0)) (blkOk_by (own := [("entry", 1)]) (N := ["value", "entry"]) (sc := defScope sAreSymbols) (by decide +kernel)) (fun _ _ _ _ _ => (pg_name (i := 1) sc.nd rfl (Or.inl rfl))) (fun _ _ _ _ _ => pts_nil) (fun _ _ _ _ _ => (pe_ix (r := rIxT K) ix_tup (pv 1) pe_int (fun _ _ => rfl)))) pa_nil)) (pe_callB call_len_sq (by rfl) T.b_len PySem.boot_len (pa_cons (pv 0) pa_nil)) (nomark _)))))), ?_⟩
    have hv0 := hv
    cases hv with
    | non => exact ⟨_, rfl, _, _, _, _, false, rfl, .ty _, tyx_D hv0, kit_ty (show kitB "NoneType" "tuple" = some false by decide +kernel), _, rfl, iteT (iteT (k _ (Same.refl _)))⟩
    | bl b => exact ⟨_, rfl, _, _, _, _, false, rfl, .ty _, tyx_D hv0, kit_ty (show kitB "bool" "tuple" = some false by decide +kernel), _, rfl, iteT (iteT (k _ (Same.refl _)))⟩
    | int b => exact ⟨_, rfl, _, _, _, _, false, rfl, .ty _, tyx_D hv0, kit_ty (show kitB "int" "tuple" = some false by decide +kernel), _, rfl, iteT (iteT (k _ (Same.refl _)))⟩
    | str x => exact ⟨_, rfl, _, _, _, _, false, rfl, .ty _, tyx_D hv0, kit_ty (show kitB "str" "tuple" = some false by decide +kernel), _, rfl, iteT (iteT (k _ (Same.refl _)))⟩
    | lst hs ha => exact ⟨_, rfl, _, _, _, _, false, rfl, .ty _, tyx_D hv0, kit_ty (show kitB "list" "tuple" = some false by decide +kernel), _, rfl, iteT (iteT (k _ (Same.refl _)))⟩
    | @tup a xs ds hs ha =>
      refine ⟨_, rfl, _, _, _, _, true, rfl, .ty _, tyx_D hv0, kit_ty (show kitB "tuple" "tuple" = some true by decide +kernel), _, rfl, iteF ?_⟩
      have el := DpAll.len ha
      refine ⟨_, rfl, a, xs, rfl, .inr hs, fun hz => ⟨_, _, rfl, rfl, _, rfl, ?_⟩⟩
      have kk : ∀ b : Bool, (decide (1 ≤ ds.length) && decide (ds.length ≤ 60) && ds.all isEntry && decide (ds.map nameD).Nodup) = b → ∀ H', Same H H' → Q (.bl b) H' := fun b e H' s => e ▸ k H' s
      by_cases c1 : ¬ 1 ≤ ds.length
      · refine iteN (by walk_at "dec") ⟨_, rfl, iteT ?_⟩
        refine kk _ ?_ H (Same.refl _)
        rw [decide_eq_false c1]
        rfl
      have c1 := Decidable.not_not.mp c1
      refine iteP (by walk_at "dec") ⟨_, _, rfl, rfl, _, rfl, ?_⟩
      rw [el]
      by_cases c2 : ¬ ds.length ≤ 60
      · refine iteP (by walk_at "dec") ?_
        refine kk _ ?_ H (Same.refl _)
        rw [decide_eq_false c2]
        simp
      have c2 := Decidable.not_not.mp c2
      refine iteN (by walk_at "dec") ?_
      rw [decide_eq_true c1, decide_eq_true c2] at kk
      have small : ds.length ≤ sizeLine := Nat.le_of_lt (small1000 (by omega))
      refine ⟨_, rfl, a, rfl, ⟨_, hs⟩, fun D hD => lc_pure (ds.map fun d => V.bl (isEntry d)) hD (by rw [List.length_map]; exact small) (fun i H' hi s => ?_) (fun H' s => ⟨_, same_sqt s hs, by rw [List.length_map]; omega⟩) ?_ ?_⟩
      · rw [List.length_map] at hi
        exact ⟨xs, xs[i], same_sqt s hs, List.getElem?_eq_getElem (by omega)⟩
      · rintro i x H' H'' R Z hi s ⟨rfl, hy⟩ kR
        rw [List.length_map] at hi
        have hx := hy _ (same_sqt s hs)
        have hd : ds[i]? = some ds[i] := List.getElem?_eq_getElem hi
        obtain ⟨x', hx', dx⟩ := DpAll.get (DpAll_same s ha) hd
        have e : x' = x := by rw [hx'] at hx; exact Option.some.inj hx
        subst e
        refine ⟨rfl, ?_⟩
        exact ⟨_, rfl, x', _, rfl, dx, pre _ (List.getElem_mem hi), fun H3 s3 => kR _ _ (by rw [List.getElem?_map, hd]; rfl) s3⟩
      · intro H' s e
        refine ⟨D, ds.map isEntry, rfl, SqL.of (by rw [e, List.map_map]; rfl), _, rfl, ?_⟩
        rw [List.all_map]
        show (if (!(ds.all isEntry)) = true then _ else _)
        cases hE : ds.all isEntry with
        | false =>
          refine iteT (kk _ ?_ H' s)
          rw [hE]
          simp
        | true =>
          refine iteF ?_
          rw [hE] at kk
          have names : ∀ (i : Nat) (x : V), xs[i]? = some x → ∀ H2, Same H H2 → ∃ (t : Addr) (y1 y2 y3 y4 : V) (nm : Str), x = V.ref t ∧ SqT K H2 t [V.str nm, y1, y2, y3, y4] ∧ (ds.map nameD)[i]? = some nm := by
            intro i x hx H2 s2
            have hi : i < ds.length := by
              have := (List.getElem?_eq_some_iff.mp hx).1
              omega
            have hd : ds[i]? = some ds[i] := List.getElem?_eq_getElem hi
            obtain ⟨x', hx', dx⟩ := DpAll.get ha hd
            have e : x' = x := by rw [hx'] at hx; exact Option.some.inj hx
            subst e
            obtain ⟨n, k1, b1, b2, b3, hn⟩ := entry_name (List.all_eq_true.mp hE _ (List.getElem_mem hi))
            rw [hn] at dx
            cases dx with
            | @tup t ys _ ht hall =>
              have h5 := DpAll.len hall
              obtain ⟨y0, y1, y2, y3, y4, rfl⟩ := five (show ys.length = 5 from h5)
              cases hall with
              | cons q0 _ =>
                cases q0
                refine ⟨t, y1, y2, y3, y4, n, rfl, same_sqt s2 ht, ?_⟩
                rw [List.getElem?_map, hd, hn]
                rfl
          refine ⟨_, rfl, a, rfl, ⟨_, same_sqt s hs⟩, fun D2 hD2 => ?_⟩
          have nl : (ds.map nameD).length = ds.length := List.length_map _
          refine ⟨fun i m H2 => m = ds.length - i ∧ i ≤ ds.length ∧ Same H' H2 ∧ ∃ (S : Key → Bool) (n : Nat), H2 D2 = some (SetK P w D2 S n) ∧ (∀ j, S j = true ↔ j ∈ ((ds.map nameD).take i).map Sum.inr) ∧ n ≤ i ∧ (n = i ↔ ((ds.map nameD).take i).Nodup),
            ⟨ds.length, rfl, Nat.zero_le _, same_new hD2, _, _, upd_same, by simp, Nat.le_refl _, by simp⟩, ?_⟩
          rintro i m H2 ⟨rfl, hi, s2, S, n, hS, hm, hn, hnd⟩
          have sA := s.trans s2
          by_cases hlt : i < ds.length
          · refine .inr ⟨⟨xs, xs[i], same_sqt sA hs, List.getElem?_eq_getElem (by omega)⟩, fun H3 => Same H' H3 ∧ ∃ (S : Key → Bool) (n : Nat), H3 D2 = some (SetK P w D2 S n) ∧ (∀ j, S j = true ↔ j ∈ ((ds.map nameD).take (i + 1)).map Sum.inr) ∧ n ≤ i + 1 ∧ (n = i + 1 ↔ ((ds.map nameD).take (i + 1)).Nodup), fun H3 q => ⟨ds.length - (i + 1), by omega, rfl, hlt, q⟩, ?_⟩
            rintro x H3 ⟨rfl, hy⟩
            have hx := hy _ (same_sqt sA hs)
            obtain ⟨t, y1, y2, y3, y4, nm, rfl, ht, hnm⟩ := names i x hx H3 sA
            refine ⟨rfl, ?_⟩
            refine ⟨_, rfl, t, _, 0, _, rfl, rfl, ht, rfl, Sum.inr nm, S, n, rfl, hS, ?_, same_upd_new s2 hD2, _, _, upd_same, fun j => ?_, ?_, ?_⟩
            · have e : 1000 ≤ scanBound := by unfold scanBound; decide
              omega
            · rw [Bool.or_eq_true, decide_eq_true_eq, hm, take_snoc hnm, List.map_append, List.mem_append]
              exact ⟨fun z => z.imp id fun e => by simp [e], fun z => z.imp id fun e => by simpa using e⟩
            · split <;> omega
            · rw [take_snoc hnm]
              have mem : S (Sum.inr nm) = true ↔ nm ∈ (ds.map nameD).take i := by
                rw [hm, List.mem_map]
                constructor
                · rintro ⟨y, h1, h2⟩
                  cases h2
                  exact h1
                · exact fun h => ⟨nm, h, rfl⟩
              have nda : ((ds.map nameD).take i ++ [nm]).Nodup ↔ ((ds.map nameD).take i).Nodup ∧ nm ∉ (ds.map nameD).take i := by
                rw [List.nodup_append]
                simp
                intro _
                constructor
                · intro h hin
                  exact h nm hin rfl
                · intro h b hb e
                  exact h (e ▸ hb)
              rw [nda, ← hnd, ← mem]
              cases hSn : S (Sum.inr nm) with
              | true =>
                simp
                omega
              | false =>
                simp
          · have e : i = ds.length := by omega
            subst e
            refine .inl ⟨⟨xs, same_sqt sA hs, by omega⟩, D2, S, n, rfl, hS, ?_⟩
            refine ⟨_, rfl, a, xs, rfl, .inr (same_sqt sA hs), fun _ => ⟨rfl, ?_⟩⟩
            rw [show (ds.map nameD).take ds.length = ds.map nameD by rw [← nl, List.take_length]] at hnd
            have eq : decide (V.int (n : Nat) = V.int xs.length) = decide (ds.map nameD).Nodup := by
              rw [dec_int, el]
              by_cases z : n = ds.length
              · rw [decide_eq_true (hnd.mp z), z]
                simp
              · rw [decide_eq_false (fun q => z (hnd.mpr q))]
                simp
                omega
            rw [eq]
            exact kk _ (by simp) H2 sA
end
end Mg

set_option Elab.async false
set_option linter.all false
set_option maxRecDepth 100000
set_option maxHeartbeats 2000000
namespace Mg
open PySem L2
abbrev sAreLengths : Stmt := top 24
def cLIM : List (Int × Int) := [(0, 200), (1, 50), (0, 100), (0, 300), (0, 200), (0, 200), (0, 200), (1, 200)]
structure TxtL (K : PySem.W.Frag) (mg : Str → Option Value) (aL : Addr) : Prop extends TxtC mg where
  b_all : mg "all" = none
  b_zip : mg "zip" = none
  c_LENGTH_LIMITS : mg "LENGTH_LIMITS" = some (.ref aL)
  k_LIM : ∃ als : List Addr, als.length = 8 ∧ (∀ H, SqT K H aL (als.map V.ref)) ∧ ∀ (i : Nat) (a : Addr), als[i]? = some a → ∃ p : Int × Int, cLIM[i]? = some p ∧ ∀ H, SqT K H a [.int p.1, .int p.2]
def areLengths : PyData → Bool
  | .tuple ds => decide (ds.length = 8) && (List.zipWith (fun d (p : Int × Int) => isInt p.1 p.2 d) ds cLIM).all id
  | _ => false
section
variable {P : Program} {w : World} {K : PySem.W.Frag} {mg : Str → Option Value} {base : Heap} {aL : Addr}
def spAreLengths (K : PySem.W.Frag) : Sp := fun vs H Q _ => ∃ (v : V) (d : PyData), vs = [v] ∧ Dp K H v d ∧ ∀ H', Same H H' → Q (.bl (areLengths d)) H'
theorem scAreLengths : FnScope ["value", "n", "least", "most"] ["value"] (defScope sAreLengths) := ⟨rfl, rfl, rfl, by decide +kernel, rfl, by decide +kernel, by decide +kernel⟩
theorem ok_are_lengths {f : Addr} {fd : FuncData} (F : Fun K "are_lengths" "are_lengths" sAreLengths f fd) (T : TxtL K mg aL) (C_is_integer : Cal P w K mg base CX0 1 "is_integer" ["value", "least", "most"] (spIsInteger K)) : FnOk P w K mg base CX0 2 f fd ["value"] (spAreLengths K) := by
  have sc := scAreLengths
  refine F.ok scAreLengths (fun vs H Q E h => ?_) (fun cdv A outer s H vs Q E hr h => ?_)
  · obtain ⟨v, d, rfl, _⟩ := h
    rfl
  · obtain ⟨v, d, rfl, hv, k⟩ := h
    have hris_integer : Room 1 _ := hr.mono (by decide)
    refine ⟨_, (pss_cons (ps_if (PW.pt (pw_or (pt_not (pt_val (pe_callB call_isi (by rfl) T.b_isinstance (by decide +kernel) (pa_cons (pv 0) (pa_cons (pe_bltn (v := .ty "tuple") (by rfl) T.b_tuple PyProof.Rows.boot_tuple rfl) pa_nil))))) (pw_or1 (pt_cmpR op_ne (pe_callB call_len_sq (by rfl) T.b_len PySem.boot_len (pa_cons (pv 0) pa_nil)) (pe_callB call_len_sq (by rfl) T.b_len PySem.boot_len (pa_cons (pe_gref rfl T.c_LENGTH_LIMITS) pa_nil)) (nomark _)))))
  (pss_one (ps_ret pe_bl))
  pss_nil)
  (pss_one (ps_ret (pe_callB (cr_all rfl) (by rfl) T.b_all (by decide +kernel) (pa_cons (pe_lc (own := [("n", 1), ("least", 2), ("most", 3)]) (g := (gTup K 2 (gCons (gName 1) (gCons (gTup K 2 (gCons (gName 2) (gCons (gName 3) gNil))) gNil)))) rfl sc.nd (RZ.pi_zipA rfl T.b_zip (pa_cons (pv 0) (pa_cons (pe_gref rfl T.c_LENGTH_LIMITS) pa_nil))) (blkOk_by (own := [("n", 1), ("least", 2), ("most", 3)]) (N := ["value", "n", "least", "most"]) (sc := defScope sAreLengths) (by decide +kernel)) (fun _ _ _ _ _ => (pg_tup rfl (pgs_cons (pg_name (i := 1) sc.nd rfl (Or.inl rfl)) (pgs_cons (pg_tup rfl (pgs_cons (pg_name (i := 2) sc.nd rfl (Or.inl rfl)) (pgs_cons (pg_name (i := 3) sc.nd rfl (Or.inl rfl)) pgs_nil))) pgs_nil)))) (fun _ _ _ _ _ => pts_nil) (fun _ _ _ _ _ => (pe_cal C_is_integer hris_integer rfl pass0 (pa_cons (pv 1) (pa_cons (pv 2) (pa_cons (pv 3) pa_nil)))))) pa_nil))))), ?_⟩
    have hv0 := hv
    cases hv with
    | non => exact ⟨_, rfl, _, _, _, _, false, rfl, .ty _, tyx_D hv0, kit_ty (show kitB "NoneType" "tuple" = some false by decide +kernel), _, rfl, iteT (iteT (k _ (Same.refl _)))⟩
    | bl b => exact ⟨_, rfl, _, _, _, _, false, rfl, .ty _, tyx_D hv0, kit_ty (show kitB "bool" "tuple" = some false by decide +kernel), _, rfl, iteT (iteT (k _ (Same.refl _)))⟩
    | int b => exact ⟨_, rfl, _, _, _, _, false, rfl, .ty _, tyx_D hv0, kit_ty (show kitB "int" "tuple" = some false by decide +kernel), _, rfl, iteT (iteT (k _ (Same.refl _)))⟩
    | str x => exact ⟨_, rfl, _, _, _, _, false, rfl, .ty _, tyx_D hv0, kit_ty (show kitB "str" "tuple" = some false by decide +kernel), _, rfl, iteT (iteT (k _ (Same.refl _)))⟩
    | lst hs ha => exact ⟨_, rfl, _, _, _, _, false, rfl, .ty _, tyx_D hv0, kit_ty (show kitB "list" "tuple" = some false by decide +kernel), _, rfl, iteT (iteT (k _ (Same.refl _)))⟩
    | @tup a xs ds hs ha =>
      refine ⟨_, rfl, _, _, _, _, true, rfl, .ty _, tyx_D hv0, kit_ty (show kitB "tuple" "tuple" = some true by decide +kernel), _, rfl, iteF ?_⟩
      have el := DpAll.len ha
      obtain ⟨als, l8, hL, hA⟩ := T.k_LIM
      have hLl : (als.map V.ref).length = 8 := by rw [List.length_map]; exact l8
      refine ⟨_, rfl, a, xs, rfl, .inr hs, fun _ => ⟨aL, _, rfl, .inr (hL H), fun _ => ⟨rfl, _, rfl, ?_⟩⟩⟩
      rw [hLl]
      by_cases c : ¬ ds.length = 8
      · refine iteP (by simp only [Bool.not_eq_true', decide_eq_false_iff_not]; intro z; injection z with z; omega) ?_
        have q : Q (.bl (decide (ds.length = 8) && (List.zipWith (fun d (p : Int × Int) => isInt p.1 p.2 d) ds cLIM).all id)) H := k H (Same.refl _)
        rw [decide_eq_false c] at q
        exact q
      have c := Decidable.not_not.mp c
      refine iteN (by simp only [Bool.not_eq_true', Bool.not_eq_false, decide_eq_true_eq]; rw [el, c]) ?_
      have zl : (List.zipWith (fun d (p : Int × Int) => isInt p.1 p.2 d) ds cLIM).length = 8 := by rw [List.length_zipWith, c]; rfl
      refine ⟨_, rfl, a, aL, xs, als.map V.ref, rfl, .inr ⟨hs, hL H, fun D hD => ?_⟩⟩
      refine lc_pure ((List.zipWith (fun d (p : Int × Int) => isInt p.1 p.2 d) ds cLIM).map V.bl) hD (by rw [List.length_map, zl]; decide) (fun i H' hi s => ?_) (fun H' s => ?_) ?_ ?_
      · rw [List.length_map, zl] at hi
        exact ⟨xs, als.map V.ref, xs[i], V.ref als[i], same_sqt s hs, hL H', List.getElem?_eq_getElem (by omega), by rw [List.getElem?_map, List.getElem?_eq_getElem (by omega)]; rfl⟩
      · rw [List.length_map, zl]
        exact ⟨xs, als.map V.ref, same_sqt s hs, hL H', .inl (by omega)⟩
      · rintro i v H' H'' R Z hi s ⟨t, x, y, rfl, ht, rfl, hx, hy⟩ kR
        rw [List.length_map, zl] at hi
        have hx := hx _ (same_sqt s hs)
        have hy := hy _ (hL H')
        rw [List.getElem?_map, List.getElem?_eq_getElem (show i < als.length by omega)] at hy
        have ey : V.ref als[i] = y := Option.some.inj hy
        subst ey
        obtain ⟨p, hp, hS⟩ := hA i als[i] (List.getElem?_eq_getElem (by omega))
        have sS : Same H (upd H' t (.tup [x, V.ref als[i]])) := s.trans (same_new ht)
        have hd : ds[i]? = some ds[i] := List.getElem?_eq_getElem (by omega)
        obtain ⟨x', hx', dx⟩ := DpAll.get (DpAll_same sS ha) hd
        have e : x' = x := by rw [hx'] at hx; exact Option.some.inj hx
        subst e
        refine ⟨t, _, rfl, SqT.of upd_same, rfl, x', _, rfl, V.ref als[i], _, rfl, als[i], _, rfl, hS _, rfl, V.int p.1, _, rfl, V.int p.2, _, rfl, rfl, rfl, rfl, ?_⟩
        refine ⟨_, rfl, _, rfl, _, rfl, x', _, p.1, p.2, rfl, dx, kR _ _ ?_ (same_new ht)⟩
        rw [List.getElem?_map, List.getElem?_zipWith, hd, hp]
        rfl
      · intro H' s e
        refine ⟨D, _, rfl, SqL.of e, ?_⟩
        have q : Q (.bl (decide (ds.length = 8) && (List.zipWith (fun d (p : Int × Int) => isInt p.1 p.2 d) ds cLIM).all id)) H' := k H' s
        rw [decide_eq_true c, Bool.true_and] at q
        exact q
end
end Mg

set_option Elab.async false
set_option linter.all false
set_option maxRecDepth 100000
set_option maxHeartbeats 2000000
namespace Mg
open PySem L2
abbrev sScaled : Stmt := top 19
abbrev sFInit : Stmt := inClass (top 20) 0
/-! ### scaled -/
def scN (n s : Int) : Int := if s = 2 then 7 * n / 10 else if s = 3 then n / 2 else n
section
variable {P : Program} {w : World} {K : PySem.W.Frag} {mg : Str → Option Value} {base : Heap}
def spScaled : Sp := fun vs H Q _ => ∃ n s : Int, vs = [.int n, .int s] ∧ Q (.int (scN n s)) H
theorem scScaled : FnScope ["number", "style"] ["number", "style"] (defScope sScaled) := ⟨rfl, rfl, rfl, by decide +kernel, rfl, by decide +kernel, by decide +kernel⟩
theorem ok_scaled {f : Addr} {fd : FuncData} (F : Fun K "scaled" "scaled" sScaled f fd) : FnOk P w K mg base CX0 1 f fd ["number", "style"] spScaled := by
  have sc := scScaled
  refine F.ok scScaled (fun vs H Q E h => ?_) (fun cdv A outer s H vs Q E hr h => ?_)
  · obtain ⟨n, st, rfl, _⟩ := h
    rfl
  · obtain ⟨n, st, rfl, k⟩ := h
    refine ⟨_, (pss_cons (ps_if (pt_cmpR op_eq (pv 1) pe_int (nomark _))
  (pss_one (ps_ret (pe_op op_fdiv (pe_op op_mul pe_int (pv 0)) pe_int)))
  pss_nil)
  (pss_cons (ps_if (pt_cmpR op_eq (pv 1) pe_int (nomark _))
  (pss_one (ps_ret (pe_op op_fdiv (pv 0) pe_int)))
  pss_nil)
  (pss_one (ps_ret (pv 0))))), ?_⟩
    unfold scN at k
    refine ⟨_, rfl, rfl, _, rfl, ?_⟩
    by_cases c : st = 2
    · refine iteP (by simp [c]) ?_
      rw [if_pos c] at k
      exact ⟨_, rfl, _, _, rfl, rfl, .inl ⟨by decide, by decide⟩, _, _, rfl, rfl, ⟨by decide, by decide⟩, k⟩
    · refine iteN (by simp [c]) ?_
      rw [if_neg c] at k
      refine ⟨_, rfl, rfl, _, rfl, ?_⟩
      by_cases d : st = 3
      · refine iteP (by simp [d]) ?_
        rw [if_pos d] at k
        exact ⟨_, rfl, _, _, rfl, rfl, ⟨by decide, by decide⟩, k⟩
      · refine iteN (by simp [d]) ?_
        rw [if_neg d] at k
        exact ⟨_, rfl, k⟩
end
/-! ### a font -/
structure Sym where
  nm : Str
  cl : Str
  wd : Int
  ht : Int
  dp : Int
def Sym.vs (s : Sym) : List V := [.str s.nm, .str s.cl, .int s.wd, .int s.ht, .int s.dp]
def Sym.d (s : Sym) : PyData := .tuple [.str s.nm, .str s.cl, .int s.wd, .int s.ht, .int s.dp]
def symsD (ss : List Sym) : PyData := .tuple (ss.map Sym.d)
def lensD (ls : List Int) : PyData := .tuple (ls.map .int)
theorem nSL : ¬ (("symbols" : Str) = "lengths") := by decide +kernel
theorem nSE : ¬ (("symbols" : Str) = "_entries") := by decide +kernel
theorem nLE : ¬ (("lengths" : Str) = "_entries") := by decide +kernel
def ff (vs vl : V) (e : Addr) : List (Str × V) := putF "_entries" (.ref e) (putF "lengths" vl (putF "symbols" vs []))
theorem ff_sym (vs vl : V) (e : Addr) : (ff vs vl e).lookup ("symbols" : Str) = some vs := by
  unfold ff
  rw [lookup_putF, if_neg nSE, lookup_putF, if_neg nSL, lookup_putF, if_pos rfl]
theorem ff_len (vs vl : V) (e : Addr) : (ff vs vl e).lookup ("lengths" : Str) = some vl := by
  unfold ff
  rw [lookup_putF, if_neg nLE, lookup_putF, if_pos rfl]
theorem ff_ent (vs vl : V) (e : Addr) : (ff vs vl e).lookup ("_entries" : Str) = some (.ref e) := by
  unfold ff
  rw [lookup_putF, if_pos rfl]
theorem ff_no (vs vl : V) (e : Addr) {m : Str} (h1 : ¬ m = "symbols") (h2 : ¬ m = "lengths") (h3 : ¬ m = "_entries") : (ff vs vl e).lookup m = none := by
  unfold ff
  rw [lookup_putF, if_neg h3, lookup_putF, if_neg h2, lookup_putF, if_neg h1]
  rfl
def look (ss : List Sym) (x : Str) : Option Sym := ss.find? fun s => s.nm == x
/-- a Font of these symbols and lengths stands at p -/
structure FontAt (K : PySem.W.Frag) (C : Addr) (H : Hp) (p : Addr) (va vl : V) (ss : List Sym) (ls : List Int) : Prop where
  good : areSymbols (symsD ss) = true ∧ areLengths (lensD ls) = true
  syms : Tp K H va (symsD ss)
  lens : Tp K H vl (lensD ls)
  ob : ∃ (dx e : Addr) (kvs : List (Key × V)), H p = some (.ins C dx (ff va vl e)) ∧ H e = some (.dK kvs) ∧
    (∀ x s, look ss x = some s → ∃ t, valV kvs (Sum.inr x : Key) = some (.ref t) ∧ SqT K H t s.vs) ∧ ∀ x, look ss x = none → valV kvs (Sum.inr x : Key) = none
section
variable {K : PySem.W.Frag} {C : Addr} {H H' : Hp} {p pl : Addr} {va vl : V} {ss : List Sym} {ls : List Int} {xs : List V}
theorem FontAt.same (F : FontAt K C H p va vl ss ls) (s : Same H H') : FontAt K C H' p va vl ss ls := by
  obtain ⟨g, a, b, dx, e, kvs, h1, h2, h3, h4⟩ := F
  refine ⟨g, a.stay (TupK.of s), b.stay (TupK.of s), dx, e, kvs, s _ _ h1, s _ _ h2, fun x y hx => ?_, h4⟩
  obtain ⟨t, q1, q2⟩ := h3 x y hx
  exact ⟨t, q1, same_sqt s q2⟩
theorem FontAt.keep (F : FontAt K C H p va vl ss ls) (s : KeepB pl H H') (hp : H pl = some (.lst xs)) : FontAt K C H' p va vl ss ls := by
  obtain ⟨g, a, b, dx, e, kvs, h1, h2, h3, h4⟩ := F
  have tk := TupK.keep s hp
  refine ⟨g, a.stay tk, b.stay tk, dx, e, kvs, s _ _ h1 (ne_of h1 hp (by intro z; cases z)), s _ _ h2 (ne_of h2 hp (by intro z; cases z)), fun x y hx => ?_, h4⟩
  obtain ⟨t, q1, q2⟩ := h3 x y hx
  exact ⟨t, q1, tk.seq q2⟩
end
/-- data that are good symbols are some -/
theorem syms_of : ∀ {ds : List PyData}, ds.all isEntry = true → ∃ ss : List Sym, ds = ss.map Sym.d
  | [], _ => ⟨[], rfl⟩
  | d :: ds, h => by
    rw [List.all_cons, Bool.and_eq_true] at h
    obtain ⟨ss, e⟩ := syms_of h.2
    obtain ⟨n, k, a, b, c, rfl⟩ := entry_name h.1
    have q : (isName (.str n) && (isKind k && (isInt 0 1000 a && (isInt 0 1000 b && isInt 0 1000 c)))) = true := h.1
    simp only [Bool.and_eq_true] at q
    obtain ⟨_, q1, q2, q3, q4⟩ := q
    have ik : ∀ {d : PyData}, isKind d = true → ∃ s, d = .str s := fun {d} z => by
      cases d <;> first | exact ⟨_, rfl⟩ | cases z
    have ii : ∀ {d : PyData}, isInt 0 1000 d = true → ∃ s, d = .int s := fun {d} z => by
      cases d <;> first | exact ⟨_, rfl⟩ | cases z
    obtain ⟨k, rfl⟩ := ik q1
    obtain ⟨a, rfl⟩ := ii q2
    obtain ⟨b, rfl⟩ := ii q3
    obtain ⟨c, rfl⟩ := ii q4
    exact ⟨⟨n, k, a, b, c⟩ :: ss, by rw [e]; rfl⟩
theorem lens_of {d : PyData} (h : areLengths d = true) : ∃ ls : List Int, d = lensD ls ∧ ls.length = 8 := by
  unfold areLengths at h
  split at h
  · rename_i ds
    rw [Bool.and_eq_true, decide_eq_true_eq] at h
    obtain ⟨h1, h2⟩ := h
    have all : ∀ (ps : List (Int × Int)) (ds : List PyData), ps.length = ds.length → (List.zipWith (fun d (p : Int × Int) => isInt p.1 p.2 d) ds ps).all id = true → ∃ ls : List Int, ds = ls.map .int := by
      intro ps
      induction ps with
      | nil =>
        intro ds hl _
        cases ds with
        | nil => exact ⟨[], rfl⟩
        | cons _ _ => simp at hl
      | cons p ps ih =>
        intro ds hl hz
        cases ds with
        | nil => simp at hl
        | cons d ds =>
          rw [List.zipWith_cons_cons, List.all_cons, Bool.and_eq_true] at hz
          obtain ⟨ls, e⟩ := ih ds (by simpa using hl) hz.2
          have hd : isInt p.1 p.2 d = true := hz.1
          cases d with
          | int i => exact ⟨i :: ls, by rw [e]; rfl⟩
          | none => cases hd
          | bool _ => cases hd
          | str _ => cases hd
          | list _ => cases hd
          | tuple _ => cases hd
          | dict _ => cases hd
    obtain ⟨ls, e⟩ := all cLIM ds (by rw [h1]; rfl) h2
    exact ⟨ls, by rw [e]; rfl, by rw [e, List.length_map] at h1; exact h1⟩
  · cases h
theorem tp_sym {K : PySem.W.Frag} {H : Hp} {v : V} {s : Sym} (h : Dp K H v s.d) : ∃ t, v = .ref t ∧ SqT K H t s.vs := by
  cases h with
  | @tup a xs _ hs ha =>
    cases ha with
    | cons d1 ha => cases ha with
    | cons d2 ha => cases ha with
    | cons d3 ha => cases ha with
    | cons d4 ha => cases ha with
    | cons d5 ha =>
      cases ha
      cases d1
      cases d2
      cases d3
      cases d4
      cases d5
      exact ⟨a, rfl, hs⟩
theorem tp_ints {K : PySem.W.Frag} {H : Hp} {v : V} {ls : List Int} (h : Dp K H v (lensD ls)) : ∃ a, v = .ref a ∧ SqT K H a (ls.map V.int) := by
  have key : ∀ {ls : List Int} {xs : List V}, DpAll K H xs (ls.map .int) → xs = ls.map V.int := by
    intro ls
    induction ls with
    | nil =>
      intro xs h
      cases h
      rfl
    | cons i ls ih =>
      intro xs h
      cases h with
      | cons d r =>
        cases d
        rw [ih r]
        rfl
  cases h with
  | @tup a xs _ hs ha =>
    rw [key ha] at hs
    exact ⟨a, rfl, hs⟩
theorem ints_tp {K : PySem.W.Frag} {H : Hp} {a : Addr} {ls : List Int} (h : SqT K H a (ls.map V.int)) : Tp K H (.ref a) (lensD ls) := by
  refine .tup h (by rw [List.length_map, List.length_map]) fun i x d hx hd => ?_
  rw [List.getElem?_map] at hx hd
  cases e : ls[i]? with
  | none => rw [e] at hx; cases hx
  | some z =>
    rw [e] at hx hd
    cases Option.some.inj hx
    cases Option.some.inj hd
    exact .int z
theorem sym_tp {K : PySem.W.Frag} {H : Hp} {t : Addr} {s : Sym} (h : SqT K H t s.vs) : Tp K H (.ref t) s.d := by
  refine .tup h rfl fun i x d hx hd => ?_
  match i with
  | 0 => cases Option.some.inj hx; cases Option.some.inj hd; exact .str _
  | 1 => cases Option.some.inj hx; cases Option.some.inj hd; exact .str _
  | 2 => cases Option.some.inj hx; cases Option.some.inj hd; exact .int _
  | 3 => cases Option.some.inj hx; cases Option.some.inj hd; exact .int _
  | 4 => cases Option.some.inj hx; cases Option.some.inj hd; exact .int _
  | n + 5 => cases hx
end Mg

set_option Elab.async false
set_option linter.all false
set_option maxRecDepth 100000
set_option maxHeartbeats 2000000
namespace Mg
open PySem L2
/-- an error class without an own __init__, over ValueError by own classes -/
structure ExB (K : PySem.W.Frag) (mg : Str → Option Value) (x : Str) (C : Addr) : Prop where
  g : mg x = some (.ref C)
  x : PySem.W.excIn K C [.type "ValueError", .type "Exception", .type "BaseException", .type "object"] "ValueError.__new__" = true
  k : PySem.W.keepIn K (.ref C) = true
  b : PySem.W.subIn K (.ref C) (.type "BaseException") = some true
  t : PySem.W.typeIn K (.ref C) = some (.type "type")
structure TxtO (K : PySem.W.Frag) (C : Addr) : Prop where
  cl : Cls K C
  nS : NoAttr K C "symbols"
  nL : NoAttr K C "lengths"
  nE : NoAttr K C "_entries"
section
variable {P : Program} {w : World} {K : PySem.W.Frag} {mg : Str → Option Value} {base : Heap} {CF CB : Addr}
def spFInit (K : PySem.W.Frag) (CF CB : Addr) : Sp := fun vs H Q E => ∃ (p dx : Addr) (va vl : V) (d l : PyData), vs = [.ref p, va, vl] ∧ H p = some (.ins CF dx []) ∧ Dp K H va d ∧ Dp K H vl l ∧ PreS d ∧
  ((areSymbols d && areLengths l) = true → ∀ H' ss ls, d = symsD ss → l = lensD ls → KeepB p H H' → FontAt K CF H' p va vl ss ls → Q .non H') ∧ ((areSymbols d && areLengths l) = false → ∀ H', Same H H' → E (.ref CB) none H')
theorem scFInit : FnScope ["self", "symbols", "lengths", "entry"] ["self", "symbols", "lengths"] (defScope sFInit) := ⟨rfl, rfl, rfl, by decide +kernel, rfl, by decide +kernel, by decide +kernel⟩
theorem ff_few (vs vl : V) (e : Addr) : ∃ n, n < 1000 ∧ (putF "lengths" vl (putF "symbols" vs [])).length ≤ n := ⟨2, by decide, Nat.le_trans (length_putF _ _ _) (Nat.succ_le_succ (Nat.le_trans (length_putF _ _ _) (Nat.le_refl _)))⟩
theorem ok_finit {f : Addr} {fd : FuncData} (F : Fun K "__init__" "Font.__init__" sFInit f fd) (T : TxtO K CF) (B : ExB K mg "BadFont" CB) (C_are_symbols : Cal P w K mg base CX0 4 "are_symbols" ["value"] (spAreSymbols K))
    (C_are_lengths : Cal P w K mg base CX0 2 "are_lengths" ["value"] (spAreLengths K)) : FnOk P w K mg base (L2.CX P w) 5 f fd ["self", "symbols", "lengths"] (spFInit K CF CB) := by
  have sc := scFInit
  refine F.okX scFInit (fun vs H Q E h => ?_) (fun cdv A outer s H vs Q E hr h => ?_)
  · obtain ⟨p, dx, va, vl, d, l, rfl, _⟩ := h
    rfl
  · obtain ⟨p, dx, va, vl, d, l, rfl, hp, hd, hl, pre, kQ, kE⟩ := h
    have hrare_symbols : Room 4 _ := hr.mono (by decide)
    have hrare_lengths : Room 2 _ := hr.mono (by decide)
    refine ⟨_, (pss_cons (ps_if (PW.pt (pw_or (pt_not (pt_val (pe_cal C_are_symbols hrare_symbols rfl pass0 (pa_cons (pv 1) pa_nil)))) (pw_or1 (pt_not (pt_val (pe_cal C_are_lengths hrare_lengths rfl pass0 (pa_cons (pv 2) pa_nil)))))))
  (pss_one (ps_raise rfl (takes_of rfl rfl rfl rfl) (pmk_own PySem.F.excBase_ValueError B.x B.g B.k (raises_own B.b B.t) rfl)))
  pss_nil)
  (pss_cons (ps_fld (pv 0) (pv 1) rfl)
  (pss_cons (ps_fld (pv 0) (pv 2) rfl)
  (pss_one (ps_fld (pv 0) (pe_dc (own := [("entry", 3)]) rfl sc.nd (pi_tup (pv 1)) (blkOk_by (own := [("entry", 3)]) (N := ["self", "symbols", "lengths", "entry"]) (sc := defScope sFInit) (by decide +kernel)) (fun _ _ _ _ _ => (pg_name (i := 3) sc.nd rfl (Or.inl rfl))) (fun _ _ _ _ _ => pts_nil) (fun _ _ _ _ _ => (pe_ix (r := rIxT K) ix_tup (pv 3) pe_int (fun _ _ => rfl))) (fun _ _ _ _ _ => (pv 3))) rfl))))), ?_⟩
    refine ⟨_, rfl, va, d, rfl, hd, pre, fun H1 s1 => ⟨_, rfl, ?_⟩⟩
    cases hS : areSymbols d with
    | false =>
      rw [hS] at kE
      exact iteT (iteT (kE rfl H1 s1))
    | true =>
      refine iteF ?_
      refine ⟨_, rfl, vl, l, rfl, Dp_same s1 hl, fun H2 s2 => ⟨_, rfl, ?_⟩⟩
      have s12 := s1.trans s2
      cases hL : areLengths l with
      | false =>
        rw [hS, hL] at kE
        exact iteT (kE rfl H2 s12)
      | true =>
        refine iteF ?_
        rw [hS, hL] at kQ
        obtain ⟨ds, rfl⟩ : ∃ ds, d = .tuple ds := by
          cases d with
          | tuple ds => exact ⟨ds, rfl⟩
          | none => cases hS
          | bool _ => cases hS
          | int _ => cases hS
          | str _ => cases hS
          | list _ => cases hS
          | dict _ => cases hS
        have hS' := hS
        simp only [areSymbols, Bool.and_eq_true, decide_eq_true_eq] at hS'
        obtain ⟨⟨⟨c1, c2⟩, c3⟩, c4⟩ := hS'
        obtain ⟨ss, rfl⟩ := syms_of c3
        obtain ⟨ls, rfl, l8⟩ := lens_of hL
        have hd2 := Dp_same s12 hd
        have hl2 := Dp_same s12 hl
        obtain ⟨al, rfl, hal⟩ := tp_ints hl2
        cases hd2 with
        | @tup a xs _ hs ha =>
        have el := DpAll.len ha
        rw [List.length_map] at el c1 c2
        have ent : ∀ (i : Nat) (s : Sym), ss[i]? = some s → ∃ t, xs[i]? = some (V.ref t) ∧ SqT K H2 t s.vs := by
          intro i s e
          obtain ⟨v, h1, h2⟩ := DpAll.get ha (show (ss.map Sym.d)[i]? = some s.d by rw [List.getElem?_map, e]; rfl)
          obtain ⟨t, rfl, h3⟩ := tp_sym h2
          exact ⟨t, h1, h3⟩
        have nd : (ss.map (·.nm)).Nodup := by
          rw [List.map_map] at c4
          exact c4
        have hp2 := s12 _ _ hp
        have np : ∀ {b : Addr} {o : HO}, H2 b = some o → (∀ c x fs, o ≠ .ins c x fs) → b ≠ p := fun h n => ne_of h hp2 (n _ _ _)
        obtain ⟨n2, n2l, n2e⟩ := ff_few (.ref a) (.ref al) a
        refine ⟨_, rfl, _, rfl, p, CF, dx, [], rfl, hp2, T.cl, T.nS, (by show 0 < 1000; decide), ?_⟩
        refine ⟨_, rfl, _, rfl, p, CF, dx, _, rfl, upd_same, T.cl, T.nL, Nat.lt_of_le_of_lt (length_putF _ _ _) (by show 0 + 1 < 1000; decide), ?_⟩
        rw [upd_upd]
        generalize hH3 : upd H2 p (.ins CF dx (putF "lengths" (.ref al) (putF "symbols" (.ref a) []))) = H3
        have k3 : KeepB p H2 H3 := hH3 ▸ keep_upd
        have h3p : H3 p = some (.ins CF dx (putF "lengths" (.ref al) (putF "symbols" (.ref a) []))) := by rw [← hH3, upd_same]
        have tk : TupK H2 H3 := fun b ys hb => by
          rcases hb with hb | ⟨o, hb⟩
          · exact .inl (k3 _ _ hb (np hb fun _ _ _ z => nomatch z))
          · exact .inr ⟨o, k3 _ _ hb (np hb fun _ _ _ z => nomatch z)⟩
        refine ⟨_, rfl, a, rfl, ⟨_, tk.seq hs⟩, fun D hD => ?_⟩
        refine ⟨fun i m H4 => m = ss.length - i ∧ i ≤ ss.length ∧ Same H3 H4 ∧ ∃ kvs : List (Key × V), H4 D = some (.dK kvs) ∧ kvs.length ≤ i ∧ (∀ (j : Nat) (s : Sym), j < i → ss[j]? = some s → ∃ t, valV kvs (Sum.inr s.nm : Key) = some (.ref t) ∧ SqT K H4 t s.vs) ∧
            ∀ x, (∀ (j : Nat) (s : Sym), j < i → ss[j]? = some s → s.nm ≠ x) → valV kvs (Sum.inr x : Key) = none,
          ⟨ss.length, rfl, Nat.zero_le _, same_new hD, [], upd_same, Nat.le_refl _, fun _ _ h => absurd h (Nat.not_lt_zero _), fun _ _ => rfl⟩, ?_⟩
        rintro i m H4 ⟨rfl, hi, s4, kvs, hK, hlen, hin, hno⟩
        have q4 := (tk.trans (TupK.of s4)).seq hs
        by_cases hlt : i < ss.length
        · refine .inr ⟨⟨xs, xs[i], q4, List.getElem?_eq_getElem (by omega)⟩, fun H5 => Same H3 H5 ∧ ∃ kvs : List (Key × V), H5 D = some (.dK kvs) ∧ kvs.length ≤ i + 1 ∧ (∀ (j : Nat) (s : Sym), j < i + 1 → ss[j]? = some s → ∃ t, valV kvs (Sum.inr s.nm : Key) = some (.ref t) ∧ SqT K H5 t s.vs) ∧
              ∀ x, (∀ (j : Nat) (s : Sym), j < i + 1 → ss[j]? = some s → s.nm ≠ x) → valV kvs (Sum.inr x : Key) = none, fun H5 q => ⟨ss.length - (i + 1), by omega, rfl, hlt, q⟩, ?_⟩
          rintro x H5 ⟨rfl, hy⟩
          have hs0 : ss[i]? = some ss[i] := List.getElem?_eq_getElem hlt
          obtain ⟨t, ht, hq⟩ := ent i _ hs0
          have hx := hy _ q4
          rw [ht] at hx
          cases Option.some.inj hx
          have hq4 := (tk.trans (TupK.of s4)).seq hq
          refine ⟨rfl, ?_⟩
          refine ⟨_, rfl, t, _, 0, _, rfl, rfl, hq4, rfl, _, rfl, kvs, Sum.inr ss[i].nm, rfl, hK, small1000 (by omega), same_upd_new s4 hD, _, upd_same, ?_, ?_, ?_⟩
          · have := length_putK kvs (Sum.inr ss[i].nm : Key) (V.ref t)
            omega
          · intro j s hj hsj
            rw [valV_put]
            have nD : ∀ {b : Addr} {ys : List V}, SqT K H5 b ys → SqT K (upd H5 D (.dK (putK kvs (Sum.inr ss[i].nm) (V.ref t)))) b ys := fun {b ys} z => by
              rcases z with (z | ⟨o, z⟩) | z
              · exact .inl (.inl (by rw [upd_ne (ne_of z hK (by intro q; cases q))]; exact z))
              · exact .inl (.inr ⟨o, by rw [upd_ne (ne_of z hK (by intro q; cases q))]; exact z⟩)
              · exact .inr z
            by_cases e : j = i
            · subst e
              rw [hs0] at hsj
              cases Option.some.inj hsj
              rw [if_pos rfl]
              exact ⟨t, rfl, nD hq4⟩
            · have hne : ¬ (Sum.inr s.nm : Key) = Sum.inr ss[i].nm := fun z => by
                have z' : s.nm = ss[i].nm := Sum.inr.inj z
                have h1 : (ss.map (·.nm))[j]? = some s.nm := by rw [List.getElem?_map, hsj]; rfl
                have h2 : (ss.map (·.nm))[i]? = some s.nm := by rw [List.getElem?_map, hs0, z']; rfl
                exact e (nd_ix nd h1 h2)
              rw [if_neg hne]
              obtain ⟨t', a1, a2⟩ := hin j s (by omega) hsj
              exact ⟨t', a1, nD a2⟩
          · intro x hx2
            rw [valV_put, if_neg (fun z => hx2 i _ (Nat.lt_succ_self _) hs0 (Sum.inr.inj z).symm)]
            exact hno x fun j s hj => hx2 j s (by omega)
        · have e : i = ss.length := by omega
          subst e
          refine .inl ⟨⟨xs, q4, by omega⟩, ?_⟩
          have hp4 := s4 _ _ h3p
          refine ⟨_, rfl, p, CF, dx, _, rfl, hp4, T.cl, T.nE, Nat.lt_of_le_of_lt n2e n2l, ?_⟩
          have nDp : D ≠ p := ne_of hK hp4 (by intro z; cases z)
          have tk4 : TupK H2 (upd H4 p (.ins CF dx (putF "_entries" (.ref D) (putF "lengths" (.ref al) (putF "symbols" (.ref a) []))))) := (tk.trans (TupK.of s4)).trans fun b ys hb => by
            rcases hb with hb | ⟨o, hb⟩
            · exact .inl (by rw [upd_ne (ne_of hb hp4 (by intro z; cases z))]; exact hb)
            · exact .inr ⟨o, by rw [upd_ne (ne_of hb hp4 (by intro z; cases z))]; exact hb⟩
          refine kQ rfl _ ss ls rfl rfl ?_ ⟨⟨hS, hL⟩, ?_, ints_tp (tk4.seq hal), dx, D, kvs, upd_same, by rw [upd_ne nDp]; exact hK, ?_, ?_⟩
          · intro b o hb hne
            rw [upd_ne hne]
            exact s4 _ _ (k3 _ _ (s12 _ _ hb) hne)
          · refine .tup (tk4.seq hs) (by rw [List.length_map]; exact el) fun j x dd hx hdd => ?_
            rw [List.getElem?_map] at hdd
            cases e : ss[j]? with
            | none => rw [e] at hdd; cases hdd
            | some sy =>
              rw [e] at hdd
              cases Option.some.inj hdd
              obtain ⟨t, ht, hq⟩ := ent j sy e
              rw [ht] at hx
              cases Option.some.inj hx
              exact sym_tp (tk4.seq hq)
          · intro x sy hx
            have hm := List.mem_of_find?_eq_some hx
            have hn : sy.nm = x := by simpa using List.find?_some hx
            obtain ⟨j, hj⟩ := List.getElem?_of_mem hm
            obtain ⟨t, a1, a2⟩ := hin j sy (List.getElem?_eq_some_iff.mp hj).1 hj
            rw [hn] at a1
            refine ⟨t, a1, ?_⟩
            rcases a2 with (z | ⟨o, z⟩) | z
            · exact .inl (.inl (by rw [upd_ne (ne_of z hp4 (by intro q; cases q))]; exact z))
            · exact .inl (.inr ⟨o, by rw [upd_ne (ne_of z hp4 (by intro q; cases q))]; exact z⟩)
            · exact .inr z
          · intro x hx
            refine hno x fun j s _ hj e => ?_
            have q := List.find?_eq_none.mp hx s (List.mem_of_getElem? hj)
            simp [e] at q
end
end Mg

set_option Elab.async false
set_option linter.all false
set_option maxRecDepth 100000
set_option maxHeartbeats 4000000
namespace PySem
namespace MgU
open PySem.W PySem.Calls PyProof.Rows PySem.HandSPX
/-! an own error below ValueError: __init__(self, name): super().__init__(f'..{name}'); self.name = name -/
def iA (p1 p2 : Pos) : Arguments := { posonlyargs := [], args := [{ arg := "self", annotation := none, pos := p1 }, { arg := "name", annotation := none, pos := p2 }], vararg := none, kwonlyargs := [], kw_defaults := [], kwarg := none, defaults := [] }
def iB (pre : Str) (a1 a2 a3 a4 a5 a6 a7 a8 a9 b1 b2 b3 b4 : Pos) : List Stmt :=
  [.Expr (.Call (.Attribute (.Call (.Name "super" a1) [] [] a2) "__init__" a3) [.JoinedStr [.Constant (.str pre) 0 a4, .FormattedValue (.Name "name" a5) (-1) none a6] a7] [] a8) a9,
   .Assign [.Attribute (.Name "self" b1) "name" b2] (.Name "name" b3) b4]
def iS : Scope := { kind := .function, names := [(PySem.Str.ofString "self", .local), (PySem.Str.ofString "name", .local), (PySem.Str.ofString "__class__", .free), (PySem.Str.ofString "super", .globalImplicit)], isGenerator := false, isCoroutine := false, more := [] }
structure UTxt (prog : Program) (K : Frag) (mg : Str → Option Value) (nm qi pre : Str) (C fI cc : Addr) : Prop where
  gC : mg nm = some (.ref C)
  cls : ∃ nm q N bs bm sn sub ab col dd k0 k1 k2 k3 k5, K.lookup C = some (excClassObj nm q C N bs bm true sn sub ab col dd k0 k1 k2 k3 k5 "ValueError.__new__") ∧ refsVE bm = true
  sa : findIn K (.ref C) "__setattr__" = some (some (.builtin "object.__setattr__"))
  noN : findIn K (.ref C) "name" = some none
  iC : findIn K (.ref C) "__init__" = some (some (.ref fI))
  tC : typeIn K (.ref fI) = some (.type "function")
  kC : keepIn K (.ref C) = true
  exC : subIn K (.ref C) (.type "BaseException") = some true
  tyC : typeIn K (.ref C) = some (.type "type")
  hC : subIn K (.ref C) (.type "ValueError") = some true
  alg : ks_superIn K C C "__init__" = some (some (.builtin "ValueError.__init__"))
  op : nsIn K cStatics "thirdparty.any" = some none
  cell : ∃ cl cld csl, K.lookup cc = some ⟨cl, cld, .cell (some (.ref C)), csl⟩
  sup : mg "super" = none
  own : mroIn K C (.ref C) = some true
  htop : (prog.main.scope.names.lookup ("super" : Str)).isSome = false
  fn : ∃ (oc : Value) (od : Option Addr) (doc pm : Value) (an : Option Addr) (cda : Addr) (ct : Value) (osl : Array (Option Value)) (p1 p2 a1 a2 a3 a4 a5 a6 a7 a8 a9 b1 b2 b3 b4 : Pos),
    K.lookup fI = some ⟨oc, od, .func (ksFn "__init__" qi (iA p1 p2) (iB pre a1 a2 a3 a4 a5 a6 a7 a8 a9 b1 b2 b3 b4) iS .none .none doc pm an (.ref cda) ct cc), osl⟩ ∧ codeIn K (.ref cda) qi = true ∧ (a3.endLine == a8.line) = true ∧
    ∃ ccl cdd vs ccs file tf, K.lookup cda = some ⟨ccl, cdd, .fields vs, ccs⟩ ∧ vs[2]? = some (.str file tf) ∧ ((prog.main.file : Str) == file) = true
theorem kept_but {K : Frag} {h h' : Heap} {x : Addr} (X : K.In h) (hx : K.lookup x = none) (k : ∀ b o, b ≠ x → h.get? b = some o → h'.get? b = some o) : K.In h' := fun a o e =>
  k a o (fun z => by rw [z, hx] at e; cases e) (X a o e)
theorem one_size (v : Value) : [v].length ≤ sizeLine := by
  rw [sizeLine_eq]
  exact (by decide : 1 ≤ 16777216)
structure InitEnd (h h' : Heap) (x C dx : Addr) (v : Value) : Prop where
  keep : ∀ b o, b ≠ x → h.get? b = some o → h'.get? b = some o
  obj : ∃ t1, h'.get? x = some { cls := .ref C, dict := some dx, data := .fields #[.ref t1, .none, .none, .none, .bool false, .none] }
  dbig : h.objs.size ≤ dx
  dne : dx ≠ x
  ns : h'.Ns1 dx (fun y => if y = "name" then some v else none)
structure OwnMade (h h' : Heap) (e C d : Addr) (v : Value) : Prop where
  keep : ∀ b o, h.get? b = some o → h'.get? b = some o
  new : h.objs.size ≤ e
  obj : ∃ oe vs, h'.get? e = some oe ∧ oe.cls = .ref C ∧ oe.dict = some d ∧ oe.data = .fields vs ∧ vs[1]? = some .none
  dbig : h.objs.size ≤ d
  dne : d ≠ e
  ns : h'.Ns1 d (fun y => if y = "name" then some v else none)
theorem call_eq {env : Env} {pre : Str} {a1 a2 a3 a4 a5 a6 a7 a8 : Pos} (h : (a3.endLine == a8.line) = true) :
    eval (.Call (.Attribute (.Call (.Name "super" a1) [] [] a2) "__init__" a3) [.JoinedStr [.Constant (.str pre) 0 a4, .FormattedValue (.Name "name" a5) (-1) none a6] a7] [] a8) env = (do
      let ov ← attributeBase (.Call (.Name "super" a1) [] [] a2) "__init__" env (eval (.Call (.Name "super" a1) [] [] a2) env)
      standAt a3.atName
      let (f, first) ← holding [ov] (getMethod ov "__init__" (do return (← importBound (.Call (.Name "super" a1) [] [] a2) env).getD true))
      callWith a8 f first (backTo a8 (starEach [.JoinedStr [.Constant (.str pre) 0 a4, .FormattedValue (.Name "name" a5) (-1) none a6] a7] env)) []) := by
  have e : methodCallPos true (.Call (.Name "super" a1) [] [] a2) env a3 a8 = pure a8 := by
    unfold methodCallPos
    rw [h]
    rfl
  show (do
      let ov ← attributeBase (.Call (.Name "super" a1) [] [] a2) "__init__" env (eval (.Call (.Name "super" a1) [] [] a2) env)
      standAt a3.atName
      let (f, first) ← holding [ov] (getMethod ov "__init__" (do return (← importBound (.Call (.Name "super" a1) [] [] a2) env).getD true))
      let callPos ← methodCallPos true (.Call (.Name "super" a1) [] [] a2) env a3 a8
      callWith callPos f first (backTo a8 (starEach [.JoinedStr [.Constant (.str pre) 0 a4, .FormattedValue (.Name "name" a5) (-1) none a6] a7] env)) []) = _
  rw [e]
  rfl
section
variable {prog : Program} {w : World} {A : Around} {E : Value → Shared → Prop} {R : Result → Shared → Prop} {s : Shared} {K : Frag} {mg : Str → Option Value} {C fI cc : Addr} {nm qi pre : Str}
/-- the bound __init__ of ValueError called -/
theorem call_bwV {h : Heap} {g : Array GenState} {d : Drawn} {t : Nat} {os : OsState} {u e t0 : Addr} {rest : List Value} {Q : Value → Shared → Prop} {nm q : Str} {C N : Addr} {bs bm : List Value} {hdct : Bool} {sn : List Str} {sub : List Value} {ab : Bool} {col : Option Bool} {dd : Option Addr} {k0 k1 k2 k3 k5 : Option Value}
    (hC : h.get? C = some (excClassObj nm q C N bs bm hdct sn sub ab col dd k0 k1 k2 k3 k5 "ValueError.__new__")) (he : h.get? e = some (excO C t0)) (hu : h.get? u = some (kxs_mw "ValueError.__init__" e)) (hrest : rest.length ≤ sizeLine)
    (hq : ∀ h' t1, (∀ b o, b ≠ e → h.get? b = some o → h'.get? b = some o) → h'.get? e = some (excO C t1) → h.objs.size ≤ h'.objs.size → Q .none ⟨h', g, d, t, os⟩) :
    wpAny (model prog w) A (call (.ref u) rest) Q E ⟨h, g, d, t, os⟩ := by
  refine wpAny_call (codeAny_of_tree ?_)
  show wpAny _ A.in1 (callAny (.ref u) ⟨rest, []⟩) _ _ _
  simp only [callAny]
  refine wpAny_bind (wpAny_load hu ?_)
  simp only [kxs_mw, show (Value.type "method-wrapper" == Value.type "method" || Value.type "method-wrapper" == Value.type "builtin_function_or_method" || Value.type "method-wrapper" == Value.type "method-wrapper") = true by decide, if_true]
  refine KFB.if_so (by decide) ?_
  refine wpAny_bind (check_bound_init F.excBase_ValueError.toExcCallFacts hC he rfl ?_)
  refine wpAny_bind (wpAny_pure (wpAny_pure ?_))
  refine ⟨plainId_quiet F.excBase_ValueError.init.plain _, codeAny_builtin F.excBase_ValueError.initEntry ?_⟩
  rw [Around.under_plainId F.excBase_ValueError.init.plain _]
  refine exc_init_tree (cls := .ref C) (t0 := t0) (dv := none) (c2 := .none) (c3 := .none) (b4 := .bool false) he hrest fun h' k e' t' => ?_
  exact hq h' h.objs.size k e' (Nat.le_of_lt (Heap.lt_size t'))
theorem u_init (T : UTxt prog K mg nm qi pre C fI cc) {x t0 : Addr} {y : Str} {ty : Tok} (X : K.In s.heap) (hlim : s.heap.NoLimit) (hx : s.heap.get? x = some (excO C t0)) (hnx : K.lookup x = none) (hroom : A.depth < recursionLimit)
    (hG : s.heap.Ns mainGlobals mg) (hB : ∃ mb, s.heap.Ns builtinsNs mb ∧ ∀ x : Str, x ≠ "__name__" → mb x = bootBuiltins x) (hp : (Str.empty ++ pre).length ≤ sizeLine) (hy : (Str.empty ++ pre ++ y).length ≤ sizeLine) (hz : y.length ≤ sizeLine)
    (hq : ∀ h' tk dx, InitEnd s.heap h' x C dx (.str y ty) → R (.ok (.ret .none)) { s with heap := h', toks := tk }) :
    codeAny (model prog w) A (.call (.ref fI) ⟨[.ref x, .str y ty], []⟩) R s := by
  obtain ⟨oc, od, doc, pm, an, cda, ct, osl, p1, p2, a1, a2, a3, a4, a5, a6, a7, a8, a9, b1, b2, b3, b4, ho, hcd, hpos, ccl, cdd, vs, ccs, file, tf, hcda, hvs, hfile⟩ := T.fn
  obtain ⟨nm', q, N, bs, bm, sn, sub, ab, col, dd, k0, k1, k2, k3, k5, hC, hbm⟩ := T.cls
  obtain ⟨cl, cld, csl, hcell⟩ := T.cell
  have hcl : clsIn K C = some { name := nm', bases := bs, mro := .ref C :: bm, ns := N, qualname := q, hasDict := true, slotNames := sn, subclasses := sub, abstract := ab, collection := col, hasDel := false } := by unfold clsIn; rw [hC] <;> rfl
  obtain ⟨hp0, g, dr, tk, os⟩ := s
  refine ks_codeAny_call_defAt (fd := ksFn "__init__" qi (iA p1 p2) (iB pre a1 a2 a3 a4 a5 a6 a7 a8 a9 b1 b2 b3 b4) iS .none .none doc pm an (.ref cda) ct cc) (body := iB pre a1 a2 a3 a4 a5 a6 a7 a8 a9 b1 b2 b3 b4) (binds := [("self", .ref x), ("name", .str y ty)])
    hroom (X _ _ ho) rfl hlim (codeRec_of X hcd) rfl (BindsTo.of_eq (by first | rfl | with_unfolding_all rfl)) (show ∀ z ∈ iS.names, z.2 ≠ .cell by decide) (fun (z : Str × Value) hz => ?_) fun h₁ hn k => ?_
  · have hz' : z = (("self" : Str), Value.ref x) ∨ z = (("name" : Str), Value.str y ty) := by simpa using hz
    rcases hz' with rfl | rfl <;> first | rfl | decide
  have X₁ : K.In h₁ := X.keeps k
  have hx₁ := k _ _ hx
  have hself : ([("self", Value.ref x), ("name", .str y ty)] : List (Str × Value)).reverse.lookup ("self" : Str) = some (Value.ref x) := by first | rfl | kernel_rfl
  have hname : ([("self", Value.ref x), ("name", .str y ty)] : List (Str × Value)).reverse.lookup ("name" : Str) = some (Value.str y ty) := by first | rfl | kernel_rfl
  have hG₁ : h₁.Ns mainGlobals mg := hG.keeps k
  obtain ⟨mb, hB1, hB2⟩ := hB
  have hB₁ : h₁.Ns builtinsNs mb := hB1.keeps k
  have hD₁ := X₁ _ _ hC
  refine ks_wpAt_execs_cons (ks_wpAt_Expr_any (ks_wpAt_MethodCall ?_ (call_eq hpos)))
  refine ks_wpAt_super_base (by rfl) (by rfl) (by rfl) rfl (X₁ _ _ ho) rfl (by rfl) rfl (X₁ _ _ hcda) rfl hvs hfile T.htop ?_
  refine ks_loadName_global (by rfl) (by rfl) (loadGlobal_builtin hG₁ T.sup hB₁ ((hB2 _ (by decide)).trans (by first | rfl | decide)) ⟨rfl, ?_⟩)
  refine wpAny_loadName_free (by rfl) (by rfl) (by rfl) ⟨_, X₁ _ _ hcell, rfl⟩ ?_
  refine wpAny_loadName_local (by rfl) (by rfl) hn hself ?_
  refine ks_wpAny_isType_cls hD₁ rfl ⟨rfl, ?_⟩
  refine ks_wpAny_call_super hD₁ rfl hx₁ rfl (fun c e => by cases e) (looks_mroIn X₁ T.own) fun h₂ e₂ k₂ => ?_
  have X₂ : K.In h₂ := X₁.keeps k₂
  have hx₂ := k₂ _ _ hx₁
  have hn₂ := hn.keeps k₂
  have I₂ : W.InstAt h₂ x (excO C t0) C none := ⟨hx₂, rfl, rfl, trivial⟩
  have hI : Looks (model prog w) h₂ (isInstance (.ref x) (.type "ValueError")) true := I₂.type.andThen (looks_subIn X₂ T.hC)
  have halg := T.alg
  unfold ks_superIn at halg
  rw [hcl] at halg
  refine kxs_getMethod kxs_ValueError e₂ (looks_opaque X₂ T.op) (l₀ := .ref C :: bm) (fun A Q E s k q => wpAny_bind ((looks_clsIn X₂ hcl) A _ E s k (wpAny_pure q))) rfl X₂ halg hI (ks_ne X₂ I₂ hcl) (by rfl) ?_
  have k₃ : ∀ b o, h₂.get? b = some o → (h₂.push (kxs_mw "ValueError.__init__" x)).get? b = some o := fun b o e => Heap.get?_push_of_some _ e
  have hu₃ : (h₂.push (kxs_mw "ValueError.__init__" x)).get? h₂.objs.size = some (kxs_mw "ValueError.__init__" x) := Heap.get?_push_at rfl rfl
  have hn₃ := hn₂.keeps k₃
  have hx₃ := k₃ _ _ hx₂
  have X₃ := X₂.keeps k₃
  refine kxs_callWith (i := "ValueError.__init__") (x := x) (by rfl) (evalArgs_plain ?_)
  refine spliced_cons ?_
  rw [if_neg Bool.false_ne_true]
  refine wpAny_JoinedStr ?_
  have ev0 : ∀ (env : Env), evalEach [Expr.Constant (Const.str pre) 0 a4, (Expr.Name (PySem.Str.ofString "name") a5).FormattedValue (-1) none a6] env = [eval (Expr.Constant (Const.str pre) 0 a4) env, eval ((Expr.Name (PySem.Str.ofString "name") a5).FormattedValue (-1) none a6) env] := fun env => by first | rfl | simp [evalEach]
  rw [ev0]
  show wpAny _ _ (eval (Expr.Constant (Const.str pre) 0 a4) _) _ _ _
  refine wpAny_Constant_str ⟨pre, _, rfl, hp, ?_⟩
  show wpAny _ _ (eval ((Expr.Name (PySem.Str.ofString "name") a5).FormattedValue (-1) none a6) _) _ _ _
  refine FormattedValue_plain (wpAny_Name (wpAny_loadName_local (by rfl) (by rfl) hn₃ hname ?_) (by decide))
  refine formatField_str (fun t' tk' => ⟨y, _, rfl, hy, ?_⟩) hz
  refine ⟨hy, ?_⟩
  refine spliced_nil ⟨hu₃, ?_⟩
  refine call_bwV (X₃ _ _ hC) hx₃ hu₃ (one_size _) fun h₄ t1 k₄ hx₄ hs₄ => ?_
  show wpAt _ _ _ (execs _ _) _ _ _
  have hxL : hp0.objs.size ≠ x := Nat.ne_of_gt (Heap.lt_size hx)
  have X₄ : K.In h₄ := kept_but X₃ hnx k₄
  have hn₄ : h₄.Ns hp0.objs.size (fun z => ([("self", Value.ref x), ("name", .str y ty)] : List (Str × Value)).reverse.lookup z) := by
    obtain ⟨oL, es, ep, hL, r⟩ := hn₃
    exact ⟨oL, es, ep, k₄ _ _ hxL hL, r⟩
  refine wpAt_of_wpAny (wpAny_execs_cons (plainObj_wpAny_Assign_Attribute ?_))
  refine wpAny_Name (wpAny_loadName_local (by rfl) (by rfl) hn₄ hname ?_) (by decide)
  refine wpAny_Name (wpAny_loadName_local (by rfl) (by rfl) hn₄ hself ?_) (by decide)
  refine set_plain X₄ (ox := excO C t1) (od := none) ⟨hx₄, rfl, rfl, trivial⟩ T.sa ?_
  refine exc_osa X₄ hx₄ hcl (show refsVE (.ref C :: bm) = true from hbm) rfl T.noN (fun h₅ tk₅ dx k₅ dn dne hx₅ hn₅ => ?_)
  show wpAny _ _ (execs _ _) _ _ _
  refine wpAny_execs_nil (hq h₅ tk₅ dx ⟨fun b o hb e => k₅ b o hb (k₄ b o hb (k₃ b o (k₂ b o (k b o e)))), ⟨t1, hx₅⟩, ?_, dne, hn₅⟩)
  exact Nat.le_of_lt (Nat.lt_of_lt_of_le hn₄.lt dn)
theorem u_made (T : UTxt prog K mg nm qi pre C fI cc) {y : Str} {ty : Tok} (X : K.In s.heap) (hlim : s.heap.NoLimit) (hroom : A.depth + 1 < recursionLimit)
    (hG : s.heap.Ns mainGlobals mg) (hB : ∃ mb, s.heap.Ns builtinsNs mb ∧ ∀ x : Str, x ≠ "__name__" → mb x = bootBuiltins x) (hp : (Str.empty ++ pre).length ≤ sizeLine) (hy : (Str.empty ++ pre ++ y).length ≤ sizeLine) (hz : y.length ≤ sizeLine)
    (hq : ∀ h' tk e d, OwnMade s.heap h' e C d (.str y ty) → R (.ok (.ret (.ref e))) { s with heap := h', toks := tk }) :
    codeAny (model prog w) A (.call (.ref C) ⟨[.str y ty], []⟩) R s := by
  obtain ⟨nm, q, N, bs, bm, sn, sub, ab, col, dd, k0, k1, k2, k3, k5, hC, hbm⟩ := T.cls
  obtain ⟨hp0, g, dr, tk, os⟩ := s
  have k : ∀ b o, hp0.get? b = some o → ((hp0.push (kdv_tup [Value.str y ty])).push (excO C hp0.objs.size)).get? b = some o := fun b o e => Heap.get?_push_of_some _ (Heap.get?_push_of_some _ e)
  have hget : ((hp0.push (kdv_tup [Value.str y ty])).push (excO C hp0.objs.size)).get? (hp0.objs.size + 1) = some (excO C hp0.objs.size) := by heap_get
  have hnx : K.lookup (hp0.objs.size + 1) = none := by
    cases e : K.lookup (hp0.objs.size + 1) with
    | none => rfl
    | some o =>
      have z : hp0.get? (hp0.objs.size + 1) = some o := X _ _ e
      exact absurd (Nat.lt_of_succ_lt (Heap.lt_size z)) (Nat.lt_irrefl _)
  refine call_own F.excBase_ValueError (fun X => refsVE_contains X bm hbm) (X _ _ hC) (looks_findIn X T.iC) (fun self => bind_fn X self T.tC) (one_size (.str y ty)) ?_
  obtain ⟨mb, hB1, hB2⟩ := hB
  refine u_init (s := ⟨(hp0.push (kdv_tup [Value.str y ty])).push (excO C hp0.objs.size), g, dr, tk, os⟩) T (X.keeps k) (hlim.keeps k) hget hnx ?_ (hG.keeps k) ⟨mb, hB1.keeps k, hB2⟩ hp hy hz fun h' tk' dx ⟨k', ⟨t1, hx⟩, dn, dne, hns⟩ => ?_
  · show A.depth + 1 < recursionLimit
    exact hroom
  · have old : ∀ b o, hp0.get? b = some o → h'.get? b = some o := fun b o e => k' b o (Nat.ne_of_lt (Nat.lt_succ_of_lt (Heap.lt_size e))) (k b o e)
    have z : hp0.objs.size + 1 + 1 ≤ dx := by
      first
        | (simpa only [Heap.size_push] using dn)
        | exact dn
        | (have q := dn; rw [Heap.size_push, Heap.size_push] at q; exact q)
    exact ⟨rfl, hq h' tk' (hp0.objs.size + 1) dx ⟨old, Nat.le_succ _, ⟨_, _, hx, rfl, rfl, rfl, rfl⟩, Nat.le_trans (Nat.le_trans (Nat.le_succ _) (Nat.le_succ _)) z, dne, hns⟩⟩
end
end MgU
end PySem

set_option Elab.async false
set_option linter.all false
set_option maxRecDepth 100000
set_option maxHeartbeats 4000000
namespace Mg
open PySem PySem.Spec PyProof.Rows L2
theorem relO_name {v : V} {v' : Value} (r : RelV v v') (f : Str) : RelO (List.lookup f [(("name" : Str), v)]) (if f = "name" then some v' else none) := by
  by_cases hw : f = "name"
  · subst hw
    rw [if_pos rfl]
    have q : List.lookup ("name" : Str) [(("name" : Str), v)] = some v := by simp [List.lookup]
    rw [q]
    exact r
  · rw [if_neg hw]
    have qw : (f == ("name" : Str)) = false := by simpa using hw
    have q2 : List.lookup f [(("name" : Str), v)] = none := by simp [List.lookup, qw]
    rw [q2]
    trivial
theorem pmk_u {X : Cx} {nm qi pre : Str} {C fI cc : Addr} {ta : TE} {p pa pos : Pos} {k : Nat} (T : PySem.MgU.UTxt X.prog X.K X.mg nm qi pre C fI cc) (hpre : pre.length ≤ 1000) (hr : Room k X.A) (ha : PE X (.Name "name" pa) ta) (hg : Gl X nm) (hd : (nm == ("__debug__" : Str)) = false) (hk : 1 ≤ k) :
    PMk X (.Call (.Name nm p) [.Name "name" pa] [] pos) (fun σ H Q => tCons ta tNil σ H fun vs H1 => ∃ z : Str, vs = [.str z] ∧ z.length ≤ 1000 ∧ ∀ d, H1 d = none → Q (.ref C) (some d) (upd H1 d (.xd [("name", .str z)]))) := by
  intro pins s σ H Q I h
  refine wpAny_Call_Name_kw (ld_glob I hg T.gC ?_ hd)
  refine PySem.W.callWith_K (h₀ := X.base) I.ok.mod.kin T.kC (thn ((pa_cons ha pa_nil).run pos pins s σ H (fun vs H1 => ∃ z : Str, vs = [.str z] ∧ z.length ≤ 1000 ∧ ∀ d, H1 d = none → Q (.ref C) (some d) (upd H1 d (.xd [("name", .str z)]))) I h) fun us s1 hh => ?_) (by rfl) (by rfl)
  · obtain ⟨vs, H1, I1, r1, z, ev, hz, q1⟩ := hh
    subst ev
    refine ⟨I1.kIn, ?_⟩
    cases r1 with
    | cons rv rn =>
      rename_i v' us'
      cases rn
      show wpAny _ _ (call (.ref C) [v']) _ _ _
      have rv0 := rv
      obtain ⟨ty, rfl⟩ := rv
      have hlim := I1.nolimit
      have hG : s1.heap.Ns mainGlobals X.mg := by have q := I1.mod.glob.keeps I1.bk; exact q
      have hB : ∃ mb, s1.heap.Ns builtinsNs mb ∧ ∀ x : Str, x ≠ "__name__" → mb x = bootBuiltins x := by
        obtain ⟨mb, h1, h2⟩ := I1.mod.blt
        exact ⟨mb, h1.keeps I1.bk, h2⟩
      have e0 : (Str.empty ++ pre).length = pre.length := by rw [PySem.strLen_append]; simp [Str.length, Str.empty]
      have hs := sizeLine_eq
      obtain ⟨hp, g, dr, tk, os⟩ := s1
      refine wpAny_call (PySem.MgU.u_made T I1.kIn hlim (by have := hr.dp; omega) hG hB (by rw [e0]; omega) (by rw [PySem.strLen_append, e0]; omega) (by omega) fun h' tk' e d M => ?_)
      show MkP X pins σ Q (.ref e) ⟨h', g, dr, tk', os⟩
      obtain ⟨oe, fv, hoe, hc, hd', hdat, h1⟩ := M.obj
      have hns := M.ns
      obtain ⟨G', g1, g2⟩ := restrict h' fun b => decide (b ≠ e)
      have gk : ∀ b, b ≠ e → G'.get? b = h'.get? b := fun b hb => g1 b (decide_eq_true hb)
      have ge : G'.get? e = none := g2 e (by simp)
      have old : ∀ b o, hp.get? b = some o → G'.get? b = some o := fun b o q => (gk b (Nat.ne_of_lt (Nat.lt_of_lt_of_le (Heap.lt_size q) M.new))).trans (M.keep b o q)
      have ob : ObjOk X.prog X.w (upd H1 d (.xd [(("name" : Str), .str z)])) G' d (.xd [(("name" : Str), .str z)]) :=
        ⟨_, hns.at (fun o q => (gk d M.dne).trans q), fun f => relO_name rv0 f⟩
      have J : Inv X pins σ (upd H1 d (.xd [(("name" : Str), .str z)])) ⟨G', g, dr, tk', os⟩ := I1.laid (t' := tk') old M.dbig ob
      refine ⟨e, oe, fv, ⟨G', g, dr, tk', os⟩, _, .ref C, some d, rfl, J, fun b o q => ?_, ge, hoe, ⟨hc, hd'⟩, hdat, h1, ?_, rfl, I1.bare, raises_own T.exC T.tyC, q1 d (I1.hok.fresh M.dbig)⟩
      · by_cases hb : b = e
        · have q' : G'.get? b = some o := q
          rw [hb, ge] at q'; cases q'
        · exact (gk b hb).symm.trans q
      · rw [upd_ne (Ne.symm M.dne)]
        exact I1.hok.fresh M.new
/-- UnknownSymbol(name) is made: its own dict has the name -/
def MkU (P : Program) (K : PySem.W.Frag) (mg : Str → Option Value) (CU : Addr) : Prop := ∀ {X : Cx} {ta : TE} {p pa pos : Pos}, X.prog = P → X.K = K → X.mg = mg → Room 2 X.A → PE X (.Name "name" pa) ta → Gl X "UnknownSymbol" →
  PMk X (.Call (.Name "UnknownSymbol" p) [.Name "name" pa] [] pos) (fun σ H Q => tCons ta tNil σ H fun vs H1 => ∃ z : Str, vs = [.str z] ∧ z.length ≤ 1000 ∧ ∀ d, H1 d = none → Q (.ref CU) (some d) (upd H1 d (.xd [("name", .str z)])))
theorem mkU {P : Program} {K : PySem.W.Frag} {mg : Str → Option Value} {qi pre : Str} {C fI cc : Addr} (T : PySem.MgU.UTxt P K mg "UnknownSymbol" qi pre C fI cc) (hpre : pre.length ≤ 1000) : MkU P K mg C := by
  intro X ta p pa pos hP hK hm hr ha hg
  subst hP
  subst hK
  subst hm
  exact pmk_u T hpre hr ha hg (by decide) (by decide)
end Mg

set_option Elab.async false
set_option linter.all false
set_option maxRecDepth 100000
set_option maxHeartbeats 2000000
namespace Mg
open PySem L2
structure CalM (P : Program) (w : World) (K : PySem.W.Frag) (mg : Str → Option Value) (base : Heap) (CX : CXT) (k : Nat) (C : Addr) (m : Str) (ps : List Str) (sp : Sp) : Prop where
  ex : ∃ (f : Addr) (fd : FuncData), FnOk P w K mg base CX k f fd ps sp ∧ Meth K C m f ∧ Binds K fd ps []
section
variable {X : Cx} {CX : CXT} {k : Nat} {C : Addr} {ps : List Str} {sp : Sp} {E : XK} {m : Str} {apos pos : Pos} {o e : Expr} {es : List Expr} {t : TA} {ta : TE}
theorem pe_calm {pl : Sem Bool} (he : PE X o ta) (cl : Cls X.K C) (c : CalM X.prog X.w X.K X.mg X.base CX k C m ps sp) (hr : Room k X.A) (hx : Passes CX X E) (ha : PA X (e :: es) t)
    (h1 : starEach (e :: es) X.env = (false, eval e X.env) :: starEach es X.env := by rfl) (h2 : (backTo pos (starEach es X.env)).any (·.1) = false := by rfl)
    (h3 : eval (.Call (.Attribute o m apos) (e :: es) [] pos) X.env = (do let ov ← eval o X.env; standAt apos.atName; let (f, first) ← holding [ov] (getMethod ov m pl); callWith pos f first (backTo pos (starEach (e :: es) X.env)) (backToKw pos (keywordEach [] X.env))) := by rfl) :
    PE X (.Call (.Attribute o m apos) (e :: es) [] pos) (tMeth C m sp [] E ta t) := by
  obtain ⟨f, fd, F, hm, hb⟩ := c.ex
  exact pe_meth (pl := pl) he cl hm F hr hb .nil hx ha h1 h2 h3
theorem pe_calm0 {pl : Sem Bool} (he : PE X o ta) (cl : Cls X.K C) (c : CalM X.prog X.w X.K X.mg X.base CX k C m ps sp) (hr : Room k X.A) (hx : Passes CX X E)
    (h3 : eval (.Call (.Attribute o m apos) [] [] pos) X.env = (do let ov ← eval o X.env; standAt apos.atName; let (f, first) ← holding [ov] (getMethod ov m pl); callWith pos f first (backTo pos (starEach [] X.env)) (backToKw pos (keywordEach [] X.env))) := by rfl) :
    PE X (.Call (.Attribute o m apos) [] [] pos) (tMeth C m sp [] E ta tNil) := by
  obtain ⟨f, fd, F, hm, hb⟩ := c.ex
  exact pe_meth0 (pl := pl) he cl hm F hr hb .nil hx h3
end
theorem passX {P : Program} {w : World} {K : PySem.W.Frag} {mg : Str → Option Value} {base : Heap} {N : List Str} {qual : Str} {sc : Scope} {f : Addr} {cdv : Value} {A : Around} {outer : List Env} {s : Shared} {H : Hp} {E : XK} :
    Passes (L2.CX P w) (cxOf (L2.CX P w) P w K mg base N qual sc f cdv A outer s H E) E := passes_call (takes_of rfl rfl rfl rfl) fun _ _ _ _ h => h
abbrev sFClassOf : Stmt := inClass (top 20) 3
abbrev sFEntry : Stmt := inClass (top 20) 6
section
variable {P : Program} {w : World} {K : PySem.W.Frag} {mg : Str → Option Value} {base : Heap} {CF CU : Addr}
/-! ### _entry -/
def spEntry (K : PySem.W.Frag) (CF CU : Addr) : Sp := fun vs H Q E => ∃ (p : Addr) (x : Str) (va vl : V) (ss : List Sym) (ls : List Int), vs = [.ref p, .str x] ∧ x.length ≤ 1000 ∧ FontAt K CF H p va vl ss ls ∧
  (∀ s t, look ss x = some s → SqT K H t s.vs → Q (.ref t) H) ∧ (look ss x = none → ∀ d, H d = none → E (.ref CU) (some d) (upd H d (.xd [("name", .str x)])))
theorem scFEntry : FnScope ["self", "name"] ["self", "name"] (defScope sFEntry) := ⟨rfl, rfl, rfl, by decide +kernel, rfl, by decide +kernel, by decide +kernel⟩
theorem ok_fentry {f : Addr} {fd : FuncData} (F : Fun K "_entry" "Font._entry" sFEntry f fd) (T : TxtO K CF) (U : MkU P K mg CU) : FnOk P w K mg base (L2.CX P w) 3 f fd ["self", "name"] (spEntry K CF CU) := by
  have sc := scFEntry
  refine F.okX scFEntry (fun vs H Q E h => ?_) (fun cdv A outer s H vs Q E hr h => ?_)
  · obtain ⟨p, x, va, vl, ss, ls, rfl, _⟩ := h
    rfl
  · obtain ⟨p, x, va, vl, ss, ls, rfl, hx, FA, kQ, kE⟩ := h
    have hu := hu_of hr
    have hrU : Room 2 _ := hr
    obtain ⟨_, _, _, dx, e, kvs, h1, h2, h3, h4⟩ := FA
    refine ⟨_, (pss_cons (ps_if (pt_cmp (pc_dnotin hu (pv 1) (pe_fld (pv 0) rfl)))
  (pss_one (ps_raise rfl (takes_of rfl rfl rfl rfl) (U rfl rfl rfl hrU (pv 1) rfl)))
  pss_nil)
  (pss_one (ps_ret (pe_dget hu (pe_fld (pv 0) rfl) (pv 1) (fun _ _ => rfl))))), ?_⟩
    refine ⟨_, rfl, _, rfl, p, CF, dx, _, _, rfl, h1, T.cl, T.nE, ff_ent _ _ _, e, _, rfl, DGet.k (k := Sum.inr x) h2, _, rfl, ?_⟩
    cases hl : look ss x with
    | none =>
      rw [h4 x hl]
      refine iteT ?_
      exact ⟨_, rfl, x, rfl, hx, kE hl⟩
    | some s =>
      obtain ⟨t, a1, a2⟩ := h3 x s hl
      rw [a1]
      refine iteF ?_
      exact ⟨_, rfl, p, CF, dx, _, _, rfl, h1, T.cl, T.nE, ff_ent _ _ _, _, rfl, e, _, rfl, by have q := DGet.k (k := Sum.inr x) h2; rw [a1] at q; exact q, kQ s t hl a2⟩
/-! ### class_of -/
def spClassOf (K : PySem.W.Frag) (CF CU : Addr) : Sp := fun vs H Q E => ∃ (p : Addr) (x : Str) (va vl : V) (ss : List Sym) (ls : List Int), vs = [.ref p, .str x] ∧ x.length ≤ 1000 ∧ FontAt K CF H p va vl ss ls ∧
  (∀ s, look ss x = some s → Q (.str s.cl) H) ∧ (look ss x = none → ∀ d, H d = none → E (.ref CU) (some d) (upd H d (.xd [("name", .str x)])))
theorem no_entry_name (va vl : V) (e : Addr) : (ff va vl e).lookup ("_entry" : Str) = none := ff_no va vl e (by decide +kernel) (by decide +kernel) (by decide +kernel)
theorem no_metrics_name (va vl : V) (e : Addr) : (ff va vl e).lookup ("metrics" : Str) = none := ff_no va vl e (by decide +kernel) (by decide +kernel) (by decide +kernel)
theorem scFClassOf : FnScope ["self", "name"] ["self", "name"] (defScope sFClassOf) := ⟨rfl, rfl, rfl, by decide +kernel, rfl, by decide +kernel, by decide +kernel⟩
theorem ok_fclass_of {f : Addr} {fd : FuncData} (F : Fun K "class_of" "Font.class_of" sFClassOf f fd) (T : TxtO K CF) (C_entry : CalM P w K mg base (L2.CX P w) 3 CF "_entry" ["self", "name"] (spEntry K CF CU)) : FnOk P w K mg base (L2.CX P w) 4 f fd ["self", "name"] (spClassOf K CF CU) := by
  have sc := scFClassOf
  refine F.okX scFClassOf (fun vs H Q E h => ?_) (fun cdv A outer s H vs Q E hr h => ?_)
  · obtain ⟨p, x, va, vl, ss, ls, rfl, _⟩ := h
    rfl
  · obtain ⟨p, x, va, vl, ss, ls, rfl, hx, FA, kQ, kE⟩ := h
    have hrentry : Room 3 _ := hr
    refine ⟨_, (pss_one (ps_ret (pe_ix ix_tup (pe_calm (pv 0) T.cl C_entry hrentry passX (pa_cons (pv 1) pa_nil)) pe_int (fun _ _ => rfl)))), ?_⟩
    have FA0 := FA
    obtain ⟨_, _, _, dx, e, kvs, h1, h2, h3, h4⟩ := FA
    exact ⟨_, rfl, p, dx, _, rfl, h1, no_entry_name _ _ _, _, rfl, p, x, va, vl, ss, ls, rfl, hx, FA0, fun sy t hl ht => ⟨t, _, 1, _, rfl, rfl, ht, rfl, kQ sy hl⟩, kE⟩
end
end Mg

set_option Elab.async false
set_option linter.all false
set_option maxRecDepth 100000
set_option maxHeartbeats 1000000
namespace Mg
open PySem L2
abbrev sLengthOf : Stmt := top 21
structure TxtLn (K : PySem.W.Frag) (mg : Str → Option Value) (CF : Addr) : Prop extends TxtO K CF where
  b_max : mg "max" = none
  c_RULE : ∃ t, mg "RULE" = some (.int 1 t)
  c_STEP : ∃ t, mg "STEP" = some (.int 7 t)
section
variable {P : Program} {w : World} {K : PySem.W.Frag} {mg : Str → Option Value} {base : Heap} {CF : Addr}
/-! length_of -/
def lenOf (ls : List Int) (i : Nat) (st : Int) : Int := if i = 1 ∨ i = 7 then max 1 (scN (ls.getD i 0) st) else scN (ls.getD i 0) st
def spLengthOf (K : PySem.W.Frag) (CF : Addr) : Sp := fun vs H Q _ => ∃ (p : Addr) (va vl : V) (ss : List Sym) (ls : List Int) (i : Nat) (st : Int), vs = [.ref p, .int (i : Int), .int st] ∧ FontAt K CF H p va vl ss ls ∧ i < 8 ∧ ∀ H', Same H H' → Q (.int (lenOf ls i st)) H'
theorem font_lens {H : Hp} {p : Addr} {va vl : V} {ss : List Sym} {ls : List Int} (F : FontAt K CF H p va vl ss ls) : ls.length = 8 := by
  obtain ⟨g, _⟩ := F
  obtain ⟨l, e, el⟩ := lens_of g.2
  have e2 : ls.map PyData.int = l.map PyData.int := by injection e
  have e3 := congrArg List.length e2
  rw [List.length_map, List.length_map] at e3
  omega
theorem scLengthOf : FnScope ["font", "which", "style", "length"] ["font", "which", "style"] (defScope sLengthOf) := ⟨rfl, rfl, rfl, by decide +kernel, rfl, by decide +kernel, by decide +kernel⟩
theorem ok_lengthof {f : Addr} {fd : FuncData} (F : Fun K "length_of" "length_of" sLengthOf f fd) (T : TxtLn K mg CF) (C_scaled : Cal P w K mg base CX0 1 "scaled" ["number", "style"] spScaled) : FnOk P w K mg base CX0 2 f fd ["font", "which", "style"] (spLengthOf K CF) := by
  have sc := scLengthOf
  refine F.ok scLengthOf (fun vs H Q E h => ?_) (fun cdv A outer s H vs Q E hr h => ?_)
  · obtain ⟨p, va, vl, ss, ls, i, st, rfl, _⟩ := h
    rfl
  · obtain ⟨p, va, vl, ss, ls, i, st, rfl, FA, hi, k⟩ := h
    refine ⟨_, (pss_cons (ps_set (i := 3) sc.nd rfl (Or.inl rfl) (pe_cal C_scaled (hr.mono (by omega)) rfl pass0 (pa_cons (pe_ix ix_tup (pe_fld (pv 0) rfl) (pv 1) (fun _ _ => rfl)) (pa_cons (pv 2) pa_nil))))
  (pss_one (ps_ret (pe_ifExp (pt_cmpR op_in_seq (pv 1) (pe_tup (pa_cons (pe_gint rfl T.c_RULE) (pa_cons (pe_gint rfl T.c_STEP) pa_nil))) (by rfl)) (pe_callB (call_max2 rfl) (by rfl) T.b_max (by decide +kernel) (pa_cons pe_int (pa_cons (pv 3) pa_nil))) (pv 3))))), ?_⟩
    have l8 := font_lens FA
    have hg : ls[i]? = some (ls.getD i 0) := by
      rw [List.getD_eq_getElem?_getD, List.getElem?_eq_getElem (by omega)]
      rfl
    obtain ⟨_, _, hlen, dx1, e1, kvs1, g1, g2, g3, g4⟩ := FA
    obtain ⟨al, rfl, hal⟩ := tp_ints hlen.dp
    have h7 : (ls.map V.int)[i]? = some (.int (ls.getD i 0)) := by rw [List.getElem?_map, hg]; rfl
    refine ⟨_, rfl, p, CF, dx1, _, _, rfl, g1, T.cl, T.nL, ff_len _ _ _, _, rfl, al, _, (i : Int), _, rfl, rfl, hal, atI_nat h7, _, rfl, _, _, rfl, ?_⟩
    obtain ⟨n, hn⟩ : ∃ n, scN (ls.getD i 0) st = n := ⟨_, rfl⟩
    rw [hn]
    unfold lenOf at k
    rw [hn] at k
    refine ⟨_, rfl, (by show 2 ≤ sizeLine; decide), fun q hq => ⟨q, [.int 1, .int 7], rfl, .inr (SqT.of upd_same), rfl, rfl, _, rfl, ?_⟩⟩
    have sq := same_new (H := H) (o := .tup [.int 1, .int 7]) hq
    by_cases c : i = 1 ∨ i = 7
    · rw [if_pos c] at k
      refine iteP ?_ ⟨_, rfl, 1, n, rfl, ?_⟩
      · rcases c with rfl | rfl <;> rfl
      · have e : (if n > 1 then n else 1) = max 1 n := by split <;> omega
        rw [e]
        exact k _ sq
    · rw [if_neg c] at k
      refine iteN ?_ ⟨_, rfl, k _ sq⟩
      simp [inV, eqV]
      omega
end
end Mg

set_option Elab.async false
set_option linter.all false
set_option maxRecDepth 100000
set_option maxHeartbeats 2000000
namespace Mg
open PySem L2
abbrev sFMetrics : Stmt := inClass (top 20) 4
abbrev sFStretched : Stmt := inClass (top 20) 5
section
variable {P : Program} {w : World} {K : PySem.W.Frag} {mg : Str → Option Value} {base : Heap} {CF CU : Addr}
/-! ### metrics -/
def Sym.m (s : Sym) (st : Int) : List Int := [scN s.wd st, scN s.ht st, scN s.dp st]
def spMetrics (K : PySem.W.Frag) (CF CU : Addr) : Sp := fun vs H Q E => ∃ (p : Addr) (x : Str) (st : Int) (va vl : V) (ss : List Sym) (ls : List Int), vs = [.ref p, .str x, .int st] ∧ x.length ≤ 1000 ∧ FontAt K CF H p va vl ss ls ∧
  (∀ s t H', look ss x = some s → Same H H' → H' t = some (.tup ((s.m st).map V.int)) → Q (.ref t) H') ∧ (look ss x = none → ∀ d, H d = none → E (.ref CU) (some d) (upd H d (.xd [("name", .str x)])))
theorem scFMetrics : FnScope ["self", "name", "style", "width", "height", "depth"] ["self", "name", "style"] (defScope sFMetrics) := ⟨rfl, rfl, rfl, by decide +kernel, rfl, by decide +kernel, by decide +kernel⟩
theorem ok_fmetrics {f : Addr} {fd : FuncData} (F : Fun K "metrics" "Font.metrics" sFMetrics f fd) (T : TxtO K CF) (C_entry : CalM P w K mg base (L2.CX P w) 3 CF "_entry" ["self", "name"] (spEntry K CF CU)) (C_scaled : Cal P w K mg base CX0 1 "scaled" ["number", "style"] spScaled) :
    FnOk P w K mg base (L2.CX P w) 4 f fd ["self", "name", "style"] (spMetrics K CF CU) := by
  have sc := scFMetrics
  refine F.okX scFMetrics (fun vs H Q E h => ?_) (fun cdv A outer s H vs Q E hr h => ?_)
  · obtain ⟨p, x, st, va, vl, ss, ls, rfl, _⟩ := h
    rfl
  · obtain ⟨p, x, st, va, vl, ss, ls, rfl, hx, FA, kQ, kE⟩ := h
    have hrentry : Room 3 _ := hr
    have hrscaled : Room 1 _ := hr.mono (by decide)
    refine ⟨_, (pss_cons (ps_asg (pe_slice sl_tup (pe_calm (pv 0) T.cl C_entry hrentry passX (pa_cons (pv 1) pa_nil)) (po_some pe_int) po_none) (pg_tup rfl (pgs_cons (pg_name (i := 3) sc.nd rfl (Or.inl rfl)) (pgs_cons (pg_name (i := 4) sc.nd rfl (Or.inl rfl)) (pgs_cons (pg_name (i := 5) sc.nd rfl (Or.inl rfl)) pgs_nil)))))
  (pss_one (ps_ret (pe_tup (pa_cons (pe_cal C_scaled hrscaled rfl pass0 (pa_cons (pv 3) (pa_cons (pv 2) pa_nil))) (pa_cons (pe_cal C_scaled hrscaled rfl pass0 (pa_cons (pv 4) (pa_cons (pv 2) pa_nil))) (pa_cons (pe_cal C_scaled hrscaled rfl pass0 (pa_cons (pv 5) (pa_cons (pv 2) pa_nil))) pa_nil))))))), ?_⟩
    have FA0 := FA
    obtain ⟨_, _, _, dx, e, kvs, h1, h2, h3, h4⟩ := FA
    refine ⟨_, rfl, p, dx, _, rfl, h1, no_entry_name _ _ _, _, rfl, p, x, va, vl, ss, ls, rfl, hx, FA0, fun sy t hl ht => ?_, kE⟩
    refine ⟨2, rfl, t, _, rfl, ht, (show ¬ (HT.sIx 5 0 (some 2) = 0 ∧ HT.sIx 5 5 none = 5) by decide +kernel), fun t2 n2 => ?_⟩
    refine ⟨t2, _, rfl, SqT.of upd_same, rfl, V.int sy.wd, _, rfl, V.int sy.ht, _, rfl, V.int sy.dp, _, rfl, rfl, ?_⟩
    refine ⟨_, rfl, _, rfl, _, _, rfl, _, rfl, _, rfl, _, _, rfl, _, rfl, _, rfl, _, _, rfl, (by show 3 ≤ sizeLine; decide), fun t3 n3 => ?_⟩
    exact kQ sy t3 _ hl ((same_new n2).trans (same_new n3)) upd_same
/-! ### stretched -/
/-- a length h stretched by steps k to at least n -/
def strN (h n k : Int) : Int := if h ≥ n then h else h + (n - h + k - 1) / k * k
def stepN (st n : Int) : Int := if scN st n > 1 then scN st n else 1
def spStretched (K : PySem.W.Frag) (CF CU : Addr) : Sp := fun vs H Q E => ∃ (p : Addr) (x : Str) (st n : Int) (va vl : V) (ss : List Sym) (ls : List Int) (k : Int), vs = [.ref p, .str x, .int st, .int n] ∧ x.length ≤ 1000 ∧ FontAt K CF H p va vl ss ls ∧
  ls[7]? = some k ∧ 0 ≤ k ∧ k ≤ 1000 ∧ (∀ s H', look ss x = some s → Same H H' → Q (.int (strN (scN s.ht st + scN s.dp st) n (stepN k st))) H') ∧ (look ss x = none → ∀ d, H d = none → E (.ref CU) (some d) (upd H d (.xd [("name", .str x)])))
theorem scN_le {k st : Int} (h0 : 0 ≤ k) (h1 : k ≤ 1000) : scN k st ≤ 1000 := by
  unfold scN
  split
  · omega
  · split <;> omega
theorem scFStretched : FnScope ["self", "name", "style", "length", "_", "height", "depth", "own", "step", "steps"] ["self", "name", "style", "length"] (defScope sFStretched) := ⟨rfl, rfl, rfl, by decide +kernel, rfl, by decide +kernel, by decide +kernel⟩
theorem ok_fstretched {f : Addr} {fd : FuncData} (F : Fun K "stretched" "Font.stretched" sFStretched f fd) (T : TxtLn K mg CF) (C_metrics : CalM P w K mg base (L2.CX P w) 4 CF "metrics" ["self", "name", "style"] (spMetrics K CF CU)) (C_length_of : Cal P w K mg base CX0 2 "length_of" ["font", "which", "style"] (spLengthOf K CF)) :
    FnOk P w K mg base (L2.CX P w) 5 f fd ["self", "name", "style", "length"] (spStretched K CF CU) := by
  have sc := scFStretched
  refine F.okX scFStretched (fun vs H Q E h => ?_) (fun cdv A outer s H vs Q E hr h => ?_)
  · obtain ⟨p, x, st, n, va, vl, ss, ls, k, rfl, _⟩ := h
    rfl
  · obtain ⟨p, x, st, n, va, vl, ss, ls, k, rfl, hx, FA, hk, k0, k1, kQ, kE⟩ := h
    have hrmetrics : Room 4 _ := hr
    have hrlen : Room 2 _ := hr.mono (by decide)
    refine ⟨_, (pss_cons (ps_asg (pe_calm (pv 0) T.cl C_metrics hrmetrics passX (pa_cons (pv 1) (pa_cons (pv 2) pa_nil))) (pg_tup rfl (pgs_cons (pg_name (i := 4) sc.nd rfl (Or.inl rfl)) (pgs_cons (pg_name (i := 5) sc.nd rfl (Or.inl rfl)) (pgs_cons (pg_name (i := 6) sc.nd rfl (Or.inl rfl)) pgs_nil)))))
  (pss_cons (ps_set (i := 7) sc.nd rfl (Or.inl rfl) (pe_op op_add (pv 5) (pv 6)))
  (pss_cons (ps_if (pt_cmpR op_ge (pv 7) (pv 3) (nomark _))
  (pss_one (ps_ret (pv 7)))
  pss_nil)
  (pss_cons (ps_set (i := 8) sc.nd rfl (Or.inl rfl) (pe_cal C_length_of hrlen rfl pass0 (pa_cons (pv 0) (pa_cons (pe_gint rfl T.c_STEP) (pa_cons (pv 2) pa_nil)))))
  (pss_cons (ps_set (i := 9) sc.nd rfl (Or.inl rfl) (pe_op op_fdiv (pe_op op_sub (pe_op op_add (pe_op op_sub (pv 3) (pv 7)) (pv 8)) pe_int) (pv 8)))
  (pss_one (ps_ret (pe_op op_add (pv 7) (pe_op op_mul (pv 9) (pv 8)))))))))), ?_⟩
    have FA0 := FA
    obtain ⟨_, _, _, dx, e, kvs, h1, h2, h3, h4⟩ := FA
    refine ⟨_, rfl, p, dx, _, rfl, h1, no_metrics_name _ _ _, _, rfl, _, rfl, p, x, st, va, vl, ss, ls, rfl, hx, FA0, fun sy t H1 hl s1 ht => ?_, kE⟩
    refine ⟨t, _, rfl, SqT.of ht, rfl, V.int _, _, rfl, V.int _, _, rfl, V.int _, _, rfl, rfl, ?_⟩
    refine ⟨_, rfl, _, rfl, _, _, rfl, rfl, ?_⟩
    refine ⟨_, rfl, _, rfl, _, _, rfl, rfl, _, rfl, ?_⟩
    by_cases c : scN sy.ht st + scN sy.dp st ≥ n
    · have kk := kQ sy H1 hl s1
      unfold strN at kk
      refine iteP (decide_eq_true c) ?_
      rw [if_pos c] at kk
      exact ⟨_, rfl, kk⟩
    · refine iteN (by simpa using c) ?_
      refine ⟨_, rfl, _, rfl, p, _, _, ss, ls, 7, st, rfl, FA0.same s1, by decide, fun H2 s2 => ?_⟩
      have el : lenOf ls 7 st = stepN k st := by
        unfold lenOf stepN
        rw [if_pos (Or.inr rfl), List.getD_eq_getElem?_getD, hk]
        show max 1 (scN k st) = _
        split <;> omega
      rw [el]
      have kk := kQ sy H2 hl (s1.trans s2)
      unfold strN at kk
      rw [if_neg c] at kk
      have sle := scN_le (st := st) k0 k1
      have b1 : 1 ≤ stepN k st := by unfold stepN; split <;> omega
      have b2 : stepN k st ≤ 1000 := by unfold stepN; split <;> omega
      refine ⟨_, rfl, _, rfl, _, _, rfl, rfl, _, rfl, _, _, rfl, rfl, _, _, rfl, rfl, _, rfl, _, _, rfl, rfl, ⟨by show 0 < stepN k st; omega, by show stepN k st < _; omega⟩, ?_⟩
      refine ⟨_, rfl, _, rfl, _, rfl, _, _, rfl, rfl, .inr ⟨by show _ < stepN k st; omega, by show stepN k st < _; omega⟩, _, _, rfl, rfl, kk⟩
end
end Mg


set_option Elab.async false
set_option linter.all false
set_option maxRecDepth 100000
set_option maxHeartbeats 4000000
namespace Mg
open PySem L2
abbrev sNames : Stmt := top 32
abbrev sLFont : Stmt := top 33
def nms : List Str := ["x", "a", "2", "+", "=", "(", ")", ",", "@sum", "@alpha", "-", "!"]
def nmsR : List Str := nms ++ [("@root" : Str)]
def kvKind : List (Key × V) := mergeK [] [(Sum.inr ("+" : Str), V.str "bin"), (Sum.inr ("-" : Str), V.str "bin"), (Sum.inr ("=" : Str), V.str "rel"), (Sum.inr ("(" : Str), V.str "open"), (Sum.inr (")" : Str), V.str "close"), (Sum.inr ("," : Str), V.str "punct"), (Sum.inr ("@sum" : Str), V.str "op")]
def kindOf (x : Str) : Str := if x = "+" then "bin" else if x = "-" then "bin" else if x = "=" then "rel" else if x = "(" then "open" else if x = ")" then "close" else if x = "," then "punct" else if x = "@sum" then "op" else "ord"
theorem kv_kind : ∀ x ∈ nmsR, (valV kvKind (Sum.inr x : Key)).getD (V.str "ord") = V.str (kindOf x) := by decide +kernel
/-- a drawn font's symbols -/
def Sym.ok (s : Sym) : Prop := s.cl = kindOf s.nm ∧ 0 ≤ s.wd ∧ s.wd ≤ 33 ∧ 0 ≤ s.ht ∧ s.ht ≤ 33 ∧ 0 ≤ s.dp ∧ s.dp ≤ 33
def LensOk (ls : List Int) : Prop := ∃ a b c d e f g h : Int, ls = [a, b, c, d, e, f, g, h] ∧ (0 ≤ a ∧ a ≤ 8) ∧ (1 ≤ b ∧ b ≤ 4) ∧ (0 ≤ c ∧ c ≤ 5) ∧ (0 ≤ d ∧ d ≤ 14) ∧ (0 ≤ e ∧ e ≤ 4) ∧ (0 ≤ f ∧ f ≤ 7) ∧ (0 ≤ g ∧ g ≤ 11) ∧ 1 ≤ h ∧ h ≤ 9
section
variable {P : Program} {w : World} {K : PySem.W.Frag} {mg : Str → Option Value} {base : Heap}
def spNames : Sp := fun vs H Q _ => vs = [] ∧ ∀ l, H l = none → Q (.ref l) (upd H l (.lst (nms.map V.str)))
theorem scNames : FnScope [] [] (defScope sNames) := ⟨rfl, rfl, rfl, by decide +kernel, rfl, by decide +kernel, by decide +kernel⟩
theorem ok_names {f : Addr} {fd : FuncData} (F : Fun K "_law_names" "_law_names" sNames f fd) : FnOk P w K mg base CX0 1 f fd [] spNames := by
  have sc := scNames
  refine F.ok scNames (fun vs H Q E h => ?_) (fun cdv A outer s H vs Q E hr h => ?_)
  · obtain ⟨rfl, _⟩ := h
    rfl
  · obtain ⟨rfl, k⟩ := h
    refine ⟨_, (pss_one (ps_ret (pe_lst (pa_cons pe_str (pa_cons pe_str (pa_cons pe_str (pa_cons pe_str (pa_cons pe_str (pa_cons pe_str (pa_cons pe_str (pa_cons pe_str (pa_cons pe_str (pa_cons pe_str (pa_cons pe_str (pa_cons pe_str pa_nil))))))))))))))), ?_⟩
    exact ⟨(by show 12 ≤ sizeLine; decide), k⟩
theorem Stream.new {H H' : Hp} {st pd pl : Addr} (S : Stream H st pd pl) (s : Same H H') : Stream H' st pd pl := by
  obtain ⟨n1, n2, ds, k, h1, h2, h3, r⟩ := S
  exact ⟨n1, n2, ds, k, s _ _ h1, s _ _ h2, s _ _ h3, r⟩
theorem Stream.pl {H : Hp} {st pd pl : Addr} (S : Stream H st pd pl) : ∃ k : Int, H pl = some (.lst [.int k]) := by
  obtain ⟨n1, n2, ds, k, h1, h2, h3, r⟩ := S
  exact ⟨k, h3⟩
theorem Stream.at {H : Hp} {st pd pl : Addr} (S : Stream H st pd pl) : ∃ o, H st = some o := by
  obtain ⟨n1, n2, ds, k, h1, h2, h3, r⟩ := S
  exact ⟨_, h1⟩
/-- three sizes drawn -/
def spLFont (K : PySem.W.Frag) : Sp := fun vs H Q _ => ∃ (st pd pl : Addr), vs = [.ref st] ∧ Stream H st pd pl ∧ ∀ (f a b : Addr) (ss : List Sym) (ls : List Int) (H' : Hp), KeepB pl H H' → Stream H' st pd pl → H' f = some (.tup [.ref a, .ref b]) →
  SqT K H' b (ls.map V.int) → Tp K H' (.ref a) (symsD ss) → ss.map (·.nm) = nmsR → (∀ s ∈ ss, s.ok) → LensOk ls → Q (.ref f) H'
theorem scLFont : FnScope ["stream", "kinds", "symbols", "name", "size", "lengths", "spaces", "k"] ["stream"] (defScope sLFont) := ⟨rfl, rfl, rfl, by decide +kernel, rfl, by decide +kernel, by decide +kernel⟩
theorem ok_lfont {f : Addr} {fd : FuncData} (F : Fun K "_law_font" "_law_font" sLFont f fd) (T : TxtB mg) (C_law_names : Cal P w K mg base CX0 1 "_law_names" [] spNames) (C_law_next : Cal P w K mg base CX0 1 "_law_next" ["stream", "many"] spNext) : FnOk P w K mg base CX0 2 f fd ["stream"] (spLFont K) := by
  have sc := scLFont
  refine F.ok scLFont (fun vs H Q E h => ?_) (fun cdv A outer s H vs Q E hr h => ?_)
  · obtain ⟨st, pd, pl, rfl, _⟩ := h
    rfl
  · obtain ⟨st, pd, pl, rfl, S, k⟩ := h
    have hrlaw_names : Room 1 _ := hr.mono (by decide)
    have hrlaw_next : Room 1 _ := hr.mono (by decide)
    have hu := hu_of hr
    refine ⟨_, (pss_cons (ps_set (i := 1) sc.nd rfl (Or.inl rfl) (pe_disp (pps_cons pe_str pe_str (pps_cons pe_str pe_str (pps_cons pe_str pe_str (pps_cons pe_str pe_str (pps_cons pe_str pe_str (pps_cons pe_str pe_str (pps_cons pe_str pe_str pps_nil))))))) (by rfl) (by rfl) (fun z => by cases z) (by decide)))
  (pss_cons (ps_set (i := 2) sc.nd rfl (Or.inl rfl) (pe_lst pa_nil))
  (pss_cons (ps_for PassesOwn.never rfl (pi_list (pe_op op_cat (by exact (pe_cal0 C_law_names hrlaw_names rfl pass0)) (pe_lst (pa_cons pe_str pa_nil)))) (pg_name (i := 3) sc.nd rfl (Or.inl rfl))
  (pss_cons (ps_setLc (i := 4) (own := [("k", 7)]) rfl sc.nd rfl rfl (sw_true rfl rfl rfl (by decide +kernel)) (pi_range1 rfl T.range (pa_cons pe_int pa_nil)) (blkOk_by (own := [("k", 7)]) (N := ["stream", "kinds", "symbols", "name", "size", "lengths", "spaces", "k"]) (sc := defScope sLFont) (by decide +kernel)) (fun _ _ _ _ _ => (pg_name (i := 7) sc.nd rfl (Or.inl rfl))) (fun _ _ _ _ _ => pts_nil) (fun _ _ _ _ _ => (pe_op op_mul (pe_cal C_law_next hrlaw_next rfl pass0 (pa_cons (pv 0) (pa_cons pe_int pa_nil))) (pe_ix (r := rIxL K) ix_list (pe_lst (pa_cons pe_int (pa_cons pe_int (pa_cons pe_int pa_nil)))) (pe_cal C_law_next hrlaw_next rfl pass0 (pa_cons (pv 0) (pa_cons pe_int pa_nil))) (fun _ _ => rfl)))))
  (pss_one (ps_expr (pe_bm PySem.F.plainAttrs_list PySem.F.slot_list_append PySem.F.type_list_append mt_append (pv 2) (pa_cons (pe_tup (pa_cons (pv 3) (pa_cons (pe_dget2 hu (pv 1) (pv 3) pe_str (by exact ⟨rfl, rfl, rfl, rfl⟩)) (pa_cons (pe_ix ix_list (pv 4) pe_int (fun _ _ => rfl)) (pa_cons (pe_ix ix_list (pv 4) pe_int (fun _ _ => rfl)) (pa_cons (pe_ix ix_list (pv 4) pe_int (fun _ _ => rfl)) pa_nil)))))) pa_nil))))))
  (pss_cons (ps_set (i := 5) sc.nd rfl (Or.inl rfl) (pe_tup (pa_cons (pe_cal C_law_next hrlaw_next rfl pass0 (pa_cons (pv 0) (pa_cons pe_int pa_nil))) (pa_cons (pe_op op_add pe_int (pe_cal C_law_next hrlaw_next rfl pass0 (pa_cons (pv 0) (pa_cons pe_int pa_nil)))) (pa_cons (pe_cal C_law_next hrlaw_next rfl pass0 (pa_cons (pv 0) (pa_cons pe_int pa_nil))) (pa_cons (pe_cal C_law_next hrlaw_next rfl pass0 (pa_cons (pv 0) (pa_cons pe_int pa_nil))) pa_nil))))))
  (pss_cons (ps_set (i := 6) sc.nd rfl (Or.inl rfl) (pe_tup (pa_cons (pe_cal C_law_next hrlaw_next rfl pass0 (pa_cons (pv 0) (pa_cons pe_int pa_nil))) (pa_cons (pe_cal C_law_next hrlaw_next rfl pass0 (pa_cons (pv 0) (pa_cons pe_int pa_nil))) (pa_cons (pe_cal C_law_next hrlaw_next rfl pass0 (pa_cons (pv 0) (pa_cons pe_int pa_nil))) (pa_cons (pe_op op_add pe_int (pe_cal C_law_next hrlaw_next rfl pass0 (pa_cons (pv 0) (pa_cons pe_int pa_nil)))) pa_nil))))))
  (pss_one (ps_ret (pe_tup (pa_cons (pe_callTy call_tuple_of (by rfl) T.b_tuple (by decide +kernel) (pa_cons (pv 2) pa_nil)) (pa_cons (pe_op op_catT (pv 5) (pv 6)) pa_nil)))))))))), ?_⟩
    intro kp hkp
    refine ⟨upd_same, [(Sum.inr ("+" : Str), V.str "bin"), (Sum.inr ("-" : Str), V.str "bin"), (Sum.inr ("=" : Str), V.str "rel"), (Sum.inr ("(" : Str), V.str "open"), (Sum.inr (")" : Str), V.str "close"), (Sum.inr ("," : Str), V.str "punct"), (Sum.inr ("@sum" : Str), V.str "op")], rfl, by decide, ?_⟩
    rw [upd_upd]
    show tSeq _ _ _ _ (upd H kp (.dK kvKind))
    have s1 : Same H (upd H kp (.dK kvKind)) := same_new hkp
    refine ⟨Nat.zero_le _, fun l hl => ?_⟩
    have s2 : Same (upd H kp (.dK kvKind)) (upd (upd H kp (.dK kvKind)) l (.lst [])) := same_new hl
    have hkd : (upd (upd H kp (.dK kvKind)) l (.lst [])) kp = some (.dK kvKind) := s2 _ _ upd_same
    have hll : (upd (upd H kp (.dK kvKind)) l (.lst [])) l = some (.lst []) := upd_same
    have sB := s1.trans s2
    have SB := S.new sB
    have lH : H l = none := s1.free hl
    generalize (upd (upd H kp (.dK kvKind)) l (.lst [])) = HB at hkd hll sB SB ⊢
    refine ⟨rfl, fun la hla => ⟨(by show 1 ≤ sizeLine; decide), fun lb hlb => ?_⟩⟩
    have nla : la ≠ lb := fun e => by
      rw [← e, upd_same] at hlb
      cases hlb
    refine ⟨la, lb, nms.map V.str, [V.str "@root"], rfl, rfl, by rw [upd_ne nla]; exact upd_same, upd_same, by show 13 ≤ sizeLine; decide, fun ln hln => ?_⟩
    have sN : Same HB (upd (upd (upd HB la (.lst (nms.map V.str))) lb (.lst [V.str "@root"])) ln (.lst (nms.map V.str ++ [V.str "@root"]))) := ((same_new hla).trans (same_new hlb)).trans (same_new hln)
    have hnn : (upd (upd (upd HB la (.lst (nms.map V.str))) lb (.lst [V.str "@root"])) ln (.lst (nms.map V.str ++ [V.str "@root"]))) ln = some (.lst (nmsR.map V.str)) := by
      rw [upd_same]
      rfl
    have lnH : HB ln = none := by
      have z := ((same_new hla).trans (same_new hlb)).free hln
      exact z
    generalize (upd (upd (upd HB la (.lst (nms.map V.str))) lb (.lst [V.str "@root"])) ln (.lst (nms.map V.str ++ [V.str "@root"]))) = HN at sN hnn ⊢
    have SN := SB.new sN
    have lnpl : ln ≠ pl := fun e => by
      obtain ⟨q, hq⟩ := SB.pl
      rw [← e, lnH] at hq
      cases hq
    have lpl : l ≠ pl := fun e => by
      obtain ⟨q, hq⟩ := S.pl
      rw [← e, lH] at hq
      cases hq
    have lln : l ≠ ln := fun e => by
      rw [e, lnH] at hll
      cases hll
    have kppl : kp ≠ pl := fun e => by
      obtain ⟨q, hq⟩ := S.pl
      rw [← e, hkp] at hq
      cases hq
    have lnl : (nmsR.map V.str).length = 13 := rfl
    refine ⟨ln, rfl, ⟨_, SqL.of hnn⟩, for_list (K := K) (a := ln) (xs := nmsR.map V.str) (fun i σ H' => ∃ (ts : List Addr) (ss : List Sym) (x3 x4 : Option V), σ = [some (.ref st), some (.ref kp), some (.ref l), x3, x4, none, none, none] ∧ KeepB pl H H' ∧ Stream H' st pd pl ∧ H' kp = some (.dK kvKind) ∧
        H' ln = some (.lst (nmsR.map V.str)) ∧ H' l = some (.lst (ts.map V.ref)) ∧ ts.length = i ∧ ss.length = i ∧ (∀ (j : Nat) (t : Addr) (s : Sym), ts[j]? = some t → ss[j]? = some s → SqT K H' t s.vs) ∧ ss.map (·.nm) = nmsR.take i ∧ ∀ s ∈ ss, s.ok)
      ⟨[], [], none, none, rfl, KeepB.of (sB.trans sN), SN, sN _ _ hkd, hnn, sN _ _ hll, rfl, rfl, fun j t s h => by simp at h, rfl, fun s h => nomatch h⟩ (fun i σ H' _ ⟨_, _, _, _, _, _, _, _, e, _⟩ => SqL.of e) ?_ ?_⟩
    · rintro i y σ H' hi ⟨ts, ss, x3, x4, rfl, kb, S', hK, hN, hL, tl, sl, hT, hnm, hok⟩
      obtain ⟨x, hx, rfl⟩ : ∃ x, nmsR[i]? = some x ∧ y = V.str x := by
        rw [List.getElem?_map] at hi
        cases e : nmsR[i]? with
        | none => rw [e] at hi; cases hi
        | some z => rw [e] at hi; exact ⟨z, rfl, (Option.some.inj hi).symm⟩
      have i13 : i < 13 := (List.getElem?_eq_some_iff.mp hx).1
      -- the sizes
      refine ⟨3, rfl, by decide, by decide, fun D hD => ?_⟩
      have Dpl : D ≠ pl := fun e => by
        obtain ⟨q, hq⟩ := S'.pl
        rw [← e, hD] at hq
        cases hq
      refine lc_word (n := 3) (fun j acc H2 => ∃ zs : List Int, acc = zs.map V.int ∧ zs.length = j ∧ (∀ z ∈ zs, 0 ≤ z ∧ z ≤ 33) ∧ KeepB pl H' H2 ∧ Stream H2 st pd pl) ⟨[], rfl, rfl, (fun _ h => nomatch h), KeepB.of (same_new hD), S'.new (same_new hD)⟩ (fun j acc H2 hj _ => hj) (fun acc H2 _ => Nat.le_refl _) ?_ ?_
      · rintro j acc xx H2 H3 R Z hj ⟨zs, rfl, zl, zb, kb2, S2⟩ hDl ⟨rfl, rfl⟩ kR
        refine ⟨rfl, ?_⟩
        refine ⟨_, rfl, st, pd, pl, 12, rfl, by decide, S2, fun v H4 v0 v1 kb4 S4 => ?_⟩
        refine ⟨(by show 3 ≤ sizeLine; decide), fun q hq => ?_⟩
        refine ⟨_, rfl, st, pd, pl, 3, rfl, by decide, S4.new (same_new hq), fun u H5 u0 u1 kb5 S5 => ?_⟩
        have qpl : q ≠ pl := fun e => by
          obtain ⟨m, hm⟩ := S4.pl
          rw [← e, hq] at hm
          cases hm
        have hq5 := kb5 _ _ upd_same qpl
        have kk : ∀ m : Int, 0 ≤ m → m ≤ 3 → ∀ idx : atI ([V.int 0, V.int 1, V.int 3] : List V) u = some (V.int m), R (V.int (v * m)) H5 := fun m m0 m1 _ => by
          have hD5 : H5 D = some (.lst (zs.map V.int)) := kb5 _ _ (same_new hq _ _ (kb4 _ _ hDl Dpl)) Dpl
          refine kR _ _ hD5 (by rw [List.length_map]; exact small1000 (by omega)) ⟨zs ++ [v * m], by rw [List.map_append]; rfl, by rw [List.length_append, zl]; rfl, fun z hz => ?_, ?_, ?_⟩
          · rcases List.mem_append.mp hz with z1 | z1
            · exact zb z z1
            · rw [List.mem_singleton.mp z1]
              exact ⟨Int.mul_nonneg v0 m0, Int.le_trans (Int.mul_le_mul (show v ≤ 11 by omega) m1 m0 (by decide)) (by decide)⟩
          · refine keep_upd_new ?_ hD
            exact (kb2.trans kb4).trans ((KeepB.of (same_new hq)).trans kb5)
          · obtain ⟨n1, n2, ds, kk, g1, g2, g3, r⟩ := S5
            have stD : st ≠ D := fun e => by
              obtain ⟨o, ho⟩ := S'.at
              rw [e, hD] at ho
              cases ho
            have pdD : pd ≠ D := fun e => by
              obtain ⟨m1, m2, ds', k', g1', g2', g3', r'⟩ := S'
              rw [e, hD] at g2'
              cases g2'
            exact ⟨n1, n2, ds, kk, by rw [upd_ne stD]; exact g1, by rw [upd_ne pdD]; exact g2, by rw [upd_ne Dpl.symm]; exact g3, r⟩
        obtain ⟨m, m0, m1, hm⟩ : ∃ m : Int, 0 ≤ m ∧ m ≤ 3 ∧ atI ([V.int 0, V.int 1, V.int 3] : List V) u = some (V.int m) := by
          rcases (show u = 0 ∨ u = 1 ∨ u = 2 by omega) with rfl | rfl | rfl
          · exact ⟨0, by decide, by decide, rfl⟩
          · exact ⟨1, by decide, by decide, rfl⟩
          · exact ⟨3, by decide, by decide, rfl⟩
        exact ⟨q, _, u, _, rfl, rfl, SqL.of hq5, hm, v, m, rfl, rfl, .inl ⟨by omega, by omega⟩, kk m m0 m1 hm⟩
      · rintro acc H2 ⟨zs, rfl, zl, zb, kb2, S2⟩ hDl
        obtain ⟨z1, z2, z3, rfl⟩ : ∃ a b c, zs = [a, b, c] := by
          match zs, zl with
          | [a, b, c], _ => exact ⟨a, b, c, rfl⟩
        have hK2 := kb2 _ _ hK kppl
        refine ⟨_, rfl, .inl ⟨rfl, _, SqL.of (kb2 _ _ hL lpl)⟩, ?_⟩
        refine ⟨_, rfl, _, rfl, kp, rfl, .inl ⟨_, .inl hK2⟩, _, rfl, _, DGet.k (k := Sum.inr x) hK2, ?_⟩
        rw [kv_kind x (List.mem_of_getElem? hx)]
        refine ⟨_, rfl, D, _, 0, _, rfl, rfl, SqL.of hDl, rfl, _, rfl, D, _, 1, _, rfl, rfl, SqL.of hDl, rfl, _, rfl, D, _, 2, _, rfl, rfl, SqL.of hDl, rfl, (by show 5 ≤ sizeLine; decide), fun t ht => ?_⟩
        have tl2 : t ≠ l := fun e => by
          have z := kb2 _ _ hL lpl
          rw [← e, ht] at z
          cases z
        refine ⟨l, _, _, rfl, rfl, by rw [upd_ne tl2.symm]; exact kb2 _ _ hL lpl, by rw [List.length_map]; exact small1000 (by omega), ?_⟩
        have b1 := zb z1 (by simp)
        have b2 := zb z2 (by simp)
        have b3 := zb z3 (by simp)
        have kbT : KeepB pl H' (upd H2 t (.tup [V.str x, V.str (kindOf x), V.int z1, V.int z2, V.int z3])) := kb2.trans (KeepB.of (same_new ht))
        have nl : ∀ {b : Addr} {o : HO}, (upd H2 t (.tup [V.str x, V.str (kindOf x), V.int z1, V.int z2, V.int z3])) b = some o → b ≠ l → (upd (upd H2 t (.tup [V.str x, V.str (kindOf x), V.int z1, V.int z2, V.int z3])) l (.lst (ts.map V.ref ++ [V.ref t]))) b = some o := fun h n => by
          rw [upd_ne n]
          exact h
        have llst : (upd H2 t (.tup [V.str x, V.str (kindOf x), V.int z1, V.int z2, V.int z3])) l = some (.lst (ts.map V.ref)) := by
          rw [upd_ne tl2.symm]
          exact kb2 _ _ hL lpl
        have nT : ∀ {b : Addr} {ys : List V}, SqT K (upd H2 t (.tup [V.str x, V.str (kindOf x), V.int z1, V.int z2, V.int z3])) b ys → SqT K (upd (upd H2 t (.tup [V.str x, V.str (kindOf x), V.int z1, V.int z2, V.int z3])) l (.lst (ts.map V.ref ++ [V.ref t]))) b ys := fun {b ys} z => by
          rcases z with (z | ⟨o, z⟩) | z
          · exact .inl (.inl (nl z (ne_of z llst (by intro q; cases q))))
          · exact .inl (.inr ⟨o, nl z (ne_of z llst (by intro q; cases q))⟩)
          · exact .inr z
        refine ⟨ts ++ [t], ss ++ [⟨x, kindOf x, z1, z2, z3⟩], _, _, rfl, fun b o hb nb => ?_, ?_, ?_, ?_, by rw [upd_same, List.map_append]; rfl, by rw [List.length_append, tl]; rfl, by rw [List.length_append, sl]; rfl, ?_, by rw [List.map_append, hnm, take_snoc hx]; rfl, ?_⟩
        · have nbl : b ≠ l := fun e => by
            rw [e, lH] at hb
            cases hb
          exact nl (kbT _ _ (kb _ _ hb nb) nb) nbl
        · obtain ⟨n1, n2, ds, kk, g1, g2, g3, r⟩ := S2.new (same_new (o := .tup [V.str x, V.str (kindOf x), V.int z1, V.int z2, V.int z3]) ht)
          have stl : st ≠ l := fun e => by
            obtain ⟨o, ho⟩ := S.at
            rw [e, lH] at ho
            cases ho
          have pdl : pd ≠ l := fun e => by
            obtain ⟨m1, m2, ds', k', g1', g2', g3', r'⟩ := S
            rw [e, lH] at g2'
            cases g2'
          exact ⟨n1, n2, ds, kk, nl g1 stl, nl g2 pdl, nl g3 lpl.symm, r⟩
        · exact nl (kbT _ _ hK kppl) (ne_of hK hL (by intro z; cases z))
        · exact nl (kbT _ _ hN lnpl) lln.symm
        · intro j t' s' hj hs'
          by_cases e : j < ts.length
          · rw [List.getElem?_append_left e] at hj
            rw [List.getElem?_append_left (by omega)] at hs'
            have q := hT j t' s' hj hs'
            obtain ⟨m, hm⟩ := S'.pl
            exact nT ((TupK.keep kbT hm).seq q)
          · have ej : j = ts.length := by
              have := (List.getElem?_eq_some_iff.mp hj).1
              rw [List.length_append] at this
              simp at this
              omega
            subst ej
            rw [List.getElem?_append_right (Nat.le_refl _), Nat.sub_self] at hj
            rw [List.getElem?_append_right (by omega), show ts.length - ss.length = 0 by omega] at hs'
            cases Option.some.inj hj
            cases Option.some.inj hs'
            exact nT (SqT.of upd_same)
        · intro s' hs'
          rcases List.mem_append.mp hs' with z | z
          · exact hok s' z
          · rw [List.mem_singleton.mp z]
            exact ⟨rfl, b1.1, b1.2, b2.1, b2.2, b3.1, b3.2⟩
    · rintro σ H1 ⟨ts, ss, x3, x4, rfl, kb, S1, hK, hN, hL, tl, sl, hT, hnm, hok⟩
      rw [lnl] at tl sl hnm
      refine ⟨_, rfl, st, pd, pl, 9, rfl, by decide, S1, fun a1 H2 a10 a11 kb2 S2 => ?_⟩
      refine ⟨_, rfl, st, pd, pl, 4, rfl, by decide, S2, fun a2 H3 a20 a21 kb3 S3 => ?_⟩
      refine ⟨_, _, rfl, rfl, _, rfl, st, pd, pl, 6, rfl, by decide, S3, fun a3 H4 a30 a31 kb4 S4 => ?_⟩
      refine ⟨_, rfl, st, pd, pl, 15, rfl, by decide, S4, fun a4 H5 a40 a41 kb5 S5 => ⟨(by show 4 ≤ sizeLine; decide), fun t1 ht1 => ?_⟩⟩
      have s6 := same_new (o := .tup [V.int a1, V.int (1 + a2), V.int a3, V.int a4]) ht1
      have S6 := S5.new s6
      refine ⟨_, rfl, st, pd, pl, 5, rfl, by decide, S6, fun b1 H7 b10 b11 kb7 S7 => ?_⟩
      refine ⟨_, rfl, st, pd, pl, 8, rfl, by decide, S7, fun b2 H8 b20 b21 kb8 S8 => ?_⟩
      refine ⟨_, rfl, st, pd, pl, 12, rfl, by decide, S8, fun b3 H9 b30 b31 kb9 S9 => ?_⟩
      refine ⟨_, rfl, st, pd, pl, 9, rfl, by decide, S9, fun b4 HA b40 b41 kbA SA => ?_⟩
      refine ⟨_, _, rfl, rfl, (by show 4 ≤ sizeLine; decide), fun t2 ht2 => ?_⟩
      have sC := same_new (o := .tup [V.int b1, V.int b2, V.int b3, V.int (1 + b4)]) ht2
      have kbZ : KeepB pl H5 HA := (KeepB.of s6).trans (((kb7.trans kb8).trans kb9).trans kbA)
      have kbY : KeepB pl H1 H5 := ((kb2.trans kb3).trans kb4).trans kb5
      have kbX : KeepB pl H1 (upd HA t2 (.tup [V.int b1, V.int b2, V.int b3, V.int (1 + b4)])) := (kbY.trans kbZ).trans (KeepB.of sC)
      have SC := SA.new sC
      have t1pl : t1 ≠ pl := fun e => by
        obtain ⟨m, hm⟩ := S5.pl
        rw [← e, ht1] at hm
        cases hm
      have h1C : (upd HA t2 (.tup [V.int b1, V.int b2, V.int b3, V.int (1 + b4)])) t1 = some (.tup [V.int a1, V.int (1 + a2), V.int a3, V.int a4]) := sC _ _ ((((kb7.trans kb8).trans kb9).trans kbA) _ _ upd_same t1pl)
      have h2C : (upd HA t2 (.tup [V.int b1, V.int b2, V.int b3, V.int (1 + b4)])) t2 = some (.tup [V.int b1, V.int b2, V.int b3, V.int (1 + b4)]) := upd_same
      have hLC : (upd HA t2 (.tup [V.int b1, V.int b2, V.int b3, V.int (1 + b4)])) l = some (.lst (ts.map V.ref)) := kbX _ _ hL lpl
      generalize (upd HA t2 (.tup [V.int b1, V.int b2, V.int b3, V.int (1 + b4)])) = HC at kbX SC h1C h2C hLC ⊢
      refine ⟨_, rfl, l, _, rfl, .inl ⟨SqL.of hLC, fun u hu2 => ?_⟩⟩
      have sU := same_new (o := .tup (ts.map V.ref)) hu2
      refine ⟨_, rfl, _, rfl, t1, t2, _, _, rfl, rfl, SqT.of (sU _ _ h1C), SqT.of (sU _ _ h2C), by simp, (by show 8 ≤ sizeLine; decide), fun z => by simp at z, fun _ u2 hu3 => ?_⟩
      have sV := same_new (o := .tup ([V.int a1, V.int (1 + a2), V.int a3, V.int a4] ++ [V.int b1, V.int b2, V.int b3, V.int (1 + b4)])) hu3
      refine ⟨(by show 2 ≤ sizeLine; decide), fun fz hfz => ?_⟩
      have sW := same_new (o := .tup [V.ref u, V.ref u2]) hfz
      have sT := (sU.trans sV).trans sW
      obtain ⟨pq, hpq⟩ := S1.pl
      have tkF := (TupK.keep kbX hpq).trans (TupK.of sT)
      refine k fz u u2 ss [a1, 1 + a2, a3, a4, b1, b2, b3, 1 + b4] _ ((kb.trans kbX).trans (KeepB.of sT)) (SC.new sT) upd_same (SqT.of (sW _ _ upd_same)) ?_ hnm hok ⟨a1, 1 + a2, a3, a4, b1, b2, b3, 1 + b4, rfl, ⟨a10, by omega⟩, ⟨by omega, by omega⟩, ⟨a30, by omega⟩, ⟨a40, by omega⟩, ⟨b10, by omega⟩, ⟨b20, by omega⟩, ⟨b30, by omega⟩, by omega, by omega⟩
      refine .tup (SqT.of (sW _ _ (sV _ _ upd_same))) (by rw [List.length_map, List.length_map, tl, sl]) fun j x d hx hd => ?_
      rw [List.getElem?_map] at hx hd
      cases e1 : ts[j]? with
      | none => rw [e1] at hx; cases hx
      | some tj =>
        cases e2 : ss[j]? with
        | none => rw [e2] at hd; cases hd
        | some sj =>
          rw [e1] at hx
          rw [e2] at hd
          cases Option.some.inj hx
          cases Option.some.inj hd
          exact sym_tp (tkF.seq (hT j tj sj e1 e2))
end
end Mg

set_option Elab.async false
set_option linter.all false
set_option maxRecDepth 100000
set_option maxHeartbeats 4000000
namespace Mg
open PySem L2
abbrev sLScaled : Stmt := top 34
abbrev sLSizes : Stmt := top 35
abbrev sLStretches : Stmt := top 38
section
variable {P : Program} {w : World} {K : PySem.W.Frag} {mg : Str → Option Value} {base : Heap} {CF : Addr}
def spLScaled : Sp := fun vs H Q _ => ∃ n s : Int, vs = [.int n, .int s] ∧ 0 ≤ s ∧ s ≤ 3 ∧ ∀ H', Same H H' → Q (.int (scN n s)) H'
theorem at4 {a b c d : Int} {s n : Int} (h0 : 0 ≤ s) (h3 : s ≤ 3) (e0 : s = 0 → a = n) (e1 : s = 1 → b = n) (e2 : s = 2 → c = n) (e3 : s = 3 → d = n) : atI ([V.int a, V.int b, V.int c, V.int d] : List V) s = some (V.int n) := by
  rcases (show s = 0 ∨ s = 1 ∨ s = 2 ∨ s = 3 by omega) with q | q | q | q
  · rw [← e0 q, q]
    rfl
  · rw [← e1 q, q]
    rfl
  · rw [← e2 q, q]
    rfl
  · rw [← e3 q, q]
    rfl
theorem scLScaled : FnScope ["number", "style"] ["number", "style"] (defScope sLScaled) := ⟨rfl, rfl, rfl, by decide +kernel, rfl, by decide +kernel, by decide +kernel⟩
theorem ok_lscaled {f : Addr} {fd : FuncData} (F : Fun K "_law_scaled" "_law_scaled" sLScaled f fd) : FnOk P w K mg base CX0 1 f fd ["number", "style"] spLScaled := by
  have sc := scLScaled
  refine F.ok scLScaled (fun vs H Q E h => ?_) (fun cdv A outer s H vs Q E hr h => ?_)
  · obtain ⟨n, st, rfl, _⟩ := h
    rfl
  · obtain ⟨n, st, rfl, h0, h3, k⟩ := h
    refine ⟨_, (pss_one (ps_ret (pe_ix ix_list (pe_lst (pa_cons (pv 0) (pa_cons (pv 0) (pa_cons (pe_op op_fdiv (pe_op op_mul pe_int (pv 0)) pe_int) (pa_cons (pe_op op_fdiv (pv 0) pe_int) pa_nil))))) (pv 1) (fun _ _ => rfl)))), ?_⟩
    refine ⟨_, rfl, _, rfl, _, rfl, _, _, rfl, rfl, .inl ⟨by decide, by decide⟩, _, _, rfl, rfl, ⟨by decide, by decide⟩, _, rfl, _, _, rfl, rfl, ⟨by decide, by decide⟩, (by show 4 ≤ sizeLine; decide), fun l hl => ?_⟩
    refine ⟨_, rfl, l, _, _, _, rfl, rfl, SqL.of upd_same, at4 h0 h3 (n := scN n st) ?_ ?_ ?_ ?_, k _ (same_new hl)⟩ <;> intro e <;> unfold scN <;> rw [e] <;> rfl
def spLSizes (K : PySem.W.Frag) : Sp := fun vs H Q _ => ∃ (f a : Addr) (y : V) (x : Str) (st : Int) (ss : List Sym) (s : Sym), vs = [.ref f, .str x, .int st] ∧ SqT K H f [.ref a, y] ∧ Tp K H (.ref a) (symsD ss) ∧ look ss x = some s ∧ 0 ≤ st ∧ st ≤ 3 ∧
  ∀ l H', Same H H' → H l = none → H' l = some (.lst ((s.m st).map V.int)) → Q (.ref l) H'
theorem scLSizes : FnScope ["font", "name", "style", "symbol", "part"] ["font", "name", "style"] (defScope sLSizes) := ⟨rfl, rfl, rfl, by decide +kernel, rfl, by decide +kernel, by decide +kernel⟩
theorem syms_get {H : Hp} {v : V} {ss : List Sym} (h : Tp K H v (symsD ss)) : ∃ (a : Addr) (ts : List Addr), v = .ref a ∧ SqT K H a (ts.map V.ref) ∧ ts.length = ss.length ∧ ∀ (i : Nat) (t : Addr) (s : Sym), ts[i]? = some t → ss[i]? = some s → SqT K H t s.vs := by
  have key : ∀ {ss : List Sym} {xs : List V}, DpAll K H xs (ss.map Sym.d) → ∃ ts : List Addr, xs = ts.map V.ref ∧ ts.length = ss.length ∧ ∀ (i : Nat) (t : Addr) (s : Sym), ts[i]? = some t → ss[i]? = some s → SqT K H t s.vs := by
    intro ss
    induction ss with
    | nil =>
      intro xs h
      cases h
      exact ⟨[], rfl, rfl, fun i t s h => by simp at h⟩
    | cons s ss ih =>
      intro xs h
      cases h with
      | cons d r =>
        obtain ⟨t, rfl, ht⟩ := tp_sym d
        obtain ⟨ts, rfl, hl, hg⟩ := ih r
        refine ⟨t :: ts, rfl, by rw [List.length_cons, List.length_cons, hl], fun i t' s' h1 h2 => ?_⟩
        cases i with
        | zero =>
          cases Option.some.inj h1
          cases Option.some.inj h2
          exact ht
        | succ i => exact hg i t' s' h1 h2
  cases h.dp with
  | @tup a xs _ hs ha =>
    obtain ⟨ts, rfl, r⟩ := key ha
    exact ⟨a, ts, rfl, hs, r⟩
theorem ok_lsizes {f : Addr} {fd : FuncData} (F : Fun K "_law_sizes" "_law_sizes" sLSizes f fd) (C_law_scaled : Cal P w K mg base CX0 1 "_law_scaled" ["number", "style"] spLScaled) : FnOk P w K mg base CX0 2 f fd ["font", "name", "style"] (spLSizes K) := by
  have sc := scLSizes
  refine F.ok scLSizes (fun vs H Q E h => ?_) (fun cdv A outer s H vs Q E hr h => ?_)
  · obtain ⟨f, a, y, x, st, ss, s, rfl, _⟩ := h
    rfl
  · obtain ⟨f, a, y, x, st, ss, s, rfl, hf, hT, hlook, h0, h3, k⟩ := h
    have hrlaw_scaled : Room 1 _ := hr
    refine ⟨_, (pss_cons (ps_for PassesOwn.never rfl (pi_tup (pe_ix ix_tup (pv 0) pe_int (fun _ _ => rfl))) (pg_name (i := 3) sc.nd rfl (Or.inl rfl))
  (pss_one (ps_if (pt_cmpR op_eq (pe_ix ix_tup (pv 3) pe_int (fun _ _ => rfl)) (pv 1) (nomark _))
  (pss_one (ps_ret (pe_lc (own := [("part", 4)]) rfl sc.nd (pi_tup (pe_slice sl_tup (pv 3) (po_some pe_int) po_none)) (blkOk_by (own := [("part", 4)]) (N := ["font", "name", "style", "symbol", "part"]) (sc := defScope sLSizes) (by decide +kernel)) (fun _ _ _ _ _ => (pg_name (i := 4) sc.nd rfl (Or.inl rfl))) (fun _ _ _ _ _ => pts_nil) (fun _ _ _ _ _ => (pe_cal C_law_scaled hrlaw_scaled rfl pass0 (pa_cons (pv 4) (pa_cons (pv 2) pa_nil)))))))
  pss_nil)))
  (pss_one (ps_ret pe_non))), ?_⟩
    obtain ⟨a', ts, e, hs, tl, hg⟩ := syms_get hT
    cases e
    refine ⟨_, rfl, f, _, 0, _, rfl, rfl, hf, rfl, a, rfl, ⟨_, hs⟩, for_tup (K := K) (a := a) (xs := ts.map V.ref) (fun i σ H' => ∃ x3, σ = [some (.ref f), some (.str x), some (.int st), x3, none] ∧ H' = H ∧ ∀ (j : Nat) (s' : Sym), j < i → ss[j]? = some s' → s'.nm ≠ x)
      ⟨none, rfl, rfl, fun _ _ h => absurd h (Nat.not_lt_zero _)⟩ (fun i σ H' _ ⟨_, _, e, _⟩ => e ▸ hs) ?_ ?_⟩
    · rintro i v σ H' hi ⟨x3, rfl, rfl, hno⟩
      obtain ⟨t, ht, rfl⟩ : ∃ t, ts[i]? = some t ∧ v = V.ref t := by
        rw [List.getElem?_map] at hi
        cases e : ts[i]? with
        | none => rw [e] at hi; cases hi
        | some z => rw [e] at hi; exact ⟨z, rfl, (Option.some.inj hi).symm⟩
      have il : i < ss.length := by rw [← tl]; exact (List.getElem?_eq_some_iff.mp ht).1
      have hsi : ss[i]? = some ss[i] := List.getElem?_eq_getElem il
      have hq := hg i t _ ht hsi
      refine ⟨_, rfl, t, _, 0, _, rfl, rfl, hq, rfl, _, rfl, rfl, _, rfl, ?_⟩
      by_cases c : ss[i].nm = x
      · refine iteP (by rw [c]; simp) ?_
        have es : s = ss[i] := by
          have q : ss.find? (fun s => s.nm == x) = some ss[i] := by
            rw [List.find?_eq_some_iff_getElem]
            refine ⟨by simpa using c, i, il, rfl, fun j hj => ?_⟩
            have hz := hno j _ hj (List.getElem?_eq_getElem (by omega))
            simpa using hz
          have q2 : ss.find? (fun s => s.nm == x) = some s := hlook
          rw [q] at q2
          exact (Option.some.inj q2).symm
        subst es
        refine ⟨_, rfl, 2, rfl, t, _, rfl, hq, (show ¬ (HT.sIx 5 0 (some 2) = 0 ∧ HT.sIx 5 5 none = 5) by decide +kernel), fun u hu => ⟨u, rfl, ⟨_, SqT.of upd_same⟩, fun D hD => ?_⟩⟩
        have hU : ∀ {H2}, Same (upd H' u (.tup (cutV ss[i].vs (some 2) none))) H2 → SqT K H2 u [V.int ss[i].wd, V.int ss[i].ht, V.int ss[i].dp] := fun s => same_sqt s (SqT.of upd_same)
        refine lc_pure ((ss[i].m st).map V.int) hD (by show 3 ≤ sizeLine; decide) (fun j H2 hj s2 => ?_) (fun H2 s2 => ⟨_, hU s2, Nat.le_refl 3⟩) ?_ ?_
        · have hj : j < 3 := hj
          exact ⟨_, ([V.int ss[i].wd, V.int ss[i].ht, V.int ss[i].dp] : List V)[j], hU s2, List.getElem?_eq_getElem hj⟩
        · rintro j z H2 H3 R Z hj s2 ⟨rfl, hy⟩ kR
          have hj : j < 3 := hj
          have hz := hy _ (hU s2)
          refine ⟨rfl, ?_⟩
          match j, hj with
          | 0, _ =>
            cases Option.some.inj hz
            exact ⟨_, rfl, _, rfl, _, _, rfl, h0, h3, fun H4 s4 => kR _ _ rfl s4⟩
          | 1, _ =>
            cases Option.some.inj hz
            exact ⟨_, rfl, _, rfl, _, _, rfl, h0, h3, fun H4 s4 => kR _ _ rfl s4⟩
          | 2, _ =>
            cases Option.some.inj hz
            exact ⟨_, rfl, _, rfl, _, _, rfl, h0, h3, fun H4 s4 => kR _ _ rfl s4⟩
        · intro H2 s2 e
          exact k D H2 ((same_new hu).trans s2) ((same_new hu).free hD) e
      · refine iteN (by rw [dec_str]; simpa using c) ?_
        refine ⟨_, rfl, rfl, fun j s' hj hsj => ?_⟩
        by_cases e : j < i
        · exact hno j s' e hsj
        · have ej : j = i := by omega
          subst ej
          rw [hsi] at hsj
          cases Option.some.inj hsj
          exact c
    · rintro σ H' ⟨x3, rfl, rfl, hno⟩
      exfalso
      have hm := List.mem_of_find?_eq_some hlook
      have hn : s.nm = x := by simpa using List.find?_some hlook
      obtain ⟨j, hj⟩ := List.getElem?_of_mem hm
      rw [List.length_map, tl] at hno
      exact hno j s (List.getElem?_eq_some_iff.mp hj).1 hj hn
end
end Mg

set_option Elab.async false
set_option linter.all false
set_option maxRecDepth 100000
set_option maxHeartbeats 4000000
namespace Mg
open PySem L2
structure TxtQ (K : PySem.W.Frag) (mg : Str → Option Value) (C : Addr) : Prop extends TxtO K C where
  range : mg "range" = none
  b_int : mg "int" = none
section
variable {P : Program} {w : World} {K : PySem.W.Frag} {mg : Str → Option Value} {base : Heap} {CF : Addr}
def spLStretches (K : PySem.W.Frag) (CF : Addr) : Sp := fun vs H Q _ => ∃ (p : Addr) (va vl : V) (x : Str) (st n : Int) (ss : List Sym) (ls : List Int) (s : Sym) (k : Int), vs = [.ref p, va, .str x, .int st, .int n] ∧ FontAt K CF H p va vl ss ls ∧ look ss x = some s ∧ ls[7]? = some k ∧
  0 ≤ st ∧ st ≤ 3 ∧ 1 ≤ k ∧ k ≤ 1000 ∧ 0 ≤ s.ht ∧ 0 ≤ s.dp ∧ n ≤ 1000 ∧ ∀ H', Same H H' → Q (.int (strN (scN s.ht st + scN s.dp st) n (stepN k st))) H'
theorem scN_nn {k st : Int} (h : 0 ≤ k) : 0 ≤ scN k st := by
  unfold scN
  split
  · omega
  · split <;> omega
/-- how often a step is added -/
def cntN (h n k : Int) : Nat := if h ≥ n then 0 else ((n - h + k - 1) / k).toNat
theorem cnt_str {h n k : Int} (hk : 1 ≤ k) : strN h n k = h + (cntN h n k : Int) * k := by
  unfold strN cntN
  split
  · simp
  · rw [Int.toNat_of_nonneg (Int.ediv_nonneg (by omega) (by omega))]
theorem cnt_lt {h n k : Int} (hk : 1 ≤ k) {i : Nat} (hi : i ≤ cntN h n k) : h + (i : Int) * k < n ↔ i < cntN h n k := by
  unfold cntN at hi ⊢
  split
  · rename_i c
    rw [if_pos c] at hi
    have : i = 0 := by omega
    subst this
    simp
    omega
  · rename_i c
    rw [if_neg c] at hi
    obtain ⟨m, hm⟩ : ∃ m : Nat, (n - h + k - 1) / k = (m : Int) := ⟨_, (Int.toNat_of_nonneg (Int.ediv_nonneg (by omega) (by omega))).symm⟩
    rw [hm] at hi ⊢
    rw [Int.toNat_natCast] at hi ⊢
    have e1 := Int.mul_ediv_add_emod (n - h + k - 1) k
    have e2 := Int.emod_nonneg (n - h + k - 1) (show k ≠ 0 by omega)
    have e3 := Int.emod_lt_of_pos (n - h + k - 1) (show 0 < k by omega)
    rw [hm] at e1
    constructor
    · intro q
      by_cases e : i < m
      · exact e
      · have : i = m := by omega
        subst this
        rw [Int.mul_comm] at e1
        omega
    · intro q
      have le : (i : Int) * k ≤ ((m : Int) - 1) * k := Int.mul_le_mul_of_nonneg_right (by omega) (by omega)
      rw [Int.sub_mul, Int.one_mul, Int.mul_comm (m : Int) k] at le
      omega
theorem cnt_le {h n k : Int} (hk : 1 ≤ k) : (cntN h n k : Int) ≤ max 0 (n - h) := by
  unfold cntN
  split
  · omega
  · rw [Int.toNat_of_nonneg (Int.ediv_nonneg (by omega) (by omega))]
    have : (n - h + k - 1) / k ≤ n - h := by
      refine Int.ediv_le_of_le_mul (by omega) ?_
      obtain ⟨a, ha⟩ : ∃ a, a = n - h := ⟨_, rfl⟩
      rw [← ha]
      have e := Int.mul_nonneg (show 0 ≤ a - 1 by omega) (show 0 ≤ k - 1 by omega)
      rw [Int.sub_mul, Int.mul_sub, Int.mul_one, Int.one_mul] at e
      omega
    omega
theorem scLStretches : FnScope ["font", "symbols", "name", "style", "length", "width", "height", "depth", "step", "found", "turn"] ["font", "symbols", "name", "style", "length"] (defScope sLStretches) := ⟨rfl, rfl, rfl, by decide +kernel, rfl, by decide +kernel, by decide +kernel⟩
theorem ok_lstretches {f : Addr} {fd : FuncData} (F : Fun K "_law_stretches" "_law_stretches" sLStretches f fd) (T : TxtQ K mg CF) (C_law_sizes : Cal P w K mg base CX0 2 "_law_sizes" ["font", "name", "style"] (spLSizes K)) : FnOk P w K mg base CX0 3 f fd ["font", "symbols", "name", "style", "length"] (spLStretches K CF) := by
  have sc := scLStretches
  refine F.ok scLStretches (fun vs H Q E h => ?_) (fun cdv A outer s H vs Q E hr h => ?_)
  · obtain ⟨p, va, vl, x, st, n, ss, ls, s, k, rfl, _⟩ := h
    rfl
  · obtain ⟨p, va, vl, x, st, n, ss, ls, s, k, rfl, FA, hl, hk, h0, h3, k0, k1, ht0, dp0, hn, kQ⟩ := h
    have hrlaw_sizes : Room 2 _ := hr
    refine ⟨_, (pss_cons (ps_asg (pe_cal C_law_sizes hrlaw_sizes rfl pass0 (pa_cons (pe_tup (pa_cons (pv 1) (pa_cons (pe_tup pa_nil) pa_nil))) (pa_cons (pv 2) (pa_cons (pv 3) pa_nil)))) (pg_lst rfl (pgs_cons (pg_name (i := 5) sc.nd rfl (Or.inl rfl)) (pgs_cons (pg_name (i := 6) sc.nd rfl (Or.inl rfl)) (pgs_cons (pg_name (i := 7) sc.nd rfl (Or.inl rfl)) pgs_nil)))))
  (pss_cons (ps_set (i := 8) sc.nd rfl (Or.inl rfl) (pe_ix ix_list (pe_lst (pa_cons (pe_ix ix_tup (pe_fld (pv 0) rfl) pe_int (fun _ _ => rfl)) (pa_cons (pe_ix ix_tup (pe_fld (pv 0) rfl) pe_int (fun _ _ => rfl)) (pa_cons (pe_op op_fdiv (pe_op op_mul pe_int (pe_ix ix_tup (pe_fld (pv 0) rfl) pe_int (fun _ _ => rfl))) pe_int) (pa_cons (pe_op op_fdiv (pe_ix ix_tup (pe_fld (pv 0) rfl) pe_int (fun _ _ => rfl)) pe_int) pa_nil))))) (pv 3) (fun _ _ => rfl)))
  (pss_cons (ps_set (i := 8) sc.nd rfl (Or.inl rfl) (pe_ix ix_list (pe_lst (pa_cons (pv 8) (pa_cons pe_int pa_nil))) (pe_callTy call_int1 (by rfl) T.b_int (by decide +kernel) (pa_cons (pe_cmpR op_eq (pv 8) pe_int (nomark _)) pa_nil)) (fun _ _ => rfl)))
  (pss_cons (ps_set (i := 9) sc.nd rfl (Or.inl rfl) (pe_op op_add (pv 6) (pv 7)))
  (pss_cons (ps_for PassesOwn.never rfl (pi_range1 rfl T.range (pa_cons pe_int pa_nil)) (pg_name (i := 10) sc.nd rfl (Or.inl rfl))
  (pss_one (ps_if (pt_cmpR op_lt (pv 9) (pv 4) (nomark _))
  (pss_one (ps_set (i := 9) sc.nd rfl (Or.inl rfl) (pe_op op_add (pv 9) (pv 8))))
  pss_nil)))
  (pss_one (ps_ret (pv 9)))))))), ?_⟩
    obtain ⟨a, ts, rfl, hs, tl, hg⟩ := syms_get FA.syms
    refine ⟨_, rfl, Nat.zero_le _, fun y hy => ⟨(by show 2 ≤ sizeLine; decide), fun z hz => ?_⟩⟩
    have s1 := (same_new (o := .tup []) hy).trans (same_new (o := .tup [V.ref a, V.ref y]) hz)
    refine ⟨_, rfl, _, rfl, z, a, .ref y, x, st, ss, s, rfl, SqT.of upd_same, FA.syms.stay (TupK.of s1), hl, h0, h3, fun l H1 s2 _ hl1 => ?_⟩
    have FA1 := FA.same (s1.trans s2)
    refine ⟨l, _, rfl, SqL.of hl1, rfl, V.int _, _, rfl, V.int _, _, rfl, V.int _, _, rfl, rfl, ?_⟩
    have FA2 := FA1
    obtain ⟨_, _, hlen, dx1, e1, kvs1, g1, g2, g3, g4⟩ := FA2
    obtain ⟨al, rfl, hal⟩ := tp_ints hlen.dp
    have h7 : (ls.map V.int)[7]? = some (.int k) := by rw [List.getElem?_map, hk]; rfl
    refine ⟨_, rfl, p, CF, dx1, _, _, rfl, g1, T.cl, T.nL, ff_len _ _ _, al, _, 7, _, rfl, rfl, hal, atI_nat h7, ?_⟩
    refine ⟨_, rfl, p, CF, dx1, _, _, rfl, g1, T.cl, T.nL, ff_len _ _ _, al, _, 7, _, rfl, rfl, hal, atI_nat h7, ?_⟩
    refine ⟨_, rfl, p, CF, dx1, _, _, rfl, g1, T.cl, T.nL, ff_len _ _ _, al, _, 7, _, rfl, rfl, hal, atI_nat h7, _, _, rfl, rfl, .inl ⟨by decide, by decide⟩, _, _, rfl, rfl, ⟨by decide, by decide⟩, ?_⟩
    refine ⟨_, rfl, p, CF, dx1, _, _, rfl, g1, T.cl, T.nL, ff_len _ _ _, al, _, 7, _, rfl, rfl, hal, atI_nat h7, _, _, rfl, rfl, ⟨by decide, by decide⟩, ?_⟩
    refine ⟨(by show 4 ≤ sizeLine; decide), fun q hq => ⟨_, rfl, q, _, _, _, rfl, rfl, SqL.of upd_same, at4 h0 h3 (n := scN k st) ?_ ?_ ?_ ?_, ?_⟩⟩
    · intro e; unfold scN; rw [e]; rfl
    · intro e; unfold scN; rw [e]; rfl
    · intro e; unfold scN; rw [e]; rfl
    · intro e; unfold scN; rw [e]; rfl
    have nn := scN_nn (st := st) (show 0 ≤ k by omega)
    have sle := scN_le (st := st) (show 0 ≤ k by omega) k1
    refine ⟨_, rfl, (by show 2 ≤ sizeLine; decide), fun q2 hq2 => ⟨_, rfl, rfl, .inr ⟨_, rfl, q2, _, _, V.int (stepN k st), rfl, rfl, SqL.of upd_same, ?_, ?_⟩⟩⟩
    · unfold stepN
      by_cases c : scN k st = 0
      · rw [c]
        rfl
      · rw [if_neg (show ¬ (decide (V.int (scN k st) = V.int 0) = true) by rw [dec_int]; simpa using c)]
        by_cases d : scN k st > 1
        · rw [if_pos d]
          rfl
        · rw [if_neg d, show scN k st = 1 by omega]
          rfl
    have b1 : 1 ≤ stepN k st := by unfold stepN; split <;> omega
    refine ⟨_, rfl, _, rfl, _, _, rfl, rfl, ?_⟩
    have sQ : Same H (upd (upd H1 q (.lst [V.int k, V.int k, V.int (7 * k / 10), V.int (k / 2)])) q2 (.lst [V.int (scN k st), V.int 1])) := (s1.trans s2).trans ((same_new hq).trans (same_new hq2))
    have hh := scN_nn (st := st) ht0
    have hd := scN_nn (st := st) dp0
    refine ⟨2000, rfl, by decide, by decide, for_range (n := 2000) (fun i σ H' => ∃ x10, σ = [some (.ref p), some (.ref a), some (.str x), some (.int st), some (.int n), some (.int (scN s.wd st)), some (.int (scN s.ht st)), some (.int (scN s.dp st)), some (.int (stepN k st)),
        some (.int (scN s.ht st + scN s.dp st + ((min i (cntN (scN s.ht st + scN s.dp st) n (stepN k st)) : Nat) : Int) * stepN k st)), x10] ∧ Same H H')
      ⟨none, ?_, sQ⟩ ?_ ?_⟩
    · rw [Nat.zero_min]
      simp
      rfl
    · rintro i σ H' hi ⟨x10, rfl, sH⟩
      have cl := cnt_lt (h := scN s.ht st + scN s.dp st) (n := n) b1 (i := min i (cntN (scN s.ht st + scN s.dp st) n (stepN k st))) (Nat.min_le_right _ _)
      refine ⟨_, rfl, _, rfl, _, _, rfl, rfl, _, rfl, ?_⟩
      by_cases c : i < cntN (scN s.ht st + scN s.dp st) n (stepN k st)
      · refine iteP (decide_eq_true (cl.mpr (by omega))) ?_
        refine ⟨_, rfl, _, rfl, _, _, rfl, rfl, some (.int (0 + (i : Int))), ?_, sH⟩
        rw [show min (i + 1) (cntN (scN s.ht st + scN s.dp st) n (stepN k st)) = min i (cntN (scN s.ht st + scN s.dp st) n (stepN k st)) + 1 by omega]
        rw [Int.natCast_add, Int.add_mul, show ((1 : Nat) : Int) * stepN k st = stepN k st by simp, ← Int.add_assoc]
        rfl
      · refine iteN (by rw [decide_eq_true_eq]; intro q; have := cl.mp q; omega) ?_
        refine ⟨some (.int (0 + (i : Int))), ?_, sH⟩
        rw [show min (i + 1) (cntN (scN s.ht st + scN s.dp st) n (stepN k st)) = min i (cntN (scN s.ht st + scN s.dp st) n (stepN k st)) by omega]
        rfl
    · rintro σ H' ⟨x10, rfl, sH⟩
      have cle := cnt_le (h := scN s.ht st + scN s.dp st) (n := n) b1
      rw [show min 2000 (cntN (scN s.ht st + scN s.dp st) n (stepN k st)) = cntN (scN s.ht st + scN s.dp st) n (stepN k st) by omega, ← cnt_str b1]
      exact ⟨_, rfl, kQ H' sH⟩
end
end Mg

set_option Elab.async false
set_option linter.all false
set_option maxRecDepth 100000
set_option maxHeartbeats 4000000
namespace Mg
open PySem PySem.Spec PyProof.Rows L2
section
variable {X : Cx} {CX : CXT} {k : Nat} {C f : Addr} {fd : FuncData} {sp : Sp} {E : XK}
/-- an own method that is found under its special name -/
structure Spc (K : PySem.W.Frag) (C : Addr) (m : Str) (f : Addr) : Prop where
  fi : PySem.W.findIn K (.ref C) m = some (some (.ref f))
  fn : PySem.W.isFn K (.ref f) = true
def rOwnLen (C : Addr) (sp : Sp) (E : XK) : List V → Hp → VK → Prop := fun xs H Q => ∃ (p dx : Addr) (fs : List (Str × V)), xs = [.ref p] ∧ H p = some (.ins C dx fs) ∧ sp [.ref p] H (fun v H' => ∃ n : Int, v = .int n ∧ 0 ≤ n ∧ n < 2 ^ 63 ∧ Q (.int n) H') E
theorem call_len_own (F : FnOk X.prog X.w X.K X.mg X.base CX k f fd ["self"] sp) (hr : Room (k + 1) X.A) (m : Spc X.K C "__len__" f) (hb : Binds X.K fd ["self"] []) (hx : Passes CX X E) : CallR X (.builtin "len") (rOwnLen C sp E) := by
  intro pins s σ H xs us Q I r h
  obtain ⟨p, dx, fs, rfl, hp, q⟩ := h
  obtain ⟨u, rfl, rx⟩ := vals1 r
  cases rx
  obtain ⟨mA, J, _⟩ := ins_get I.hok hp
  obtain ⟨od, J, _⟩ := J.look
  obtain ⟨mm, hF⟩ := I.fr
  refine PySem.W.len_K hF I.ok.mod.kin J m.fi m.fn ?_
  have r2 : Vals [V.ref p] [Value.ref p] := .cons rfl .nil
  refine wpAny_call (codeAny_mono (F.run X.A.in1 X.stack s H ⟨[.ref p], []⟩ [.ref p] [.ref p] _ E hr.in1 I.env0.in1 (by
    have := hb s [.ref p] I.kIn rfl
    simpa using this) r2 q) fun r s' hq => ?_)
  cases r with
  | error e => exact hx pins σ H s e s' I hq
  | ok fl =>
    cases fl with
    | ret w =>
      obtain ⟨z, H', I', rz, n, rfl, n0, n1, hQ⟩ := I.after hq
      obtain ⟨t, rfl⟩ := rz
      exact ⟨⟨n0, n1⟩, .int n, H', I'.tok _, ⟨_, rfl⟩, hQ⟩
    | next => exact False.elim hq
    | brk => exact False.elim hq
    | cont => exact False.elim hq
def rOwnEq (C : Addr) (sp : Sp) (E : XK) : R2 := fun x y H Q => ∃ (a b dx dy : Addr) (fs gs : List (Str × V)), x = .ref a ∧ y = .ref b ∧ H a = some (.ins C dx fs) ∧ H b = some (.ins C dy gs) ∧ sp [.ref a, .ref b] H (fun v H' => ∃ n : Bool, v = .bl n ∧ Q (.bl n) H') E
theorem op_ownEq (F : FnOk X.prog X.w X.K X.mg X.base CX k f fd ["self", "other"] sp) (hr : Room k X.A) (m : Spc X.K C "__eq__" f) (hb : Binds X.K fd ["self", "other"] []) (hx : Passes CX X E) : OpR X (compareOp .Eq) (rOwnEq C sp E) := by
  intro pins s σ H x y v u Q I rx ry h
  obtain ⟨a, b, dx, dy, fs, gs, rfl, rfl, ha, hb', q⟩ := h
  cases rx
  cases ry
  show wpAny (model X.prog X.w) X.A (richCompare .Eq (.ref a) (.ref b)) (EP X pins σ Q) X.xe s
  obtain ⟨mA, J, _⟩ := ins_get I.hok ha
  obtain ⟨mB, J', _⟩ := ins_get I.hok hb'
  obtain ⟨od, J, _⟩ := J.look
  obtain ⟨od', J', _⟩ := J'.look
  obtain ⟨mm, hF⟩ := I.fr
  refine PySem.W.cmp_K (op := .Eq) (tb := .ref C) hr.units0 hF I.ok.mod.kin J J'.type (by simp [PySem.W.notFirst]) m.fi m.fn ?_
  have r2 : Vals [V.ref a, V.ref b] [Value.ref a, Value.ref b] := .cons rfl (.cons rfl .nil)
  refine wpAny_call (codeAny_mono (F.run X.A X.stack s H ⟨[.ref a, .ref b], []⟩ [.ref a, .ref b] [.ref a, .ref b] _ E hr I.env0 (by
    have := hb s [.ref a, .ref b] I.kIn rfl
    simpa using this) r2 q) fun r s' hq => ?_)
  cases r with
  | error e => exact hx pins σ H s e s' I hq
  | ok fl =>
    cases fl with
    | ret w =>
      obtain ⟨z, H', I', rz, n, rfl, hQ⟩ := I.after hq
      cases rz
      exact ⟨.bl n, H', I', rfl, hQ⟩
    | next => exact False.elim hq
    | brk => exact False.elim hq
    | cont => exact False.elim hq
end
end Mg

set_option Elab.async false
set_option linter.all false
set_option maxRecDepth 100000
set_option maxHeartbeats 4000000
namespace Mg
open PySem PySem.Spec PyProof.Rows L2
section
variable {X : Cx} {CX : CXT} {k : Nat} {C f : Addr} {fd : FuncData} {ps : List Str} {sp : Sp} {E : L2.St → XK} {m nx : Str} {e o : Expr} {es : List Expr} {p pos apos : Pos} {ta : TE} {t : TA}
/-- an object made where errors are caught: the way out may look at the slots -/
def tMakeSt (C : Addr) (sp : Sp) (E : L2.St → XK) (t : TA) : TE := fun σ H Q => t σ H fun vs H1 => ∀ x dx, H1 x = none → H1 dx = none → dx ≠ x →
  sp (.ref x :: vs) (upd (upd H1 dx (.own x)) x (.ins C dx [])) (fun v H2 => v = .non ∧ Q (.ref x) H2) (E σ)
theorem pe_makeSt (M : Mk X.K C f) (F : FnOk X.prog X.w X.K X.mg X.base CX k f fd ps sp) (hr : Room (k + 1) X.A) (hg : Gl X nx) (hm : X.mg nx = some (.ref C)) (hb : Binds X.K fd ps []) (hx : ∀ σ, PassesAt CX X σ (E σ))
    (ha : PA X (e :: es) t) (hdb : (nx == ("__debug__" : Str)) = false := by decide) (he : starEach (e :: es) X.env = (false, eval e X.env) :: starEach es X.env := by rfl) (hpl : (backTo pos (starEach es X.env)).any (·.1) = false := by rfl) :
    PE X (.Call (.Name nx p) (e :: es) [] pos) (tMakeSt C sp E t) := by
  refine ⟨fun pn s0 σ H0 Q I0 h => wpAny_Call_Name_kw (ld_glob I0 hg hm ?_ hdb)⟩
  refine PySem.W.callWith_K (h₀ := X.base) I0.ok.mod.kin M.kp (thn (ha.run pos pn s0 σ H0 _ I0 h) fun us s ⟨vs, H, I, r, q⟩ => ⟨I.kIn, ?_⟩) he hpl
  have q1 := q _ _ (I.hok.fresh (Nat.le_succ s.heap.objs.size)) (I.hok.fresh (Nat.le_refl _)) (Nat.ne_of_lt (Nat.lt_succ_self _))
  have J := Inv.made (C := C) I
  have rv : Vals (V.ref (s.heap.objs.size + 1) :: vs) (Value.ref (s.heap.objs.size + 1) :: us) := .cons rfl r
  have hl : (Value.ref (s.heap.objs.size + 1) :: us ++ []).length = ps.length := by
    rw [List.append_nil, ← rv.length]
    exact F.len _ _ _ _ q1
  have b := hb _ (Value.ref (s.heap.objs.size + 1) :: us) J.kIn hl
  rw [List.append_nil] at b
  have run := F.run _ X.stack _ _ ⟨Value.ref (s.heap.objs.size + 1) :: us, []⟩ _ _ _ (E σ) (hr.make C us []) (J.env0.make C us []) b rv q1
  refine wpAny_call (make_map (f := f) I.kIn M.makes M.init (beq_iff_eq.mp M.fn) (codeAny_mono run fun res s2 back => ?_))
  match res, back with
  | .error er, back => exact hx σ pn _ _ er s2 J back
  | .ok (.ret u), back =>
    obtain ⟨_, H3, J3, ru, rfl, q3⟩ := J.after back
    exact ⟨ru, V.ref (s.heap.objs.size + 1), H3, J3, rfl, q3⟩
  | .ok .next, back => exact back.elim
  | .ok .brk, back => exact back.elim
  | .ok .cont, back => exact back.elim
/-- a method called where errors are caught -/
def tMethSt (C : Addr) (m : Str) (sp : Sp) (E : L2.St → XK) (ta : TE) (t : TA) : TE := fun σ H Q => ta σ H fun x H1 => ∃ a dx fs, x = .ref a ∧ H1 a = some (.ins C dx fs) ∧ fs.lookup m = none ∧ t σ H1 fun vs H2 => sp (x :: vs) H2 Q (E σ)
theorem pe_methSt {pl : Sem Bool} (ho : PE X o ta) (c : Cls X.K C) (hm : Meth X.K C m f) (F : FnOk X.prog X.w X.K X.mg X.base CX k f fd ps sp) (hr : Room k X.A) (hb : Binds X.K fd ps []) (hx : ∀ σ, PassesAt CX X σ (E σ)) (ha : PA X (e :: es) t)
    (hst : starEach (e :: es) X.env = (false, eval e X.env) :: starEach es X.env := by rfl) (hpl : (backTo pos (starEach es X.env)).any (·.1) = false := by rfl)
    (ht : eval (.Call (.Attribute o m apos) (e :: es) [] pos) X.env = (do let ov ← eval o X.env; standAt apos.atName; let (f, first) ← holding [ov] (getMethod ov m pl); callWith pos f first (backTo pos (starEach (e :: es) X.env)) (backToKw pos (keywordEach [] X.env))) := by rfl) :
    PE X (.Call (.Attribute o m apos) (e :: es) [] pos) (tMethSt C m sp E ta t) := by
  refine ⟨fun pn s0 σ H0 Q I0 h => PySem.W.methodCall_KW (pl := pl) (thn (ho.run pn s0 σ H0 _ I0 h) fun u s1 hu => ?_) ht⟩
  obtain ⟨_, H1, I1, rx, a, dx, fs, rfl, ea, l, q⟩ := hu
  cases rx
  refine getmeth_ok I1 ea c hm l (PySem.W.callWith_K (first := [.ref a]) (h₀ := X.base) I1.ok.mod.kin hm.kp (thn (ha.run pos pn s1 σ H1 _ I1 q) fun us s2 hv => ?_) hst hpl)
  obtain ⟨vs, H2, I2, r, q2⟩ := hv
  exact ⟨I2.kIn, run_fnS (us := .ref a :: us) (vs := .ref a :: vs) F hr hb (hx σ) I2 (.cons rfl r) q2⟩
end
/-! isinstance of an error that a suite holds, where the answer is True -/
theorem isa_true {prog : Program} {w : World} {A : Around} {R : Value → Shared → Prop} {K : PySem.W.Frag} {x ty c : Value} {Q : Value → Shared → Prop} {h : Heap} {g : Array GenState} {d : Drawn} {t : Nat} {os : OsState} (LT : PySem.W.Looks (model prog w) h (typeOf x) ty) (I : K.In h) (ne : (ty == c) = false)
    (y : PySem.W.kitCls K ty c = some true) (hx : x ≠ .builtin "__main__.__loader__#opaque") (q : Q (.bool true) ⟨h, g, d, t, os⟩) : wpAny (model prog w) A (call (.builtin "isinstance") [x, c]) Q R ⟨h, g, d, t, os⟩ := by
  obtain ⟨a1, a2, a3⟩ := PySem.W.kit_cls (M := model prog w) I y
  refine call_isinstance_of ?_ hx
  unfold Builtin.«isinstance.nested»
  refine wpAny_bind (LT.at ?_)
  rw [ne, if_neg Bool.false_ne_true]
  refine wpAny_bind (a1.at ?_)
  rw [if_pos (by decide)]
  k_delta "plainIsInstance"
  refine wpAny_bind (wpAny_bind (a2.at ?_))
  simp only [Bool.not_true, Bool.false_eq_true, if_false]
  refine wpAny_bind ((LT.andThen a3).at ?_)
  first
    | exact wpAny_pure (wpAny_pure q)
    | (simp only [if_true]; first | exact wpAny_pure (wpAny_pure q) | exact wpAny_pure q | exact wpAny_bind (wpAny_pure (wpAny_pure q)))
def rIsT (K : PySem.W.Frag) (a : Addr) (cls : Value) : List V → Hp → VK → Prop := fun xs H Q => ∃ (c : V) (cv : Value) (D : Addr), xs = [.ref a, c] ∧ (∀ u, RelV c u → u = cv) ∧ cls = .ref D ∧ (Value.ref D == cv) = false ∧ PySem.W.kitCls K (.ref D) cv = some true ∧ Q (.bl true) H
theorem call_isT {X : Cx} {a : Addr} {oe : Obj} {cls : Value} {d : Option Addr} {pn : List (Addr × Obj)} (hz : Zc cls d oe) : CallR (X.suite a ((a, oe) :: pn)) (.builtin "isinstance") (rIsT X.K a cls) := by
  intro pins s σ H xs us Q I r h
  obtain ⟨c, cv, D, rfl, hcv, rfl, ne, y, q⟩ := h
  obtain ⟨u1, u2, rfl, r1, r2⟩ := vals2 r
  cases r1
  obtain rfl := hcv _ r2
  obtain ⟨hget, _⟩ := I.pin (a, oe) (List.mem_append.mpr (.inl List.mem_cons_self))
  obtain ⟨hp, g, dr, t, os⟩ := s
  refine isa_true (ty := .ref D) ?_ I.kIn ne y (fun z => nomatch z) ⟨.bl true, H, I, rfl, q⟩
  intro A' Q' E' s' k q'
  simp only [typeOf]
  exact wpAny_bind (wpAny_load (k _ _ hget) (wpAny_pure (by rw [hz.1]; exact q')))
end Mg

set_option Elab.async false
set_option linter.all false
set_option maxRecDepth 100000
set_option maxHeartbeats 4000000
namespace Mg
open PySem L2
abbrev sFEq : Stmt := inClass (top 20) 1
abbrev sFLen : Stmt := inClass (top 20) 2
abbrev sIsBad : Stmt := top 36
abbrev sUnknown : Stmt := top 37
structure TxtFQ (K : PySem.W.Frag) (mg : Str → Option Value) (CF : Addr) : Prop where
  b_isinstance : mg "isinstance" = none
  b_len : mg "len" = none
  g_Font : mg "Font" = some (.ref CF)
section
variable {P : Program} {w : World} {K : PySem.W.Frag} {mg : Str → Option Value} {base : Heap} {CF CU CB CS : Addr}
/-! ### __eq__ and __len__ -/
def ShF (ss : List Sym) (ls : List Int) : Prop := SeqAt.shaped (symsD ss) = true ∧ SeqAt.shaped (lensD ls) = true
def eqF (ss ss' : List Sym) (ls ls' : List Int) : Bool := PyData.eqv (symsD ss) (symsD ss') && PyData.eqv (lensD ls) (lensD ls')
def spFEq (K : PySem.W.Frag) (CF : Addr) : Sp := fun vs H Q _ => ∃ (p q : Addr) (va vl va' vl' : V) (ss ss' : List Sym) (ls ls' : List Int), vs = [.ref p, .ref q] ∧ FontAt K CF H p va vl ss ls ∧ FontAt K CF H q va' vl' ss' ls' ∧ ShF ss ls ∧ ShF ss' ls' ∧ Q (.bl (eqF ss ss' ls ls')) H
theorem scFEq : FnScope ["self", "other"] ["self", "other"] (defScope sFEq) := ⟨rfl, rfl, rfl, by decide +kernel, rfl, by decide +kernel, by decide +kernel⟩
theorem ok_feq {f : Addr} {fd : FuncData} (F : Fun K "__eq__" "Font.__eq__" sFEq f fd) (O : TxtO K CF) (T : TxtFQ K mg CF) (IC : C8.InsC K CF) : FnOk P w K mg base CX0 1 f fd ["self", "other"] (spFEq K CF) := by
  have sc := scFEq
  refine F.ok scFEq (fun vs H Q E h => ?_) (fun cdv A outer s H vs Q E hr h => ?_)
  · obtain ⟨p, q, va, vl, va', vl', ss, ss', ls, ls', rfl, _⟩ := h
    rfl
  · obtain ⟨p, q, va, vl, va', vl', ss, ss', ls, ls', rfl, FA, FB, hA, hB, k⟩ := h
    have hu := hr.units
    refine ⟨_, (pss_one (ps_ret (pe_and (pe_callB (C8.call_isC IC) (by rfl) T.b_isinstance (by decide +kernel) (pa_cons (pv 1) (pa_cons (pe_gref rfl T.g_Font) pa_nil))) (pe_and (pe_cmpR (op_eqD hu) (pe_fld (pv 0) rfl) (pe_fld (pv 1) rfl) (nomark _)) (pe_one (pe_cmpR (op_eqD hu) (pe_fld (pv 0) rfl) (pe_fld (pv 1) rfl) (nomark _))))))), ?_⟩
    obtain ⟨_, sA, lA, dA, eA, _, a1, _⟩ := FA
    obtain ⟨_, sB, lB, dB, eB, _, b1, _⟩ := FB
    refine ⟨_, rfl, q, dB, _, rfl, b1, true, rfl, ?_⟩
    refine iteT ?_
    refine ⟨_, rfl, p, CF, dA, _, _, rfl, a1, O.cl, O.nS, ff_sym _ _ _, _, rfl, q, CF, dB, _, _, rfl, b1, O.cl, O.nS, ff_sym _ _ _, _, _, sA.dp, sB.dp, hA.1, hB.1, _, rfl, ?_⟩
    unfold eqF at k
    cases hq : PyData.eqv (symsD ss) (symsD ss') with
    | false =>
      rw [hq] at k
      exact iteF k
    | true =>
      rw [hq] at k
      refine iteT ?_
      exact ⟨_, rfl, p, CF, dA, _, _, rfl, a1, O.cl, O.nL, ff_len _ _ _, _, rfl, q, CF, dB, _, _, rfl, b1, O.cl, O.nL, ff_len _ _ _, _, _, lA.dp, lB.dp, hA.2, hB.2, k⟩
def spFLen (K : PySem.W.Frag) (CF : Addr) : Sp := fun vs H Q _ => ∃ (p : Addr) (va vl : V) (ss : List Sym) (ls : List Int), vs = [.ref p] ∧ FontAt K CF H p va vl ss ls ∧ Q (.int ss.length) H
theorem scFLen : FnScope ["self"] ["self"] (defScope sFLen) := ⟨rfl, rfl, rfl, by decide +kernel, rfl, by decide +kernel, by decide +kernel⟩
theorem ok_flen {f : Addr} {fd : FuncData} (F : Fun K "__len__" "Font.__len__" sFLen f fd) (O : TxtO K CF) (T : TxtFQ K mg CF) : FnOk P w K mg base CX0 1 f fd ["self"] (spFLen K CF) := by
  have sc := scFLen
  refine F.ok scFLen (fun vs H Q E h => ?_) (fun cdv A outer s H vs Q E hr h => ?_)
  · obtain ⟨p, va, vl, ss, ls, rfl, _⟩ := h
    rfl
  · obtain ⟨p, va, vl, ss, ls, rfl, FA, k⟩ := h
    refine ⟨_, (pss_one (ps_ret (pe_callB call_len_sq (by rfl) T.b_len PySem.boot_len (pa_cons (pe_fld (pv 0) rfl) pa_nil)))), ?_⟩
    obtain ⟨_, sA, lA, dA, eA, _, a1, _⟩ := FA
    refine ⟨_, rfl, p, CF, dA, _, _, rfl, a1, O.cl, O.nS, ff_sym _ _ _, ?_⟩
    cases sA with
    | @tup a xs _ hs el _ =>
    rw [List.length_map] at el
    refine ⟨a, xs, rfl, .inr hs, fun _ => ?_⟩
    rw [el]
    exact k
/-! ### _law_is_bad -/
def spIsBad (K : PySem.W.Frag) : Sp := fun vs H Q _ => ∃ (va vl : V) (d l : PyData), vs = [va, vl] ∧ Dp K H va d ∧ Dp K H vl l ∧ PreS d ∧ ∀ H', Same H H' → Q (.bl (!(areSymbols d && areLengths l))) H'
structure TxtBad (K : PySem.W.Frag) (mg : Str → Option Value) (CF CB CS : Addr) : Prop where
  g_Font : mg "Font" = some (.ref CF)
  g_BadFont : mg "BadFont" = some (.ref CB)
  g_SetError : mg "SetError" = some (.ref CS)
  b_ValueError : mg "ValueError" = none
  b_isinstance : mg "isinstance" = none
  exm : PySem.W.exmOne K (.ref CB) (.ref CB) = some true
  neS : (Value.ref CB == Value.ref CS) = false
  kS : PySem.W.kitCls K (.ref CB) (.ref CS) = some true
  kV : PySem.W.kitCls K (.ref CB) (.type "ValueError") = some true
theorem scIsBad : FnScope ["symbols", "lengths", "e"] ["symbols", "lengths"] (defScope sIsBad) := ⟨rfl, rfl, rfl, by decide +kernel, rfl, by decide +kernel, by decide +kernel⟩
structure MkF (P : Program) (w : World) (K : PySem.W.Frag) (mg : Str → Option Value) (base : Heap) (CF CB : Addr) : Prop where
  ex : ∃ (f : Addr) (fd : FuncData), FnOk P w K mg base (L2.CX P w) 5 f fd ["self", "symbols", "lengths"] (spFInit K CF CB) ∧ Mk K CF f ∧ Binds K fd ["self", "symbols", "lengths"] []
theorem ok_is_bad {f : Addr} {fd : FuncData} (F : Fun K "_law_is_bad" "_law_is_bad" sIsBad f fd) (T : TxtBad K mg CF CB CS) (MF : MkF P w K mg base CF CB) : FnOk P w K mg base CX0 7 f fd ["symbols", "lengths"] (spIsBad K) := by
  have sc := scIsBad
  refine F.ok scIsBad (fun vs H Q E h => ?_) (fun cdv A outer s H vs Q E hr h => ?_)
  · obtain ⟨va, vl, d, l, rfl, _⟩ := h
    rfl
  · obtain ⟨va, vl, d, l, rfl, hd, hl, pre, k⟩ := h
    obtain ⟨fi, fdi, FI, mk, bi⟩ := MF.ex
    have hr6 : Room 6 _ := hr
    refine ⟨_, (pss_cons (ps_try_as (i := 2) (tb := fun W => tDrop (tMakeSt CF (spFInit K CF CB) (WE W) (tCons (tVar 0) (tCons (tVar 1) tNil)))) (ts := fun a cls d => tRet (tAndV (tCB (rIsT K a cls) (tCons (tVar 2) (tCons (tC (.ref CS)) tNil))) (tCB (rIsT K a cls) (tCons (tVar 2) (tCons (tC (.ty "ValueError")) tNil))))) (Wout := fun _ _ _ _ => False) rfl rfl sc.nd rfl rfl ⟨rfl, by decide, Or.inl T.g_BadFont⟩ takes0
        (fun W pn xe tk _ => pss_one (ps_expr (pe_makeSt mk FI hr6 rfl T.g_Font bi (fun σ => passAt tk σ) (pa_cons (pv 0) (pa_cons (pv 1) pa_nil)))))
        (fun a oe cls d pn hz hf => pss_one (ps_ret (pe_and (pe_callB (call_isT hz) (by rfl) T.b_isinstance (by decide +kernel) (pa_cons (pv 2) (pa_cons (pe_gref rfl T.g_SetError) pa_nil))) (pe_one (pe_callB (call_isT hz) (by rfl) T.b_isinstance (by decide +kernel) (pa_cons (pv 2) (pa_cons (pe_bltn (v := .ty "ValueError") (by rfl) T.b_ValueError PyProof.Rows.Boot.«ValueError» rfl) pa_nil))))))))
      (pss_one (ps_ret pe_bl))), ?_⟩
    refine ⟨_, rfl, _, rfl, fun x dx nx ndx ne => ?_⟩
    have sN : Same H (upd (upd H dx (.own x)) x (.ins CF dx [])) := fun b o e => by
      rw [upd_ne (ne_of_none e nx), upd_ne (ne_of_none e ndx)]
      exact e
    refine ⟨x, dx, va, vl, d, l, rfl, upd_same, Dp_same sN hd, Dp_same sN hl, pre, fun hg H' ss ls e1 e2 kp FA => ?_, fun hg H' s1 => ?_⟩
    · have s2 : Same H H' := fun b o e => kp b o (sN b o e) (ne_of_none e nx)
      have := k H' s2
      rw [hg] at this
      exact ⟨rfl, this⟩
    · refine ⟨true, T.exm, fun _ a na => ?_, fun z => Bool.noConfusion z⟩
      have := k H' (sN.trans s1)
      rw [hg] at this
      exact ⟨_, rfl, _, _, CB, rfl, fun _ r => r, rfl, T.neS, T.kS, true, rfl, iteT ⟨_, rfl, _, _, CB, rfl, fun _ r => r, rfl, by first | rfl | simp, T.kV, this⟩⟩
/-! ### _law_unknown -/
def spUnknown (K : PySem.W.Frag) (CF : Addr) : Sp := fun vs H Q _ => ∃ (p : Addr) (x : Str) (n : Int) (va vl : V) (ss : List Sym) (ls : List Int) (k : Int), vs = [.ref p, .str x, .int n] ∧ x.length ≤ 1000 ∧ FontAt K CF H p va vl ss ls ∧ look ss x = none ∧ ls[7]? = some k ∧ 0 ≤ k ∧ k ≤ 1000 ∧ ∀ H', Same H H' → Q (.bl true) H'
structure TxtUn (K : PySem.W.Frag) (mg : Str → Option Value) (CF CU CS : Addr) : Prop where
  g_UnknownSymbol : mg "UnknownSymbol" = some (.ref CU)
  g_SetError : mg "SetError" = some (.ref CS)
  b_isinstance : mg "isinstance" = none
  exm : PySem.W.exmOne K (.ref CU) (.ref CU) = some true
  neS : (Value.ref CU == Value.ref CS) = false
  kS : PySem.W.kitCls K (.ref CU) (.ref CS) = some true
  xf : XfC K CU
  no : PySem.W.findIn K (.ref CU) "name" = some none
theorem no_class_of_name (va vl : V) (e : Addr) : (ff va vl e).lookup ("class_of" : Str) = none := ff_no va vl e (by decide +kernel) (by decide +kernel) (by decide +kernel)
theorem no_stretched_name (va vl : V) (e : Addr) : (ff va vl e).lookup ("stretched" : Str) = none := ff_no va vl e (by decide +kernel) (by decide +kernel) (by decide +kernel)
theorem scUnknown : FnScope ["font", "name", "kind", "e"] ["font", "name", "kind"] (defScope sUnknown) := ⟨rfl, rfl, rfl, by decide +kernel, rfl, by decide +kernel, by decide +kernel⟩
theorem ok_unknown {f : Addr} {fd : FuncData} (F : Fun K "_law_unknown" "_law_unknown" sUnknown f fd) (O : TxtO K CF) (T : TxtUn K mg CF CU CS) (C_class_of : CalM P w K mg base (L2.CX P w) 4 CF "class_of" ["self", "name"] (spClassOf K CF CU)) (C_metrics : CalM P w K mg base (L2.CX P w) 4 CF "metrics" ["self", "name", "style"] (spMetrics K CF CU))
    (C_stretched : CalM P w K mg base (L2.CX P w) 5 CF "stretched" ["self", "name", "style", "length"] (spStretched K CF CU)) : FnOk P w K mg base CX0 6 f fd ["font", "name", "kind"] (spUnknown K CF) := by
  have sc := scUnknown
  refine F.ok scUnknown (fun vs H Q E h => ?_) (fun cdv A outer s H vs Q E hr h => ?_)
  · obtain ⟨p, x, n, va, vl, ss, ls, kk, rfl, _⟩ := h
    rfl
  · obtain ⟨p, x, n, va, vl, ss, ls, kk, rfl, hx, FA, hn, h7, k0, k1, k⟩ := h
    obtain ⟨f3, fd3, F3, m3, b3⟩ := C_class_of.ex
    obtain ⟨f4, fd4, F4, m4, b4⟩ := C_metrics.ex
    obtain ⟨f5, fd5, F5, m5, b5⟩ := C_stretched.ex
    have hr5 : Room 5 _ := hr
    have hr4 : Room 4 _ := hr.mono (by decide)
    refine ⟨_, (pss_cons (ps_try_as (i := 3) (Wout := fun _ _ _ _ => False) rfl rfl sc.nd rfl rfl ⟨rfl, by decide, Or.inl T.g_UnknownSymbol⟩ takes0
        (fun W pn xe tk _ => pss_one (ps_if (pt_cmpR op_eq (pv 2) pe_int (nomark _)) (pss_one (ps_expr (pe_methSt (pv 0) O.cl m3 F3 hr4 b3 (fun σ => passAt tk σ) (pa_cons (pv 1) pa_nil))))
          (pss_one (ps_if (pt_cmpR op_eq (pv 2) pe_int (nomark _)) (pss_one (ps_expr (pe_methSt (pv 0) O.cl m4 F4 hr4 b4 (fun σ => passAt tk σ) (pa_cons (pv 1) (pa_cons pe_int pa_nil)))))
            (pss_one (ps_expr (pe_methSt (pv 0) O.cl m5 F5 hr5 b5 (fun σ => passAt tk σ) (pa_cons (pv 1) (pa_cons pe_int (pa_cons pe_int pa_nil))))))))))
        (fun a oe cls d pn hz hf => pss_one (ps_ret (pe_and (pe_callB (call_isT hz) (by rfl) T.b_isinstance (by decide +kernel) (pa_cons (pv 3) (pa_cons (pe_gref rfl T.g_SetError) pa_nil))) (pe_one (pe_cmpR op_eq (pe_xf T.xf T.no hz hf (pv 3)) (pv 1) (nomark _)))))))
      (pss_one (ps_ret pe_bl))), ?_⟩
    have FAo : ∃ dx e, H p = some (.ins CF dx (ff va vl e)) := by
      obtain ⟨_, _, _, dx, e, _, h1, _⟩ := FA
      exact ⟨dx, e, h1⟩
    have caught : ∀ (d : Addr), H d = none → ∀ a, (tRet (tAndV (tCB (rIsT K a (.ref CU)) (tCons (tVar 3) (tCons (tC (.ref CS)) tNil))) (tOp rEq (tXf a (.ref CU) (some d) CU "name" (tVar 3)) (tVar 1)))) { nx := fun _ H' => Q .non H', rt := Q } [some (.ref p), some (.str x), some (.int n), some (.ref a)] (upd H d (.xd [("name", .str x)])) := fun d hd a => by
      refine ⟨_, rfl, _, _, CU, rfl, fun _ r => r, rfl, T.neS, T.kS, true, rfl, iteT ?_⟩
      refine ⟨_, rfl, rfl, rfl, d, _, V.str x, rfl, upd_same, by simp [List.lookup], _, rfl, rfl, ?_⟩
      have q := k (upd H d (.xd [("name", .str x)])) (same_new hd)
      have e : decide (V.str x = V.str x) = true := by simp
      rw [e]
      exact q
    refine ⟨_, rfl, rfl, _, rfl, ?_⟩
    by_cases c0 : n = 0
    · refine iteP (by simp [c0]) ?_
      obtain ⟨dx, e, h1⟩ := FAo
      refine ⟨_, rfl, p, dx, _, rfl, h1, no_class_of_name _ _ _, _, rfl, p, x, va, vl, ss, ls, rfl, hx, FA, (fun sy hl => by rw [hn] at hl; cases hl), fun _ d hd => ⟨true, T.exm, fun _ a _ => caught d hd a, fun z => Bool.noConfusion z⟩⟩
    · refine iteN (by simp [c0]) ?_
      refine ⟨_, rfl, rfl, _, rfl, ?_⟩
      by_cases c1 : n = 1
      · refine iteP (by simp [c1]) ?_
        obtain ⟨dx, e, h1⟩ := FAo
        refine ⟨_, rfl, p, dx, _, rfl, h1, no_metrics_name _ _ _, _, rfl, p, x, 2, va, vl, ss, ls, rfl, hx, FA, (fun sy t H' hl => by rw [hn] at hl; cases hl), fun _ d hd => ⟨true, T.exm, fun _ a _ => caught d hd a, fun z => Bool.noConfusion z⟩⟩
      · refine iteN (by simp [c1]) ?_
        obtain ⟨dx, e, h1⟩ := FAo
        refine ⟨_, rfl, p, dx, _, rfl, h1, no_stretched_name _ _ _, _, rfl, p, x, 1, 9, va, vl, ss, ls, kk, rfl, hx, FA, h7, k0, k1, (fun sy H' hl => by rw [hn] at hl; cases hl), fun _ d hd => ⟨true, T.exm, fun _ a _ => caught d hd a, fun z => Bool.noConfusion z⟩⟩
end
end Mg

set_option Elab.async false
set_option linter.all false
set_option maxRecDepth 100000
set_option maxHeartbeats 4000000
namespace Mg
open PySem L2
abbrev sLaw : Stmt := top 39
abbrev NL : List Str := ["script", "stream", "symbols", "lengths", "font", "other", "name", "kind", "width", "height", "depth", "style", "length", "good", "wrong", "bad", "names", "many", "kinds", "turned", "least", "most", "k", "row"]
theorem scLaw : FnScope NL ["script"] (defScope sLaw) := ⟨rfl, rfl, rfl, by decide +kernel, rfl, by decide +kernel, by decide +kernel⟩
abbrev E00 : XK := fun _ _ _ => False
section
variable {X : Cx} {CF CB : Addr} {p pos : Pos} {e : Expr} {es : List Expr} {t : TA}
theorem passN : Passes (L2.CX X.prog X.w) X E00 := passes_call takes0 fun _ _ _ _ h => h
theorem pe_mkF (M : MkF X.prog X.w X.K X.mg X.base CF CB) (hr : Room 6 X.A) (hg : Gl X "Font") (hm : X.mg "Font" = some (.ref CF)) (ha : PA X (e :: es) t)
    (he : starEach (e :: es) X.env = (false, eval e X.env) :: starEach es X.env := by rfl) (hpl : (backTo pos (starEach es X.env)).any (·.1) = false := by rfl) :
    PE X (.Call (.Name "Font" p) (e :: es) [] pos) (tMake CF (spFInit X.K CF CB) [] E00 t) := by
  obtain ⟨f, fd, F, mk, hb⟩ := M.ex
  exact pe_make mk F hr hg hm hb .nil passN ha (by decide) he hpl
structure LenF (P : Program) (w : World) (K : PySem.W.Frag) (mg : Str → Option Value) (base : Heap) (CF : Addr) : Prop where
  ex : ∃ (f : Addr) (fd : FuncData), FnOk P w K mg base CX0 1 f fd ["self"] (spFLen K CF) ∧ Spc K CF "__len__" f ∧ Binds K fd ["self"] []
structure EqF (P : Program) (w : World) (K : PySem.W.Frag) (mg : Str → Option Value) (base : Heap) (CF : Addr) : Prop where
  ex : ∃ (f : Addr) (fd : FuncData), FnOk P w K mg base CX0 1 f fd ["self", "other"] (spFEq K CF) ∧ Spc K CF "__eq__" f ∧ Binds K fd ["self", "other"] []
theorem call_lenF (M : LenF X.prog X.w X.K X.mg X.base CF) (hr : Room 2 X.A) : CallR X (.builtin "len") (rOwnLen CF (spFLen X.K CF) E00) := by
  obtain ⟨f, fd, F, m, hb⟩ := M.ex
  exact call_len_own F hr m hb pass0
theorem op_eqF (M : EqF X.prog X.w X.K X.mg X.base CF) (hr : Room 1 X.A) : OpR X (compareOp .Eq) (rOwnEq CF (spFEq X.K CF) E00) := by
  obtain ⟨f, fd, F, m, hb⟩ := M.ex
  exact op_ownEq F hr m hb pass0
end
/-- all that the law's def asks of the text behind the top -/
structure Law (P : Program) (w : World) (K : PySem.W.Frag) (mg : Str → Option Value) (base : Heap) (CF CB CU : Addr) : Prop extends TxtB mg where
  g_Font : mg "Font" = some (.ref CF)
  O : TxtO K CF
  mkF : MkF P w K mg base CF CB
  lenF : LenF P w K mg base CF
  eqF : EqF P w K mg base CF
  C_law_stream : Cal P w K mg base CX0 3 "_law_stream" ["script", "first", "count"] (spStream K)
  C_law_font : Cal P w K mg base CX0 3 "_law_font" ["stream"] (spLFont K)
  C_law_next : Cal P w K mg base CX0 1 "_law_next" ["stream", "many"] spNext
  C_law_same : Cal P w K mg base CX0 6 "_law_same" ["actual", "expected"] (spSameR K 6)
  C_law_sizes : Cal P w K mg base CX0 2 "_law_sizes" ["font", "name", "style"] (spLSizes K)
  C_law_stretches : Cal P w K mg base CX0 3 "_law_stretches" ["font", "symbols", "name", "style", "length"] (spLStretches K CF)
  C_law_is_bad : Cal P w K mg base CX0 7 "_law_is_bad" ["symbols", "lengths"] (spIsBad K)
  C_law_unknown : Cal P w K mg base CX0 6 "_law_unknown" ["font", "name", "kind"] (spUnknown K CF)
  C_scaled : Cal P w K mg base CX0 1 "scaled" ["number", "style"] spScaled
  C_metrics : CalM P w K mg base (L2.CX P w) 4 CF "metrics" ["self", "name", "style"] (spMetrics K CF CU)
  C_class_of : CalM P w K mg base (L2.CX P w) 4 CF "class_of" ["self", "name"] (spClassOf K CF CU)
  C_stretched : CalM P w K mg base (L2.CX P w) 5 CF "stretched" ["self", "name", "style", "length"] (spStretched K CF CU)
abbrev XL (P : Program) (w : World) (K : PySem.W.Frag) (mg : Str → Option Value) (base : Heap) (f : Addr) (cdv : Value) (A : Around) (outer : List Env) (s : Shared) (H : Hp) (E : XK) : Cx := (cxOf CX0 P w K mg base NL "law" (defScope sLaw) f cdv A outer s H E).nox
abbrev RoomL (f : Addr) (cdv : Value) (A : Around) (s : Shared) : Prop := Room 7 (A.deeper (PyProof.Rows.envOfC "law" (defScope sLaw) s.heap.objs.size f cdv))
/-! what stands while the law runs -/
structure Drawn (ss : List Sym) (ls : List Int) : Prop where
  nm : ss.map (·.nm) = nmsR
  ok : ∀ s ∈ ss, s.ok
  lens : LensOk ls
structure LSt (K : PySem.W.Frag) (CF : Addr) (H : Hp) (st pd pl p q : Addr) (va vl : V) (ss : List Sym) (ls : List Int) : Prop where
  S : Stream H st pd pl
  F : FontAt K CF H p va vl ss ls
  G : ∃ vb, FontAt K CF H q vb vl (ss.take 12) ls
section
variable {K : PySem.W.Frag} {CF : Addr} {H H' : Hp} {st pd pl p q : Addr} {va vl : V} {ss : List Sym} {ls : List Int}
theorem LSt.same (L : LSt K CF H st pd pl p q va vl ss ls) (s : Same H H') : LSt K CF H' st pd pl p q va vl ss ls := by
  obtain ⟨a, b, c, d⟩ := L
  exact ⟨a.new s, b.same s, c, d.same s⟩
theorem LSt.keep (L : LSt K CF H st pd pl p q va vl ss ls) (s : KeepB pl H H') (S' : Stream H' st pd pl) : LSt K CF H' st pd pl p q va vl ss ls := by
  obtain ⟨a, b, c, d⟩ := L
  obtain ⟨k, hk⟩ := a.pl
  exact ⟨S', b.keep s hk, c, d.keep s hk⟩
end
/-! the drawn symbols and lengths are a font's -/
theorem good_entry {n c : Str} {a b d : Int} (hn : isName (.str n) = true) (hc : isKind (.str c) = true) (ha : 0 ≤ a ∧ a ≤ 1000) (hb : 0 ≤ b ∧ b ≤ 1000) (hd : 0 ≤ d ∧ d ≤ 1000) : isEntry (Sym.d ⟨n, c, a, b, d⟩) = true := by
  simp [Sym.d, isEntry, isInt, hn, hc, ha.1, ha.2, hb.1, hb.2, hd.1, hd.2]
theorem nms_name : ∀ n ∈ nmsR, isName (.str n) = true ∧ isKind (.str (kindOf n)) = true ∧ n.length ≤ 1000 ∧ PyData.canLay0 (.str n) = true ∧ PyData.canLay0 (.str (kindOf n)) = true := by decide +kernel
theorem lay_syms : ∀ {ss : List Sym}, (∀ s ∈ ss, PyData.canLay0 (.str s.nm) = true ∧ PyData.canLay0 (.str s.cl) = true) → PyData.canLayAll0 (ss.map Sym.d) = true
  | [], _ => rfl
  | s :: ss, h => by
    obtain ⟨h1, h2⟩ := h s List.mem_cons_self
    have ih := lay_syms (ss := ss) fun u hu => h u (List.mem_cons_of_mem _ hu)
    show (PyData.canLay0 s.d && PyData.canLayAll0 (ss.map Sym.d)) = true
    rw [ih, Bool.and_true]
    show (PyData.canLay0 (.str s.nm) && (PyData.canLay0 (.str s.cl) && (true && (true && (true && true))))) = true
    rw [h1, h2]
    rfl
theorem dep_syms : ∀ (ss : List Sym), PyData.depthAll (ss.map Sym.d) ≤ 1
  | [] => Nat.zero_le _
  | s :: ss => by
    show max (PyData.depth s.d) (PyData.depthAll (ss.map Sym.d)) ≤ 1
    exact Nat.max_le.mpr ⟨Nat.le_refl 1, dep_syms ss⟩
theorem dep_ints : ∀ (ls : List Int), PyData.depthAll (ls.map PyData.int) ≤ 0
  | [] => Nat.zero_le _
  | s :: ss => by
    show max 0 (PyData.depthAll (ss.map PyData.int)) ≤ 0
    exact Nat.max_le.mpr ⟨Nat.le_refl 0, dep_ints ss⟩
theorem lay_ints : ∀ (ls : List Int), PyData.canLayAll0 (ls.map PyData.int) = true
  | [] => rfl
  | s :: ss => by
    show (true && PyData.canLayAll0 (ss.map PyData.int)) = true
    rw [lay_ints ss]
    rfl
theorem sh_syms {ss : List Sym} (h : ∀ s ∈ ss, PyData.canLay0 (.str s.nm) = true ∧ PyData.canLay0 (.str s.cl) = true) : SeqAt.shaped (symsD ss) = true := by
  have h1 : PyData.canLay0 (symsD ss) = true := lay_syms h
  have h2 : PyData.depth (symsD ss) ≤ 64 := Nat.le_trans (Nat.succ_le_succ (dep_syms ss)) (by decide)
  unfold SeqAt.shaped
  rw [h1, decide_eq_true h2]
  rfl
theorem sh_lens (ls : List Int) : SeqAt.shaped (lensD ls) = true := by
  have h1 : PyData.canLay0 (lensD ls) = true := lay_ints ls
  have h2 : PyData.depth (lensD ls) ≤ 64 := Nat.le_trans (Nat.succ_le_succ (dep_ints ls)) (by decide)
  unfold SeqAt.shaped
  rw [h1, decide_eq_true h2]
  rfl
theorem good_syms {ss : List Sym} (h1 : 1 ≤ ss.length) (h2 : ss.length ≤ 60) (h3 : (ss.map (·.nm)).Nodup) (h4 : ∀ s ∈ ss, isEntry s.d = true) : areSymbols (symsD ss) = true := by
  have e1 : (ss.map Sym.d).map nameD = ss.map (·.nm) := by
    rw [List.map_map]
    rfl
  show (decide (1 ≤ (ss.map Sym.d).length) && decide ((ss.map Sym.d).length ≤ 60) && (ss.map Sym.d).all isEntry && decide (((ss.map Sym.d).map nameD).Nodup)) = true
  rw [List.length_map, e1, decide_eq_true h1, decide_eq_true h2, decide_eq_true h3]
  have e2 : (ss.map Sym.d).all isEntry = true := by
    rw [List.all_eq_true]
    intro d hd
    obtain ⟨s, hs, rfl⟩ := List.mem_map.mp hd
    exact h4 s hs
  rw [e2]
  rfl
section
variable {ss : List Sym} {ls : List Int}
theorem Drawn.mem (D : Drawn ss ls) {s : Sym} (h : s ∈ ss) : s.nm ∈ nmsR := by
  rw [← D.nm]
  exact List.mem_map_of_mem h
theorem Drawn.entry (D : Drawn ss ls) {s : Sym} (h : s ∈ ss) : isEntry s.d = true := by
  obtain ⟨n, c, a, b, d⟩ := s
  obtain ⟨e, a0, a1, b0, b1, d0, d1⟩ := D.ok _ h
  obtain ⟨q1, q2, _⟩ := nms_name _ (D.mem h)
  dsimp only at e q1 q2 a0 a1 b0 b1 d0 d1
  subst e
  exact good_entry q1 q2 ⟨a0, by omega⟩ ⟨b0, by omega⟩ ⟨d0, by omega⟩
theorem Drawn.lay (D : Drawn ss ls) : ∀ s ∈ ss, PyData.canLay0 (.str s.nm) = true ∧ PyData.canLay0 (.str s.cl) = true := fun s h => by
  obtain ⟨_, _, _, q3, q4⟩ := nms_name _ (D.mem h)
  rw [(D.ok s h).1]
  exact ⟨q3, q4⟩
theorem Drawn.len (D : Drawn ss ls) : ss.length = 13 := by
  have := congrArg List.length D.nm
  rw [List.length_map] at this
  exact this
theorem Drawn.good (D : Drawn ss ls) : areSymbols (symsD ss) = true := good_syms (by rw [D.len]; decide) (by rw [D.len]; decide) (by rw [D.nm]; decide +kernel) fun s h => D.entry h
theorem Drawn.good12 (D : Drawn ss ls) : areSymbols (symsD (ss.take 12)) = true := by
  refine good_syms (by rw [List.length_take, D.len]; decide) (by rw [List.length_take, D.len]; decide) ?_ fun s h => D.entry (List.mem_of_mem_take h)
  rw [List.map_take, D.nm]
  decide +kernel
theorem Drawn.pre (D : Drawn ss ls) : ∀ s ∈ ss, s.nm.length ≤ 1000 := fun s h => (nms_name _ (D.mem h)).2.2.1
theorem pre_syms {ss : List Sym} (h : ∀ s ∈ ss, s.nm.length ≤ 1000) : PreS (symsD ss) := fun d hd => by
  obtain ⟨s, hs, rfl⟩ := List.mem_map.mp hd
  refine ⟨fun x e => ?_, rfl⟩
  cases e
  exact h s hs
theorem Drawn.goodL (D : Drawn ss ls) : areLengths (lensD ls) = true := by
  obtain ⟨a, b, c, d, e, f, g, h, rfl, ha, hb, hc, hd, he, hf, hg, h1, h2⟩ := D.lens
  simp [lensD, areLengths, cLIM, isInt]
  omega
end
end Mg

set_option Elab.async false
set_option linter.all false
set_option maxRecDepth 100000
set_option maxHeartbeats 4000000
namespace Mg
open PySem L2
section
variable {P : Program} {w : World} {K : PySem.W.Frag} {mg : Str → Option Value} {base : Heap} {CF CB CU : Addr} {f : Addr} {cdv : Value} {A : Around} {outer : List Env} {s : Shared} {H0 : Hp} {E : XK}
theorem map_inj {α β : Type} {g : α → β} (hg : ∀ a b, g a = g b → a = b) : ∀ {l m : List α}, l.map g = m.map g → l = m
  | [], [], _ => rfl
  | [], _ :: _, h => by cases h
  | _ :: _, [], h => by cases h
  | a :: l, b :: m, h => by
    rw [List.map_cons, List.map_cons, List.cons.injEq] at h
    rw [hg a b h.1, map_inj hg h.2]
theorem symsD_inj {ss ss' : List Sym} (h : symsD ss = symsD ss') : ss = ss' := by
  have e : ss.map Sym.d = ss'.map Sym.d := by injection h
  exact map_inj (fun a b hab => by
    obtain ⟨n, c, x, y, z⟩ := a
    obtain ⟨n', c', x', y', z'⟩ := b
    simp only [Sym.d, PyData.tuple.injEq, List.cons.injEq, PyData.str.injEq, PyData.int.injEq, and_true] at hab
    obtain ⟨rfl, rfl, rfl, rfl, rfl⟩ := hab
    rfl) e
theorem lensD_inj {ls ls' : List Int} (h : lensD ls = lensD ls') : ls = ls' := by
  have e : ls.map PyData.int = ls'.map PyData.int := by injection h
  exact map_inj (fun a b hab => by injection hab) e
theorem tp_of_ints {H : Hp} {b : Addr} {ls : List Int} (h : SqT K H b (ls.map V.int)) : Tp K H (.ref b) (lensD ls) := by
  refine .tup h (by rw [List.length_map, List.length_map]) fun i x d hx hd => ?_
  rw [List.getElem?_map] at hx hd
  cases e : ls[i]? with
  | none =>
    rw [e] at hx
    cases hx
  | some z =>
    rw [e] at hx hd
    cases hx
    cases hd
    exact .int z
theorem mk_font {H : Hp} {va vl : V} {ss : List Sym} {ls : List Int} {Q : VK} (hS : Dp K H va (symsD ss)) (hL : Dp K H vl (lensD ls)) (pre : PreS (symsD ss)) (g1 : areSymbols (symsD ss) = true) (g2 : areLengths (lensD ls) = true)
    (x dx : Addr) (nx : H x = none) (ndx : H dx = none) (ne : dx ≠ x) (k : ∀ H', Same H H' → FontAt K CF H' x va vl ss ls → Q .non H') :
    spFInit K CF CB (.ref x :: ([va, vl] ++ [])) (upd (upd H dx (.own x)) x (.ins CF dx [])) Q E00 := by
  have sN : Same H (upd (upd H dx (.own x)) x (.ins CF dx [])) := fun b o e => by
    rw [upd_ne (ne_of_none e nx), upd_ne (ne_of_none e ndx)]
    exact e
  refine ⟨x, dx, va, vl, _, _, rfl, upd_same, Dp_same sN hS, Dp_same sN hL, pre, fun _ H' ss' ls' e1 e2 kp FA => ?_, fun hb => ?_⟩
  · obtain rfl := symsD_inj e1
    obtain rfl := lensD_inj e2
    exact k H' (fun b o e => kp b o (sN b o e) (ne_of_none e nx)) FA
  · rw [g1, g2] at hb
    cases hb
theorem dp_two {H : Hp} {t : Addr} {x y : V} {d e : PyData} (h : H t = some (.tup [x, y])) (hx : Dp K H x d) (hy : Dp K H y e) : Dp K H (.ref t) (.tuple [d, e]) := .tup (SqT.of h) (.cons hx (.cons hy .nil))
theorem dep_two {ss : List Sym} {ls : List Int} : PyData.depth (.tuple [symsD ss, lensD ls]) ≤ 5 := by
  have h1 : PyData.depth (symsD ss) ≤ 2 := Nat.succ_le_succ (dep_syms ss)
  have h2 : PyData.depth (lensD ls) ≤ 1 := Nat.succ_le_succ (dep_ints ls)
  show max (PyData.depth (symsD ss)) (max (PyData.depth (lensD ls)) 0) + 1 ≤ 5
  omega
theorem tp_sym_of {H : Hp} {t : Addr} {y : Sym} (h : SqT K H t y.vs) : Tp K H (.ref t) y.d := by
  refine .tup h rfl fun i x d hx hd => ?_
  match i, hx, hd with
  | 0, hx, hd => cases hx; cases hd; exact .str _
  | 1, hx, hd => cases hx; cases hd; exact .str _
  | 2, hx, hd => cases hx; cases hd; exact .int _
  | 3, hx, hd => cases hx; cases hd; exact .int _
  | 4, hx, hd => cases hx; cases hd; exact .int _
  | _ + 5, hx, hd => cases hx
theorem tp_syms_of {H : Hp} {o : Addr} {ts : List Addr} {ss : List Sym} (h : SqT K H o (ts.map V.ref)) (hl : ts.length = ss.length) (he : ∀ (i : Nat) (t : Addr) (y : Sym), ts[i]? = some t → ss[i]? = some y → SqT K H t y.vs) : Tp K H (.ref o) (symsD ss) := by
  refine .tup h (by rw [List.length_map, List.length_map, hl]) fun i x d hx hd => ?_
  rw [List.getElem?_map] at hx hd
  cases e1 : ts[i]? with
  | none =>
    rw [e1] at hx
    cases hx
  | some t =>
    cases e2 : ss[i]? with
    | none =>
      rw [e2] at hd
      cases hd
    | some y =>
      rw [e1] at hx
      rw [e2] at hd
      cases hx
      cases hd
      exact tp_sym_of (he i t y e1 e2)
theorem FontAt.ins {H : Hp} {C p : Addr} {va vl : V} {ss : List Sym} {ls : List Int} (F : FontAt K C H p va vl ss ls) : ∃ dx e, H p = some (.ins C dx (ff va vl e)) := by
  obtain ⟨_, _, _, dx, e, _, h, _⟩ := F
  exact ⟨dx, e, h⟩
theorem eqF_same {ss : List Sym} {ls : List Int} (h : ∀ y ∈ ss, PyData.canLay0 (.str y.nm) = true ∧ PyData.canLay0 (.str y.cl) = true) : eqF ss ss ls ls = true := by
  unfold eqF
  rw [SeqAt.eqv_refl _ (show PyData.canLay0 (symsD ss) = true from lay_syms h), SeqAt.eqv_refl _ (show PyData.canLay0 (lensD ls) = true from lay_ints ls)]
  rfl
theorem eqF_cut {ss ss' : List Sym} {ls : List Int} (h : ss.length ≠ ss'.length) : eqF ss ss' ls ls = false := by
  unfold eqF
  have e : PyData.eqv (symsD ss) (symsD ss') = false := by
    unfold symsD
    rw [PyData.eqv]
    exact SeqAt.eqvAll_other_length (by rw [List.length_map, List.length_map]; exact h)
  rw [e]
  rfl
theorem eqF_len {ss : List Sym} {a b c d e f g h h' : Int} (n : h ≠ h') : eqF ss ss [a, b, c, d, e, f, g, h] [a, b, c, d, e, f, g, h'] = false := by
  unfold eqF
  have q : PyData.eqv (lensD [a, b, c, d, e, f, g, h]) (lensD [a, b, c, d, e, f, g, h']) = false := by
    simp [lensD, PyData.eqv, PyData.eqvAll, n]
  rw [q, Bool.and_false]
theorem cut_last {ts : List Addr} (h : ts.length = 13) : cutV (ts.map V.ref) none (some (-1)) = (ts.take 12).map V.ref := by
  unfold cutV
  rw [List.length_map, h]
  show (List.drop 0 (ts.map V.ref)).take 12 = _
  rw [List.drop_zero, List.map_take]
theorem lawA (L : Law P w K mg base CF CB CU) (hr : RoomL f cdv A s) {a : Addr} {ns : List Int} (hS : SqL K H0 a (ns.map V.int)) {tr : TS} (hrest : PSs (XL P w K mg base f cdv A outer s H0 E) (List.drop 6 (defBody sLaw)) tr) :
    ∃ t, PSs (XL P w K mg base f cdv A outer s H0 E) (defBody sLaw) t ∧ ∀ D : Ends, (∀ (st pd pl p q : Addr) (va vl : V) (ss : List Sym) (ls : List Int) (H' : Hp), Drawn ss ls → LSt K CF H' st pd pl p q va vl ss ls →
      tr D ([some (.ref a), some (.ref st), some va, some vl, some (.ref p), some (.ref q)] ++ List.replicate 18 none) H') → t D (start NL [.ref a]) H0 := by
  have sc := scLaw
  refine ⟨_, (pss_cons (ps_set (i := 1) sc.nd rfl (Or.inr rfl) (pe_cal L.C_law_stream (hr.mono (by decide)) rfl pass0 (pa_cons (pv 0) (pa_cons pe_int (pa_cons pe_int pa_nil)))))
  (pss_cons (ps_asg (pe_cal L.C_law_font (hr.mono (by decide)) rfl pass0 (pa_cons (pv 1) pa_nil)) (pg_tup rfl (pgs_cons (pg_name (i := 2) sc.nd rfl (Or.inl rfl)) (pgs_cons (pg_name (i := 3) sc.nd rfl (Or.inr rfl)) pgs_nil))))
  (pss_cons (ps_set (i := 4) sc.nd rfl (Or.inl rfl) (pe_mkF L.mkF (hr.mono (by decide)) rfl L.g_Font (pa_cons (pv 2) (pa_cons (pv 3) pa_nil))))
  (pss_cons (ps_if (PW.pt (pw_or (pt_not (pt_val (pe_cal L.C_law_same (hr.mono (by decide)) rfl pass0 (pa_cons (pe_tup (pa_cons (pe_fld (pv 4) rfl) (pa_cons (pe_fld (pv 4) rfl) pa_nil))) (pa_cons (pe_tup (pa_cons (pv 2) (pa_cons (pv 3) pa_nil))) pa_nil))))) (pw_or1 (pt_not (pt_val (pe_cal L.C_law_same (hr.mono (by decide)) rfl pass0 (pa_cons (pe_callB (call_lenF L.lenF (hr.mono (by decide))) (by rfl) L.b_len PySem.boot_len (pa_cons (pv 4) pa_nil)) (pa_cons pe_int pa_nil))))))))
  (pss_one (ps_ret pe_bl))
  pss_nil)
  (pss_cons (ps_set (i := 5) sc.nd rfl (Or.inr rfl) (pe_mkF L.mkF (hr.mono (by decide)) rfl L.g_Font (pa_cons (pe_slice sl_tup (pv 2) po_none (po_some (pe_un un_neg pe_int))) (pa_cons (pv 3) pa_nil))))
  (pss_cons (ps_if (PW.pt (pw_or (pt_not (pt_val (pe_cal L.C_law_same (hr.mono (by decide)) rfl pass0 (pa_cons (pe_cmpR (op_eqF L.eqF (hr.mono (by decide))) (pv 4) (pe_mkF L.mkF (hr.mono (by decide)) rfl L.g_Font (pa_cons (pv 2) (pa_cons (pv 3) pa_nil))) (nomark _)) (pa_cons pe_bl pa_nil))))) (pw_or (pt_not (pt_val (pe_cal L.C_law_same (hr.mono (by decide)) rfl pass0 (pa_cons (pe_cmpR (op_eqF L.eqF (hr.mono (by decide))) (pv 4) (pv 5) (nomark _)) (pa_cons pe_bl pa_nil))))) (pw_or1 (pt_not (pt_val (pe_cal L.C_law_same (hr.mono (by decide)) rfl pass0 (pa_cons (pe_cmpR (op_eqF L.eqF (hr.mono (by decide))) (pv 4) (pe_mkF L.mkF (hr.mono (by decide)) rfl L.g_Font (pa_cons (pv 2) (pa_cons (pe_op op_catT (pe_slice sl_tup (pv 3) po_none (po_some pe_int)) (pe_tup (pa_cons (pe_op op_add pe_int (pe_ix ix_tup (pv 3) pe_int (fun _ _ => rfl))) pa_nil))) pa_nil))) (nomark _)) (pa_cons pe_bl pa_nil)))))))))
  (pss_one (ps_ret pe_bl))
  pss_nil)
  hrest)))))), fun D k => ?_⟩
  refine ⟨_, rfl, a, ns, 12, rfl, hS, by decide, by decide, fun st pd pl H1 n1 n2 n3 s1 S1 => ?_⟩
  refine ⟨_, rfl, st, pd, pl, rfl, S1, fun fo ta tb ss ls H2 k2 S2 hf hl hs hnm hok hlens => ?_⟩
  have DR : Drawn ss ls := ⟨hnm, hok, hlens⟩
  refine ⟨fo, _, rfl, SqT.of hf, rfl, V.ref ta, _, rfl, V.ref tb, _, rfl, rfl, ?_⟩
  have hl2 : Dp K H2 (.ref tb) (lensD ls) := (tp_of_ints hl).dp
  refine ⟨_, rfl, _, rfl, fun p dx np ndx ne => mk_font (CF := CF) (CB := CB) hs.dp hl2 (pre_syms DR.pre) DR.good DR.goodL p dx np ndx ne fun H3 s3 FA => ⟨rfl, ?_⟩⟩
  have FA0 := FA
  obtain ⟨_, _, _, dA, eA, _, a1, _⟩ := FA0
  refine ⟨_, rfl, p, CF, dA, _, _, rfl, a1, L.O.cl, L.O.nS, ff_sym _ _ _, _, rfl, p, CF, dA, _, _, rfl, a1, L.O.cl, L.O.nL, ff_len _ _ _, (by show 2 ≤ sizeLine; decide), fun t1 m1 => ?_⟩
  refine ⟨_, rfl, _, rfl, (by show 2 ≤ sizeLine; decide), fun t2 m2 => ?_⟩
  have s4 : Same H3 (upd (upd H3 t1 (.tup [.ref ta, .ref tb])) t2 (.tup [.ref ta, .ref tb])) := (same_new m1).trans (same_new m2)
  refine ⟨.ref t1, .ref t2, .tuple [symsD ss, lensD ls], rfl, dp_two (same_new m2 _ _ upd_same) (Dp_same s4 FA.syms.dp) (Dp_same s4 FA.lens.dp), dp_two upd_same (Dp_same s4 FA.syms.dp) (Dp_same s4 FA.lens.dp), dep_two, ?_⟩
  refine ⟨_, rfl, iteF ?_⟩
  have FA4 := FA.same s4
  refine ⟨_, rfl, p, dA, _, rfl, s4 _ _ a1, p, _, _, ss, ls, rfl, FA4, 13, by rw [DR.len]; rfl, by decide, by decide, ?_⟩
  refine ⟨.int 13, .int 13, .int 13, rfl, .int _, .int _, by decide, _, rfl, iteF ?_⟩
  obtain ⟨ta', ts, eta, hts, tl, tg⟩ := syms_get FA4.syms
  cases eta
  refine ⟨_, rfl, 1, rfl, -1, rfl, ta, _, rfl, hts, ?_, fun o no => ?_⟩
  · rw [List.length_map, tl, DR.len]
    decide +kernel
  have tl13 : ts.length = 13 := tl.trans DR.len
  rw [cut_last tl13]
  have s5 : Same (upd (upd H3 t1 (.tup [.ref ta, .ref tb])) t2 (.tup [.ref ta, .ref tb])) (upd (upd (upd H3 t1 (.tup [.ref ta, .ref tb])) t2 (.tup [.ref ta, .ref tb])) o (.tup ((ts.take 12).map V.ref))) := same_new no
  have FA5 := FA4.same s5
  have tq : Tp K (upd (upd (upd H3 t1 (.tup [.ref ta, .ref tb])) t2 (.tup [.ref ta, .ref tb])) o (.tup ((ts.take 12).map V.ref))) (.ref o) (symsD (ss.take 12)) := by
    refine tp_syms_of (SqT.of upd_same) (by rw [List.length_take, List.length_take, tl]) fun i t y h1 h2 => ?_
    have h3 : ts[i]? = some t := by
      rw [List.getElem?_take] at h1
      split at h1
      · exact h1
      · cases h1
    have h4 : ss[i]? = some y := by
      rw [List.getElem?_take] at h2
      split at h2
      · exact h2
      · cases h2
    exact same_sqt s5 (tg i t y h3 h4)
  generalize hH5 : upd (upd (upd H3 t1 (.tup [.ref ta, .ref tb])) t2 (.tup [.ref ta, .ref tb])) o (.tup ((ts.take 12).map V.ref)) = H5 at s5 FA5 tq ⊢
  have S5 : Stream H5 st pd pl := (S2.new s3).new (s4.trans s5)
  refine ⟨_, rfl, fun q dx nq ndq neq => mk_font (CF := CF) (CB := CB) tq.dp FA5.lens.dp (pre_syms fun y hy => DR.pre y (List.mem_of_mem_take hy)) DR.good12 DR.goodL q dx nq ndq neq fun H6 s6 FB => ⟨rfl, ?_⟩⟩
  have LS : LSt K CF H6 st pd pl p q (.ref ta) (.ref tb) ss ls := ⟨S5.new s6, FA5.same s6, _, FB⟩
  have fin := fun H' (s' : Same H6 H') => k st pd pl p q (.ref ta) (.ref tb) ss ls H' DR (LS.same s')
  clear hH5 s5 tq
  have FA6 := FA5.same s6
  have sh1 : ShF ss ls := ⟨sh_syms DR.lay, sh_lens ls⟩
  -- font == Font(symbols, lengths)
  refine ⟨_, rfl, _, rfl, _, rfl, fun p2 dx2 np2 ndx2 ne2 => mk_font (CF := CF) (CB := CB) FA6.syms.dp FA6.lens.dp (pre_syms DR.pre) DR.good DR.goodL p2 dx2 np2 ndx2 ne2 fun H7 s7 FC => ⟨rfl, ?_⟩⟩
  obtain ⟨d1, e1, i1⟩ := (FA6.same s7).ins
  obtain ⟨d2, e2, i2⟩ := FC.ins
  refine ⟨p, p2, _, _, _, _, rfl, rfl, i1, i2, p, p2, _, _, _, _, ss, ss, ls, ls, rfl, FA6.same s7, FC, sh1, sh1, _, rfl, ?_⟩
  rw [eqF_same DR.lay]
  refine ⟨.bl true, .bl true, .bool true, rfl, .bl _, .bl _, by decide, _, rfl, iteF ?_⟩
  -- font == other
  have FA7 := FA6.same s7
  have FB7 := FB.same s7
  have fin7 := fun H' (s' : Same H7 H') => fin H' (s7.trans s')
  obtain ⟨d3, e3, i3⟩ := FB7.ins
  have sh12 : ShF (ss.take 12) ls := ⟨sh_syms fun y hy => DR.lay y (List.mem_of_mem_take hy), sh_lens ls⟩
  refine ⟨_, rfl, _, rfl, p, q, _, _, _, _, rfl, rfl, i1, i3, p, q, _, _, _, _, ss, _, ls, ls, rfl, FA7, FB7, sh1, sh12, _, rfl, ?_⟩
  rw [eqF_cut (by rw [List.length_take, DR.len]; decide)]
  refine ⟨.bl false, .bl false, .bool false, rfl, .bl _, .bl _, by decide, _, rfl, iteF ?_⟩
  -- font == Font(symbols, lengths[:7] + (9 + lengths[7],))
  obtain ⟨a1, a2, a3, a4, a5, a6, a7, a8, el, b1, b2, b3, b4, b5, b6, b7, b8, b9⟩ := DR.lens
  have hl7 : SqT K H7 tb (ls.map V.int) := by
    obtain ⟨_, ez, hz⟩ := tp_ints FA7.lens.dp
    cases ez
    exact hz
  rw [el] at hl7
  refine ⟨_, rfl, _, rfl, _, rfl, 7, rfl, tb, _, rfl, hl7, (by show ¬ (HT.sIx 8 0 none = 0 ∧ HT.sIx 8 8 (some 7) = 8); decide +kernel), fun o1 no1 => ?_⟩
  have s8 : Same H7 (upd H7 o1 (.tup (cutV ([a1, a2, a3, a4, a5, a6, a7, a8].map V.int) none (some 7)))) := same_new no1
  refine ⟨_, rfl, tb, _, 7, V.int a8, rfl, rfl, same_sqt s8 hl7, rfl, 9, a8, rfl, rfl, (by show 1 ≤ sizeLine; decide), fun o2 no2 => ?_⟩
  have s9 : Same H7 (upd (upd H7 o1 (.tup (cutV ([a1, a2, a3, a4, a5, a6, a7, a8].map V.int) none (some 7)))) o2 (.tup [.int (9 + a8)])) := s8.trans (same_new no2)
  refine ⟨o1, o2, _, _, rfl, rfl, SqT.of (same_new no2 _ _ upd_same), SqT.of upd_same, (fun z => by cases z), (by show 8 ≤ sizeLine; decide), (fun z => by cases z), fun _ o3 no3 => ?_⟩
  have s10 := s9.trans (same_new (o := .tup (cutV ([a1, a2, a3, a4, a5, a6, a7, a8].map V.int) none (some 7) ++ [.int (9 + a8)])) no3)
  have FA10 := FA7.same s10
  have tl9 : Tp K _ (.ref o3) (lensD [a1, a2, a3, a4, a5, a6, a7, 9 + a8]) := tp_of_ints (SqT.of (upd_same (H := upd (upd H7 o1 (.tup (cutV ([a1, a2, a3, a4, a5, a6, a7, a8].map V.int) none (some 7)))) o2 (.tup [.int (9 + a8)])) (a := o3) (o := .tup (cutV ([a1, a2, a3, a4, a5, a6, a7, a8].map V.int) none (some 7) ++ [.int (9 + a8)]))))
  have g9 : areLengths (lensD [a1, a2, a3, a4, a5, a6, a7, 9 + a8]) = true := by
    simp [lensD, areLengths, cLIM, isInt]
    omega
  refine fun p3 dx3 np3 ndx3 ne3 => mk_font (CF := CF) (CB := CB) FA10.syms.dp tl9.dp (pre_syms DR.pre) DR.good g9 p3 dx3 np3 ndx3 ne3 fun H11 s11 FD => ⟨rfl, ?_⟩
  obtain ⟨d5, e5, i5⟩ := (FA10.same s11).ins
  obtain ⟨d6, e6, i6⟩ := FD.ins
  refine ⟨p, p3, _, _, _, _, rfl, rfl, i5, i6, p, p3, _, _, _, _, ss, ss, ls, _, rfl, FA10.same s11, FD, sh1, ⟨sh_syms DR.lay, sh_lens _⟩, _, rfl, ?_⟩
  rw [el, eqF_len (by omega)]
  refine ⟨.bl false, .bl false, .bool false, rfl, .bl _, .bl _, by decide, _, rfl, iteF ?_⟩
  exact fin7 _ (s10.trans s11)
end
end Mg

set_option Elab.async false
set_option linter.all false
set_option maxRecDepth 100000
set_option maxHeartbeats 4000000
namespace Mg
open PySem L2
section
variable {P : Program} {w : World} {K : PySem.W.Frag} {mg : Str → Option Value} {base : Heap} {CF CB CU : Addr} {f : Addr} {cdv : Value} {A : Around} {outer : List Env} {s : Shared} {H0 : Hp} {E : XK}
theorem look_at : ∀ {ss : List Sym} {i : Nat} {y : Sym}, (ss.map (·.nm)).Nodup → ss[i]? = some y → look ss y.nm = some y
  | [], i, y, _, h => by simp at h
  | z :: ss, 0, y, _, h => by
    cases h
    unfold look
    rw [List.find?_cons]
    simp
  | z :: ss, i + 1, y, nd, h => by
    have h' : ss[i]? = some y := by simpa using h
    rw [List.map_cons, List.nodup_cons] at nd
    have hz : ¬ (z.nm == y.nm) = true := fun e => nd.1 (by rw [eq_of_beq e]; exact List.mem_map_of_mem (List.mem_of_getElem? h'))
    have ih := look_at nd.2 h'
    unfold look at ih ⊢
    rw [List.find?_cons, Bool.eq_false_iff.mpr hz]
    exact ih
theorem Drawn.look {ss : List Sym} {ls : List Int} (D : Drawn ss ls) {i : Nat} {y : Sym} (h : ss[i]? = some y) : Mg.look ss y.nm = some y := look_at (by rw [D.nm]; decide +kernel) h
abbrev slB (a st : Addr) (va vl : V) (p q : Addr) (v6 v7 v8 v9 v10 v11 v12 : Option V) : L2.St := [some (.ref a), some (.ref st), some va, some vl, some (.ref p), some (.ref q), v6, v7, v8, v9, v10, v11, v12, none, none, none, none, none, none, none, none, none, none, none]
theorem lawB (L : Law P w K mg base CF CB CU) (hr : RoomL f cdv A s) {tr : TS} (hrest : PSs (XL P w K mg base f cdv A outer s H0 E) (List.drop 7 (defBody sLaw)) tr) :
    ∃ t, PSs (XL P w K mg base f cdv A outer s H0 E) (List.drop 6 (defBody sLaw)) t ∧ ∀ (D : Ends) (a st pd pl p q : Addr) (va vl : V) (ss : List Sym) (ls : List Int) (H : Hp), Drawn ss ls → LSt K CF H st pd pl p q va vl ss ls →
      (∀ v6 v7 v8 v9 v10 v11 v12 H', LSt K CF H' st pd pl p q va vl ss ls → tr D (slB a st va vl p q v6 v7 v8 v9 v10 v11 v12) H') → t D (slB a st va vl p q none none none none none none none) H := by
  have sc := scLaw
  refine ⟨_, (pss_cons (ps_for PassesOwn.never rfl (pi_tup (pv 2)) (pg_tup rfl (pgs_cons (pg_name (i := 6) sc.nd rfl (Or.inl rfl)) (pgs_cons (pg_name (i := 7) sc.nd rfl (Or.inl rfl)) (pgs_cons (pg_name (i := 8) sc.nd rfl (Or.inl rfl)) (pgs_cons (pg_name (i := 9) sc.nd rfl (Or.inl rfl)) (pgs_cons (pg_name (i := 10) sc.nd rfl (Or.inl rfl)) pgs_nil))))))
  (pss_cons (ps_for PassesOwn.never rfl (pi_range1 rfl L.range (pa_cons pe_int pa_nil)) (pg_name (i := 11) sc.nd rfl (Or.inl rfl))
  (pss_one (ps_if (pt_not (pt_val (pe_cal L.C_law_same (hr.mono (by decide)) rfl pass0 (pa_cons (pe_calm (pv 4) L.O.cl L.C_metrics (hr.mono (by decide)) passN (pa_cons (pv 6) (pa_cons (pv 11) pa_nil))) (pa_cons (pe_callTy call_tuple_of (by rfl) L.b_tuple (by decide +kernel) (pa_cons (pe_cal L.C_law_sizes (hr.mono (by decide)) rfl pass0 (pa_cons (pe_tup (pa_cons (pv 2) (pa_cons (pe_tup pa_nil) pa_nil))) (pa_cons (pv 6) (pa_cons (pv 11) pa_nil)))) pa_nil)) pa_nil)))))
  (pss_one (ps_ret pe_bl))
  pss_nil)))
  (pss_cons (ps_set (i := 12) sc.nd rfl (Or.inl rfl) (pe_op op_mul (pe_cal L.C_law_next (hr.mono (by decide)) rfl pass0 (pa_cons (pv 1) (pa_cons pe_int pa_nil))) pe_int))
  (pss_cons (ps_set (i := 11) sc.nd rfl (Or.inl rfl) (pe_cal L.C_law_next (hr.mono (by decide)) rfl pass0 (pa_cons (pv 1) (pa_cons pe_int pa_nil))))
  (pss_one (ps_if (PW.pt (pw_or (pt_not (pt_val (pe_cal L.C_law_same (hr.mono (by decide)) rfl pass0 (pa_cons (pe_calm (pv 4) L.O.cl L.C_class_of (hr.mono (by decide)) passN (pa_cons (pv 6) pa_nil)) (pa_cons (pv 7) pa_nil))))) (pw_or1 (pt_not (pt_val (pe_cal L.C_law_same (hr.mono (by decide)) rfl pass0 (pa_cons (pe_calm (pv 4) L.O.cl L.C_stretched (hr.mono (by decide)) passN (pa_cons (pv 6) (pa_cons (pv 11) (pa_cons (pv 12) pa_nil)))) (pa_cons (pe_cal L.C_law_stretches (hr.mono (by decide)) rfl pass0 (pa_cons (pv 4) (pa_cons (pv 2) (pa_cons (pv 6) (pa_cons (pv 11) (pa_cons (pv 12) pa_nil)))))) pa_nil))))))))
  (pss_one (ps_ret pe_bl))
  pss_nil))))))
  hrest), fun D a st pd pl p q va vl ss ls H DR LS k => ?_⟩
  obtain ⟨ta, ts, rfl, hts, tl, tg⟩ := syms_get LS.F.syms
  refine ⟨_, rfl, ta, rfl, ⟨_, hts⟩, for_tup (K := K) (a := ta) (xs := ts.map V.ref) (fun i σ H' => ∃ v6 v7 v8 v9 v10 v11 v12, σ = slB a st (.ref ta) vl p q v6 v7 v8 v9 v10 v11 v12 ∧ LSt K CF H' st pd pl p q (.ref ta) vl ss ls ∧ TupK H H')
    ⟨none, none, none, none, none, none, none, rfl, LS, fun _ _ e => e⟩ (fun i σ H' _ ⟨_, _, _, _, _, _, _, _, _, tk⟩ => tk.seq hts) ?_ ?_⟩
  · rintro i x σ H1 hx ⟨v6, v7, v8, v9, v10, v11, v12, rfl, LS1, tk1⟩
    obtain ⟨t, y, ht, hy, rfl⟩ : ∃ t y, ts[i]? = some t ∧ ss[i]? = some y ∧ x = V.ref t := by
      rw [List.getElem?_map] at hx
      cases e : ts[i]? with
      | none =>
        rw [e] at hx
        cases hx
      | some t =>
        rw [e] at hx
        have hi : i < ss.length := by
          rw [← tl]
          exact (List.getElem?_eq_some_iff.mp e).1
        exact ⟨t, ss[i], rfl, List.getElem?_eq_getElem hi, (Option.some.inj hx).symm⟩
    have hlook := DR.look hy
    have hmem : y ∈ ss := List.mem_of_getElem? hy
    have hlen := DR.pre y hmem
    obtain ⟨yc, y1, y2, y3, y4, y5, y6⟩ := DR.ok y hmem
    refine ⟨t, _, rfl, tk1.seq (tg i t y ht hy), rfl, V.str y.nm, _, rfl, V.str y.cl, _, rfl, V.int y.wd, _, rfl, V.int y.ht, _, rfl, V.int y.dp, _, rfl, rfl, ?_⟩
    refine ⟨4, rfl, by decide, by decide, for_range (n := 4) (fun j σ H' => ∃ v11, σ = slB a st (.ref ta) vl p q (some (.str y.nm)) (some (.str y.cl)) (some (.int y.wd)) (some (.int y.ht)) (some (.int y.dp)) v11 v12 ∧ LSt K CF H' st pd pl p q (.ref ta) vl ss ls ∧ TupK H H')
      ⟨v11, rfl, LS1, tk1⟩ ?_ ?_⟩
    · rintro j σ H2 hj ⟨v11', rfl, LS2, tk2⟩
      obtain ⟨dx, e, h1⟩ := LS2.F.ins
      refine ⟨_, rfl, p, dx, _, rfl, h1, no_metrics_name _ _ _, _, rfl, _, rfl, p, y.nm, _, _, _, ss, ls, rfl, hlen, LS2.F, fun y' t' H3 hl' s3 ht' => ?_, fun hn => by rw [hlook] at hn; cases hn⟩
      obtain rfl : y = y' := by
        rw [hlook] at hl'
        exact Option.some.inj hl'
      refine ⟨_, rfl, Nat.zero_le _, fun y0 h0 => ⟨(by show 2 ≤ sizeLine; decide), fun z hz => ?_⟩⟩
      have s4 := (same_new (o := .tup []) h0).trans (same_new (o := .tup [V.ref ta, V.ref y0]) hz)
      refine ⟨_, rfl, _, rfl, z, ta, .ref y0, y.nm, _, ss, y, rfl, SqT.of upd_same, (LS2.F.same (s3.trans s4)).syms, hlook, by omega, by omega, fun l H5 s5 nl hl5 => ?_⟩
      refine ⟨l, _, rfl, .inl ⟨SqL.of hl5, fun r nr => ?_⟩⟩
      have s6 : Same H3 (upd H5 r (.tup ((y.m (0 + (j : Int))).map V.int))) := s4.trans (s5.trans (same_new nr))
      refine ⟨.ref t', .ref r, lensD (y.m (0 + (j : Int))), rfl, (tp_of_ints (SqT.of (s6 _ _ ht'))).dp, (tp_of_ints (SqT.of upd_same)).dp, Nat.le_trans (Nat.succ_le_succ (dep_ints _)) (by decide), _, rfl, iteF ?_⟩
      exact ⟨_, rfl, LS2.same (s3.trans s6), tk2.trans (TupK.of (s3.trans s6))⟩
    · rintro σ H2 ⟨v11', rfl, LS2, tk2⟩
      refine ⟨_, rfl, st, pd, pl, 60, rfl, by decide, LS2.S, fun n H3 n0 n1 k3 S3 => ⟨_, _, rfl, rfl, .inr ⟨by decide, by decide⟩, ?_⟩⟩
      obtain ⟨kk, hpl⟩ := LS2.S.pl
      have LS3 := LS2.keep k3 S3
      refine ⟨_, rfl, st, pd, pl, 4, rfl, by decide, LS3.S, fun m H4 m0 m1 k4 S4 => ?_⟩
      obtain ⟨kk3, hpl3⟩ := LS3.S.pl
      have LS4 := LS3.keep k4 S4
      have tk4 : TupK H H4 := (tk2.trans (TupK.keep k3 hpl)).trans (TupK.keep k4 hpl3)
      obtain ⟨dx, e, h1⟩ := LS4.F.ins
      obtain ⟨a1, a2, a3, a4, a5, a6, a7, a8, el, b1, b2, b3, b4, b5, b6, b7, b8, b9⟩ := DR.lens
      have h7 : ls[7]? = some a8 := by
        rw [el]
        rfl
      refine ⟨_, rfl, p, dx, _, rfl, h1, no_class_of_name _ _ _, _, rfl, p, y.nm, _, _, ss, ls, rfl, hlen, LS4.F, fun y' hl' => ?_, fun hn => by rw [hlook] at hn; cases hn⟩
      obtain rfl : y = y' := by
        rw [hlook] at hl'
        exact Option.some.inj hl'
      refine ⟨_, rfl, .str y.cl, .str y.cl, .str y.cl, rfl, .str _, .str _, Nat.zero_le _, _, rfl, iteF ?_⟩
      refine ⟨_, rfl, p, dx, _, rfl, h1, no_stretched_name _ _ _, _, rfl, _, rfl, _, rfl, p, y.nm, _, _, _, _, ss, ls, a8, rfl, hlen, LS4.F, h7, by omega, by omega, fun y' H5 hl2 s5 => ?_, fun hn => by rw [hlook] at hn; cases hn⟩
      obtain rfl : y = y' := by
        rw [hlook] at hl2
        exact Option.some.inj hl2
      refine ⟨_, rfl, _, rfl, _, rfl, _, rfl, _, rfl, p, _, _, y.nm, _, _, ss, ls, y, a8, rfl, LS4.F.same s5, hlook, h7, m0, by omega, b8, by omega, y3, y5, by omega, fun H6 s6 => ?_⟩
      refine ⟨.int _, .int _, .int _, rfl, .int _, .int _, Nat.zero_le _, _, rfl, iteF ?_⟩
      exact ⟨_, _, _, _, _, _, _, rfl, LS4.same (s5.trans s6), tk4.trans (TupK.of (s5.trans s6))⟩
  · rintro σ H1 ⟨v6, v7, v8, v9, v10, v11, v12, rfl, LS1, _⟩
    exact k v6 v7 v8 v9 v10 v11 v12 H1 LS1
end
end Mg

set_option Elab.async false
set_option linter.all false
set_option maxRecDepth 100000
set_option maxHeartbeats 4000000
namespace Mg
open PySem L2
/-! what an expression makes is data: new objects only -/
def Ev (K : PySem.W.Frag) (te : TE) (σ : L2.St) (H : Hp) (d : PyData) : Prop := ∀ H1, Same H H1 → ∀ Q : VK, (∀ v H2, Same H1 H2 → Dp K H2 v d → Q v H2) → te σ H1 Q
def EvA (K : PySem.W.Frag) (ta : TA) (σ : L2.St) (H : Hp) (ds : List PyData) : Prop := ∀ H1, Same H H1 → ∀ Q : List V → Hp → Prop, (∀ vs H2, Same H1 H2 → DpAll K H2 vs ds → Q vs H2) → ta σ H1 Q
def EvL (K : PySem.W.Frag) (te : TE) (σ : L2.St) (H : Hp) (ds : List PyData) : Prop := ∀ H1, Same H H1 → ∀ Q : VK, (∀ l xs H2, Same H1 H2 → H2 l = some (.lst xs) → DpAll K H2 xs ds → Q (.ref l) H2) → te σ H1 Q
def EvO (tl : TO) (σ : L2.St) (lo : Option Int) : Prop := ∀ (H : Hp) (Q : Option Int → Hp → Prop), Q lo H → tl σ H Q
def cutD (ds : List PyData) (lo hi : Option Int) : List PyData := (ds.drop (HT.sIx ds.length 0 lo)).take (HT.sIx ds.length ds.length hi - HT.sIx ds.length 0 lo)
section
variable {K : PySem.W.Frag} {σ : L2.St} {H : Hp} {te te' : TE} {ta : TA} {d d' : PyData} {ds ds' : List PyData} {tl th : TO} {lo hi : Option Int}
theorem sz1000 {n : Nat} (h : n ≤ 1000) : n ≤ sizeLine := by
  rw [sizeLine_eq]
  omega
theorem ev_int (i : Int) : Ev K (tC (.int i)) σ H (.int i) := fun H1 _ Q k => k _ H1 (Same.refl _) (.int i)
theorem ev_str (x : Str) : Ev K (tC (.str x)) σ H (.str x) := fun H1 _ Q k => k _ H1 (Same.refl _) (.str x)
theorem ev_non : Ev K (tC .non) σ H .none := fun H1 _ Q k => k _ H1 (Same.refl _) .non
theorem ev_neg (i : Int) : Ev K (tUn (rU fun i => V.int (-i)) (tC (.int i))) σ H (.int (-i)) := fun H1 _ Q k => ⟨i, rfl, k _ H1 (Same.refl _) (.int _)⟩
theorem ev_var {i : Nat} {v : V} (hv : σ[i]? = some (some v)) (h : Dp K H v d) : Ev K (tVar i) σ H d := fun H1 s Q k => ⟨v, hv, k v H1 (Same.refl _) (Dp_same s h)⟩
theorem Ev.mono {H' : Hp} (h : Ev K te σ H d) (s : Same H H') : Ev K te σ H' d := fun H1 s1 Q k => h H1 (s.trans s1) Q k
theorem EvA.mono {H' : Hp} (h : EvA K ta σ H ds) (s : Same H H') : EvA K ta σ H' ds := fun H1 s1 Q k => h H1 (s.trans s1) Q k
theorem eva_nil : EvA K tNil σ H [] := fun H1 _ Q k => k _ H1 (Same.refl _) .nil
theorem eva_cons (h : Ev K te σ H d) (hs : EvA K ta σ H ds) : EvA K (tCons te ta) σ H (d :: ds) := fun H1 s Q k => h H1 s _ fun v H2 s2 hd => hs H2 (s.trans s2) _ fun vs H3 s3 hds => k _ H3 (s2.trans s3) (.cons (Dp_same s3 hd) hds)
theorem ev_tup (h : EvA K ta σ H ds) (hl : ds.length ≤ 1000) : Ev K (tTup ta) σ H (.tuple ds) := fun H1 s Q k => h H1 s _ fun vs H2 s2 hds => ⟨by rw [DpAll.len hds]; exact sz1000 hl, fun p hp => k _ _ (s2.trans (same_new hp)) (.tup (SqT.of upd_same) (DpAll_same (same_new hp) hds))⟩
theorem evl_lst (h : EvA K ta σ H ds) (hl : ds.length ≤ 1000) : EvL K (tLst ta) σ H ds := fun H1 s Q k => h H1 s _ fun vs H2 s2 hds => ⟨by rw [DpAll.len hds]; exact sz1000 hl, fun p hp => k _ _ _ (s2.trans (same_new hp)) upd_same (DpAll_same (same_new hp) hds)⟩
theorem EvL.ev (h : EvL K te σ H ds) : Ev K te σ H (.list ds) := fun H1 s Q k => h H1 s Q fun l xs H2 s2 e hx => k _ H2 s2 (.lst (SqL.of e) hx)
theorem evl_var {i : Nat} {l : Addr} {xs : List V} (hv : σ[i]? = some (some (.ref l))) (e : H l = some (.lst xs)) (h : DpAll K H xs ds) : EvL K (tVar i) σ H ds := fun H1 s Q k => ⟨_, hv, k l xs H1 (Same.refl _) (s _ _ e) (DpAll_same s h)⟩
theorem dp_tup_inv {v : V} (h : Dp K H v (.tuple ds)) : ∃ a xs, v = .ref a ∧ SqT K H a xs ∧ DpAll K H xs ds := by
  cases h with
  | tup a b => exact ⟨_, _, rfl, a, b⟩
theorem dpAll_append : ∀ {ds ds' : List PyData} {vs us : List V}, DpAll K H vs ds → DpAll K H us ds' → DpAll K H (vs ++ us) (ds ++ ds')
  | [], _, _, _, h, g => by
    cases h
    exact g
  | _ :: _, _, _, _, h, g => by
    cases h with
    | cons a b => exact .cons a (dpAll_append b g)
theorem dpAll_drop : ∀ {ds : List PyData} {vs : List V} (n : Nat), DpAll K H vs ds → DpAll K H (vs.drop n) (ds.drop n)
  | _, _, 0, h => h
  | [], _, n + 1, h => by
    cases h
    exact .nil
  | _ :: _, _, n + 1, h => by
    cases h with
    | cons a b => exact dpAll_drop n b
theorem dpAll_take : ∀ {ds : List PyData} {vs : List V} (n : Nat), DpAll K H vs ds → DpAll K H (vs.take n) (ds.take n)
  | ds, vs, 0, h => by
    rw [List.take_zero, List.take_zero]
    exact .nil
  | [], _, n + 1, h => by
    cases h
    exact .nil
  | _ :: _, _, n + 1, h => by
    cases h with
    | cons a b => exact .cons a (dpAll_take n b)
theorem dpAll_rep {vs : List V} (h : DpAll K H vs ds) : ∀ n, DpAll K H (List.replicate n vs).flatten (List.replicate n ds).flatten
  | 0 => .nil
  | n + 1 => by
    rw [List.replicate_succ, List.replicate_succ, List.flatten_cons, List.flatten_cons]
    exact dpAll_append h (dpAll_rep h n)
theorem dpAll_cut {vs : List V} (h : DpAll K H vs ds) : DpAll K H (cutV vs lo hi) (cutD ds lo hi) := by
  unfold cutV cutD
  rw [DpAll.len h]
  exact dpAll_take _ (dpAll_drop _ h)
theorem ne_nil {vs : List V} (h : DpAll K H vs ds) (n : ds ≠ []) : vs ≠ [] := fun e => n (by rw [e] at h; cases h; rfl)
theorem evo_no : EvO tNoPart σ none := fun _ _ q => q
theorem evo_int (i : Int) : EvO (tPart (tC (.int i))) σ (some i) := fun _ _ q => ⟨i, rfl, q⟩
theorem evo_var {i : Nat} {n : Int} (hv : σ[i]? = some (some (.int n))) : EvO (tPart (tVar i)) σ (some n) := fun _ _ q => ⟨_, hv, n, rfl, q⟩
theorem evo_varp {i : Nat} {n m : Int} (hv : σ[i]? = some (some (.int n))) : EvO (tPart (tOp (rI0 fun i j => .int (i + j)) (tVar i) (tC (.int m)))) σ (some (n + m)) := fun _ _ q => ⟨_, hv, n, m, rfl, rfl, _, rfl, q⟩
theorem ev_sl (h : Ev K te σ H (.tuple ds)) (hl : EvO tl σ lo) (hh : EvO th σ hi) (n : ¬ (HT.sIx ds.length 0 lo = 0 ∧ HT.sIx ds.length ds.length hi = ds.length)) : Ev K (tSl (rSlT K) te tl th) σ H (.tuple (cutD ds lo hi)) := fun H1 s Q k =>
  h H1 s _ fun v H2 s2 hd => hl _ _ (hh _ _ (by
    obtain ⟨a, xs, rfl, hs, hx⟩ := dp_tup_inv hd
    exact ⟨a, xs, rfl, hs, by rw [DpAll.len hx]; exact n, fun p hp => k _ _ (s2.trans (same_new hp)) (.tup (SqT.of upd_same) (DpAll_same (same_new hp) (dpAll_cut hx)))⟩))
theorem cutD_all (h1 : HT.sIx ds.length 0 lo = 0) (h2 : HT.sIx ds.length ds.length hi = ds.length) : cutD ds lo hi = ds := by
  unfold cutD
  rw [h1, h2, List.drop_zero, Nat.sub_zero, List.take_length]
theorem ev_slA (h : Ev K te σ H (.tuple ds)) (hl : EvO tl σ lo) (hh : EvO th σ hi) : Ev K (tSl (rSlA K) te tl th) σ H (.tuple (cutD ds lo hi)) := fun H1 s Q k =>
  h H1 s _ fun v H2 s2 hd => hl _ _ (hh _ _ (by
    obtain ⟨a, xs, rfl, hs, hx⟩ := dp_tup_inv hd
    refine ⟨a, xs, rfl, hs, fun e => ?_, fun _ p hp => k _ _ (s2.trans (same_new hp)) (.tup (SqT.of upd_same) (DpAll_same (same_new hp) (dpAll_cut hx)))⟩
    rw [DpAll.len hx] at e
    rw [cutD_all e.1 e.2] at k
    exact k _ _ s2 hd))
theorem ev_cat (h : Ev K te σ H (.tuple ds)) (h' : Ev K te' σ H (.tuple ds')) (n : ds ≠ []) (hl : ds.length + ds'.length ≤ 1000) : Ev K (tOp (rCatT K) te te') σ H (.tuple (ds ++ ds')) := fun H1 s Q k =>
  h H1 s _ fun v H2 s2 hd => h' H2 (s.trans s2) _ fun v' H3 s3 hd' => by
    obtain ⟨a, xs, rfl, hs, hx⟩ := dp_tup_inv (Dp_same s3 hd)
    obtain ⟨b, ys, rfl, hs', hy⟩ := dp_tup_inv hd'
    refine ⟨a, b, xs, ys, rfl, rfl, hs, hs', ne_nil hx n, by rw [DpAll.len hx, DpAll.len hy]; exact sz1000 hl, fun e => ?_, fun _ p hp => k _ _ ((s2.trans s3).trans (same_new hp)) (.tup (SqT.of upd_same) (DpAll_same (same_new hp) (dpAll_append hx hy)))⟩
    subst e
    cases hy
    rw [List.append_nil] at k
    exact k _ _ (s2.trans s3) (.tup hs hx)
theorem ev_rep {n : Int} (h : Ev K te σ H (.tuple ds)) (n0 : ds ≠ []) (h2 : 2 ≤ n) (h3 : n ≤ 1000) (hl : ds.length ≤ 1000) : Ev K (tOp (rRepT K) te (tC (.int n))) σ H (.tuple (List.replicate n.toNat ds).flatten) := fun H1 s Q k =>
  h H1 s _ fun v H2 s2 hd => by
    obtain ⟨a, xs, rfl, hs, hx⟩ := dp_tup_inv hd
    exact ⟨a, n, xs, rfl, rfl, hs, ne_nil hx n0, h2, h3, by rw [DpAll.len hx]; exact hl, fun p hp => k _ _ (s2.trans (same_new hp)) (.tup (SqT.of upd_same) (DpAll_same (same_new hp) (dpAll_rep hx _)))⟩
theorem ev_listOf (h : Ev K te σ H (.tuple ds)) : EvL K (tCB (fun xs H Q => ∃ p ys, xs = [.ref p] ∧ (SqL K H p ys ∨ SqT K H p ys) ∧ ∀ l, H l = none → Q (.ref l) (upd H l (.lst ys))) (tCons te tNil)) σ H ds := fun H1 s Q k =>
  h H1 s _ fun v H2 s2 hd => by
    obtain ⟨a, xs, rfl, hs, hx⟩ := dp_tup_inv hd
    exact ⟨a, xs, rfl, .inr hs, fun l hl => k _ _ _ (s2.trans (same_new hl)) upd_same (DpAll_same (same_new hl) hx)⟩
theorem evl_cat (h : EvL K te σ H ds) (h' : EvL K te' σ H ds') (hl : ds.length + ds'.length ≤ 1000) : EvL K (tOp rCat te te') σ H (ds ++ ds') := fun H1 s Q k =>
  h H1 s _ fun l xs H2 s2 e hx => h' H2 (s.trans s2) _ fun b zs H3 s3 e' hz => ⟨l, b, xs, zs, rfl, rfl, s3 _ _ e, e', by rw [DpAll.len hx, DpAll.len hz]; exact sz1000 hl, fun p hp => k _ _ _ ((s2.trans s3).trans (same_new hp)) upd_same (DpAll_same (same_new hp) (dpAll_append (DpAll_same s3 hx) hz))⟩
/-- _law_is_bad(..) of data -/
theorem ev_bad {e0 : XK} {b : PyData} {l : PyData} {H1 : Hp} {Q : VK} (h : EvA K ta σ H [b, l]) (pre : PreS b) (s : Same H H1) (k : ∀ H2, Same H1 H2 → Q (.bl (!(areSymbols b && areLengths l))) H2) : tCall (spIsBad K) [] e0 ta σ H1 Q :=
  h H1 s _ fun vs H2 s2 hd => by
    cases hd with
    | cons a r =>
      cases r with
      | cons c r =>
        cases r
        exact ⟨_, _, b, l, rfl, a, c, pre, fun H3 s3 => k H3 (s2.trans s3)⟩
end
def preEB : PyData → Bool
  | .tuple [n, k, _, _, _] => (match n with | .str s => decide (s.length ≤ 1000) | _ => true) && flatD k
  | _ => true
def preSB : PyData → Bool
  | .tuple ds => ds.all preEB
  | _ => true
theorem preE_of {d : PyData} (h : preEB d = true) : PreE d := by
  unfold PreE
  split
  · rename_i n k a b c
    have h' : preEB (.tuple [n, k, a, b, c]) = true := h
    simp only [preEB, Bool.and_eq_true] at h'
    refine ⟨fun s e => ?_, h'.2⟩
    subst e
    exact of_decide_eq_true h'.1
  · trivial
theorem preS_of {d : PyData} (h : preSB d = true) : PreS d := by
  cases d with
  | tuple ds =>
    intro e he
    exact preE_of (List.all_eq_true.mp h e he)
  | none => trivial
  | bool _ => trivial
  | int _ => trivial
  | str _ => trivial
  | list _ => trivial
  | dict _ => trivial
end Mg

set_option Elab.async false
set_option linter.all false
set_option maxRecDepth 100000
set_option maxHeartbeats 4000000
namespace Mg
open PySem L2
section
variable {P : Program} {w : World} {K : PySem.W.Frag} {mg : Str → Option Value} {base : Heap} {CF CB CU : Addr} {f : Addr} {cdv : Value} {A : Around} {outer : List Env} {s : Shared} {H0 : Hp} {E : XK}
abbrev goodD : PyData := .tuple [.str "x", .str "ord", .int 1, .int 2, .int 3]
abbrev slC (a st : Addr) (va vl : V) (p q : Addr) (v6 v7 v8 v9 v10 v11 v12 v13 v14 v15 : Option V) : L2.St := [some (.ref a), some (.ref st), some va, some vl, some (.ref p), some (.ref q), v6, v7, v8, v9, v10, v11, v12, v13, v14, v15, none, none, none, none, none, none, none, none]
theorem lawC1 (L : Law P w K mg base CF CB CU) (hr : RoomL f cdv A s) {tr : TS} (hrest : PSs (XL P w K mg base f cdv A outer s H0 E) (List.drop 9 (defBody sLaw)) tr) :
    ∃ t, PSs (XL P w K mg base f cdv A outer s H0 E) (List.drop 7 (defBody sLaw)) t ∧ ∀ (D : Ends) (a st pd pl p q : Addr) (va vl : V) (ss : List Sym) (ls : List Int) (v6 v7 v8 v9 v10 v11 v12 : Option V) (H : Hp), LSt K CF H st pd pl p q va vl ss ls →
      (∀ (g : Addr) (H' : Hp), LSt K CF H' st pd pl p q va vl ss ls → Dp K H' (.ref g) goodD → tr D (slC a st va vl p q v6 v7 v8 v9 v10 v11 v12 (some (.ref g)) none none) H') → t D (slB a st va vl p q v6 v7 v8 v9 v10 v11 v12) H := by
  have sc := scLaw
  refine ⟨_, (pss_cons (ps_if (pt_not (pt_val (pe_cal L.C_law_same (hr.mono (by decide)) rfl pass0 (pa_cons (pe_lc (own := [("style", 11)]) rfl sc.nd (pi_range1 rfl L.range (pa_cons pe_int pa_nil)) (blkOk_by (own := [("style", 11)]) (N := ["script", "stream", "symbols", "lengths", "font", "other", "name", "kind", "width", "height", "depth", "style", "length", "good", "wrong", "bad", "names", "many", "kinds", "turned", "least", "most", "k", "row"]) (sc := defScope sLaw) (by decide +kernel)) (fun _ _ _ _ _ => (pg_name (i := 11) sc.nd rfl (Or.inl rfl))) (fun _ _ _ _ _ => pts_nil) (fun _ _ _ _ _ => (pe_cal L.C_scaled (hr.mono (by decide)) rfl pass0 (pa_cons pe_int (pa_cons (pv 11) pa_nil))))) (pa_cons (pe_lst (pa_cons pe_int (pa_cons pe_int (pa_cons pe_int (pa_cons pe_int pa_nil))))) pa_nil)))))
  (pss_one (ps_ret pe_bl))
  pss_nil)
  (pss_cons (ps_set (i := 13) sc.nd rfl (Or.inl rfl) (pe_tup (pa_cons pe_str (pa_cons pe_str (pa_cons pe_int (pa_cons pe_int (pa_cons pe_int pa_nil)))))))
  hrest)), fun D a st pd pl p q va vl ss ls v6 v7 v8 v9 v10 v11 v12 H LS k => ?_⟩
  refine ⟨4, rfl, by decide, by decide, fun Dl hD => ?_⟩
  refine lc_pure (([999, 999, 699, 499] : List Int).map V.int) hD (by show 4 ≤ sizeLine; decide) (fun i H' hi s => hi) (fun H' s => Nat.le_refl _) ?_ ?_
  · rintro i x H1 H2 R Z hi s1 ⟨rfl, rfl⟩ kR
    have hi4 : i < 4 := hi
    refine ⟨rfl, ?_⟩
    refine ⟨_, rfl, 999, _, rfl, kR _ _ ?_ (Same.refl _)⟩
    match i, hi4 with
    | 0, _ => rfl
    | 1, _ => rfl
    | 2, _ => rfl
    | 3, _ => rfl
  · intro H1 s1 e1
    refine ⟨(by show 4 ≤ sizeLine; decide), fun l2 n2 => ?_⟩
    have s2 : Same H (upd H1 l2 (.lst [.int 999, .int 999, .int 699, .int 499])) := s1.trans (same_new n2)
    refine ⟨.ref Dl, .ref l2, .list ([999, 999, 699, 499].map PyData.int), rfl, .lst (SqL.of (same_new n2 _ _ e1)) (.cons (.int _) (.cons (.int _) (.cons (.int _) (.cons (.int _) .nil)))), .lst (SqL.of upd_same) (.cons (.int _) (.cons (.int _) (.cons (.int _) (.cons (.int _) .nil)))), by decide, _, rfl, iteF ?_⟩
    refine ⟨(by show 5 ≤ sizeLine; decide), fun g ng => ?_⟩
    refine k g _ (LS.same (s2.trans (same_new ng))) (.tup (SqT.of upd_same) (.cons (.str _) (.cons (.str _) (.cons (.int _) (.cons (.int _) (.cons (.int _) .nil))))))
theorem rd_set {te : TE} {i : Nat} {tb : TS} {D : Ends} {σ : L2.St} {H : Hp} (h : te σ H fun v H1 => tb D (σ.set i (some v)) H1) : tSeq (tAsg te (gName i)) tb D σ H := h
theorem bad_loop {X : L2.St → Hp → Prop} {H1 : Hp} {wl : Addr} {xs : List V} {ds : List PyData} {vl : V} {ls : List Int} (he : H1 wl = some (.lst xs)) (hx : DpAll K H1 xs ds) {i : Nat} {x : V} (hi : xs[i]? = some x) (hb : ∀ d ∈ ds, areSymbols d = false ∧ preSB d = true) :
    ∃ d, Dp K H1 x d ∧ areSymbols d = false ∧ PreS d := by
  obtain ⟨d, hd⟩ : ∃ d, ds[i]? = some d := by
    have : i < ds.length := by
      rw [← DpAll.len hx]
      exact (List.getElem?_eq_some_iff.mp hi).1
    exact ⟨_, List.getElem?_eq_getElem this⟩
  obtain ⟨v, h1, h2⟩ := DpAll.get hx hd
  rw [hi] at h1
  cases h1
  obtain ⟨b1, b2⟩ := hb d (List.mem_of_getElem? hd)
  exact ⟨d, h2, b1, preS_of b2⟩
theorem rd_badfor {te : TE} {ds : List PyData} {vl : V} {v0 : Option V} {l : PyData} {tb : TS} {D : Ends} {σ : L2.St} {H : Hp} {e0 : XK} {b0 : TS} (hl : EvL K te σ H ds) (hσ : σ.set 15 v0 = σ) (h15 : 15 < σ.length) (hv : σ[3]? = some (some vl)) (hd : Dp K H vl l)
    (hb : ∀ d ∈ ds, areSymbols d = false ∧ preSB d = true) (k : ∀ v15 H', Same H H' → tb D (σ.set 15 v15) H') :
    tSeq (tFor (iList K te) (gName 15) (tIfS (tNot (tB (tCall (spIsBad K) [] e0 (tCons (tVar 15) (tCons (tVar 3) tNil))))) b0 tNext)) tb D σ H := by
  refine hl H (Same.refl _) _ fun a xs H1 s1 e1 hx => ?_
  refine ⟨a, rfl, ⟨_, SqL.of e1⟩, for_list (K := K) (a := a) (xs := xs) (fun i σ' H' => ∃ v, σ' = σ.set 15 v ∧ Same H1 H') ⟨v0, hσ.symm, Same.refl _⟩ (fun i σ' H' _ p => SqL.of (by obtain ⟨_, _, s2⟩ := p; exact s2 _ _ e1)) ?_ ?_⟩
  · rintro i x σ' H2 hi ⟨v, rfl, s2⟩
    obtain ⟨d, d1, d2, d3⟩ := bad_loop (X := fun _ _ => True) (vl := vl) (ls := []) e1 hx hi hb
    have q15 : ((σ.set 15 v).set 15 (some x))[15]? = some (some x) := by simp [h15]
    have q3 : ((σ.set 15 v).set 15 (some x))[3]? = some (some vl) := by simp [hv]
    refine ⟨x, q15, vl, q3, x, vl, d, l, rfl, Dp_same s2 d1, Dp_same (s1.trans s2) hd, d3, fun H3 s3 => ?_⟩
    rw [d2]
    exact ⟨_, rfl, iteF ⟨some x, by simp, s2.trans s3⟩⟩
  · rintro σ' H2 ⟨v, rfl, s2⟩
    exact k v H2 (s1.trans s2)
theorem lawC2 (L : Law P w K mg base CF CB CU) (hr : RoomL f cdv A s) {tr : TS} (hrest : PSs (XL P w K mg base f cdv A outer s H0 E) (List.drop 13 (defBody sLaw)) tr) :
    ∃ t, PSs (XL P w K mg base f cdv A outer s H0 E) (List.drop 9 (defBody sLaw)) t ∧ ∀ (D : Ends) (a st pd pl p q : Addr) (va vl : V) (ss : List Sym) (ls : List Int) (v6 v7 v8 v9 v10 v11 v12 : Option V) (g : Addr) (H : Hp), LSt K CF H st pd pl p q va vl ss ls → Dp K H (.ref g) goodD →
      (∀ (v14 v15 : Option V) (H' : Hp), LSt K CF H' st pd pl p q va vl ss ls → Dp K H' (.ref g) goodD → tr D (slC a st va vl p q v6 v7 v8 v9 v10 v11 v12 (some (.ref g)) v14 v15) H') → t D (slC a st va vl p q v6 v7 v8 v9 v10 v11 v12 (some (.ref g)) none none) H := by
  have sc := scLaw
  refine ⟨_, (pss_cons (ps_set (i := 14) sc.nd rfl (Or.inl rfl) (pe_lst (pa_cons (pe_tup pa_nil) (pa_cons (pe_lst (pa_cons (pv 13) pa_nil)) (pa_cons (pe_tup (pa_cons (pv 13) (pa_cons (pv 13) pa_nil))) (pa_cons (pe_op op_repT (pe_tup (pa_cons (pv 13) pa_nil)) pe_int) (pa_cons (pe_tup (pa_cons (pe_callTy call_list_of (by rfl) L.b_list (by decide +kernel) (pa_cons (pv 13) pa_nil)) pa_nil)) (pa_cons (pe_tup (pa_cons (pe_slice sl_tup (pv 13) po_none (po_some pe_int)) pa_nil)) (pa_cons (pe_tup (pa_cons (pe_op op_catT (pv 13) (pe_tup (pa_cons pe_int pa_nil))) pa_nil)) (pa_cons (pe_tup (pa_cons (pe_op op_catT (pe_tup (pa_cons pe_str pa_nil)) (pe_slice sl_tup (pv 13) (po_some pe_int) po_none)) pa_nil)) (pa_cons (pe_tup (pa_cons (pe_op op_catT (pe_tup (pa_cons pe_str pa_nil)) (pe_slice sl_tup (pv 13) (po_some pe_int) po_none)) pa_nil)) pa_nil)))))))))))
  (pss_cons (ps_set (i := 14) sc.nd rfl (Or.inl rfl) (pe_op op_cat (pv 14) (pe_lst (pa_cons (pe_tup (pa_cons (pe_tup (pa_cons pe_str (pa_cons pe_str (pa_cons pe_int (pa_cons pe_int (pa_cons pe_int pa_nil)))))) pa_nil)) (pa_cons (pe_tup (pa_cons (pe_tup (pa_cons pe_str (pa_cons pe_non (pa_cons pe_int (pa_cons pe_int (pa_cons pe_int pa_nil)))))) pa_nil)) (pa_cons (pe_tup (pa_cons (pe_tup (pa_cons pe_str (pa_cons pe_str (pa_cons (pe_un un_neg pe_int) (pa_cons pe_int (pa_cons pe_int pa_nil)))))) pa_nil)) (pa_cons (pe_tup (pa_cons (pe_tup (pa_cons pe_str (pa_cons pe_str (pa_cons pe_int (pa_cons pe_int (pa_cons pe_int pa_nil)))))) pa_nil)) (pa_cons (pe_tup (pa_cons (pe_tup (pa_cons pe_str (pa_cons pe_str (pa_cons pe_int (pa_cons pe_int (pa_cons pe_str pa_nil)))))) pa_nil)) (pa_cons (pe_tup (pa_cons (pe_tup (pa_cons pe_str (pa_cons pe_str (pa_cons pe_int (pa_cons pe_int (pa_cons pe_int pa_nil)))))) pa_nil)) (pa_cons (pe_tup (pa_cons pe_non pa_nil)) pa_nil))))))))))
  (pss_cons (ps_for PassesOwn.never rfl (pi_list (pv 14)) (pg_name (i := 15) sc.nd rfl (Or.inl rfl))
  (pss_one (ps_if (pt_not (pt_val (pe_cal L.C_law_is_bad (hr.mono (by decide)) rfl pass0 (pa_cons (pv 15) (pa_cons (pv 3) pa_nil)))))
  (pss_one (ps_ret pe_bl))
  pss_nil)))
  (pss_cons (ps_for PassesOwn.never rfl (pi_list (pe_lst (pa_cons (pe_tup (pa_cons (pe_tup (pa_cons pe_str (pa_cons pe_str (pa_cons pe_int (pa_cons pe_int (pa_cons pe_int pa_nil)))))) pa_nil)) (pa_cons (pe_tup (pa_cons (pe_tup (pa_cons pe_str (pa_cons pe_str (pa_cons pe_int (pa_cons (pe_un un_neg pe_int) (pa_cons pe_int pa_nil)))))) pa_nil)) (pa_cons (pe_tup (pa_cons (pe_tup (pa_cons pe_str (pa_cons pe_str (pa_cons pe_int (pa_cons pe_int (pa_cons (pe_un un_neg pe_int) pa_nil)))))) pa_nil)) (pa_cons (pe_tup (pa_cons (pe_tup (pa_cons pe_str (pa_cons pe_str (pa_cons pe_int (pa_cons pe_int (pa_cons pe_int pa_nil)))))) pa_nil)) pa_nil)))))) (pg_name (i := 15) sc.nd rfl (Or.inl rfl))
  (pss_one (ps_if (pt_not (pt_val (pe_cal L.C_law_is_bad (hr.mono (by decide)) rfl pass0 (pa_cons (pv 15) (pa_cons (pv 3) pa_nil)))))
  (pss_one (ps_ret pe_bl))
  pss_nil)))
  hrest)))), fun D a st pd pl p q va vl ss ls v6 v7 v8 v9 v10 v11 v12 g H LS hg k => ?_⟩
  have vg : ∀ {σ : L2.St} {H' : Hp}, σ[13]? = some (some (V.ref g)) → Dp K H' (.ref g) goodD → Ev K (tVar 13) σ H' goodD := fun e d => ev_var e d
  have eg := vg (σ := slC a st va vl p q v6 v7 v8 v9 v10 v11 v12 (some (.ref g)) none none) rfl hg
  have h1 : Ev K (tTup tNil) (slC a st va vl p q v6 v7 v8 v9 v10 v11 v12 (some (.ref g)) none none) H (.tuple []) := ev_tup eva_nil (by decide)
  have h2 : Ev K (tLst (tCons (tVar 13) tNil)) (slC a st va vl p q v6 v7 v8 v9 v10 v11 v12 (some (.ref g)) none none) H (.list [goodD]) := (evl_lst (eva_cons eg eva_nil) (by decide)).ev
  have h3 : Ev K (tTup (tCons (tVar 13) (tCons (tVar 13) tNil))) (slC a st va vl p q v6 v7 v8 v9 v10 v11 v12 (some (.ref g)) none none) H (.tuple [goodD, goodD]) := ev_tup (eva_cons eg (eva_cons eg eva_nil)) (by decide)
  have h4 : Ev K (tOp (rRepT K) (tTup (tCons (tVar 13) tNil)) (tC (.int 61))) (slC a st va vl p q v6 v7 v8 v9 v10 v11 v12 (some (.ref g)) none none) H (.tuple (List.replicate 61 [goodD]).flatten) := ev_rep (n := 61) (ev_tup (eva_cons eg eva_nil) (by decide)) (fun z => nomatch z) (by decide) (by decide) (by decide)
  have h5 := ev_tup (eva_cons (ev_listOf eg).ev eva_nil) (show 1 ≤ 1000 by decide)
  have h6 := ev_tup (eva_cons (ev_sl eg evo_no (evo_int 4) (show ¬ (HT.sIx 5 0 none = 0 ∧ HT.sIx 5 5 (some 4) = 5) by decide +kernel)) eva_nil) (show 1 ≤ 1000 by decide)
  have h7 := ev_tup (eva_cons (ev_cat eg (ev_tup (eva_cons (ev_int 0) eva_nil) (show 1 ≤ 1000 by decide)) (fun z => nomatch z) (show 5 + 1 ≤ 1000 by decide)) eva_nil) (show 1 ≤ 1000 by decide)
  have hc := ev_sl eg (evo_int 1) evo_no (show ¬ (HT.sIx 5 0 (some 1) = 0 ∧ HT.sIx 5 5 none = 5) by decide +kernel)
  have h8 := ev_tup (eva_cons (ev_cat (ev_tup (eva_cons (ev_str "xx") eva_nil) (show 1 ≤ 1000 by decide)) hc (fun z => nomatch z) (by decide +kernel)) eva_nil) (show 1 ≤ 1000 by decide)
  have h9 := ev_tup (eva_cons (ev_cat (ev_tup (eva_cons (ev_str "@right") eva_nil) (show 1 ≤ 1000 by decide)) hc (fun z => nomatch z) (by decide +kernel)) eva_nil) (show 1 ≤ 1000 by decide)
  have hall := evl_lst (eva_cons h1 (eva_cons h2 (eva_cons h3 (eva_cons h4 (eva_cons h5 (eva_cons h6 (eva_cons h7 (eva_cons h8 (eva_cons h9 eva_nil))))))))) (show 9 ≤ 1000 by decide)
  have hall1 := hall H (Same.refl _)
  clear h1 h2 h3 h4 h5 h6 h7 h8 h9 hc
  refine rd_set (hall1 _ fun l1 xs1 H1 s1 e1 hx1 => ?_)
  have hg1 := Dp_same s1 hg
  have eb : ∀ {σ : L2.St} {x y : Str} {i j k : Int}, Ev K (tTup (tCons (tTup (tCons (tC (.str x)) (tCons (tC (.str y)) (tCons (tC (.int i)) (tCons (tC (.int j)) (tCons (tC (.int k)) tNil)))))) tNil)) σ H1 (.tuple [.tuple [.str x, .str y, .int i, .int j, .int k]]) :=
    fun {σ x y i j k} => ev_tup (eva_cons (ev_tup (eva_cons (ev_str x) (eva_cons (ev_str y) (eva_cons (ev_int i) (eva_cons (ev_int j) (eva_cons (ev_int k) eva_nil))))) (show 5 ≤ 1000 by decide)) eva_nil) (show 1 ≤ 1000 by decide)
  have f2 := fun σ => ev_tup (K := K) (σ := σ) (H := H1) (eva_cons (ev_tup (eva_cons (ev_str "x") (eva_cons ev_non (eva_cons (ev_int 1) (eva_cons (ev_int 2) (eva_cons (ev_int 3) eva_nil))))) (show 5 ≤ 1000 by decide)) eva_nil) (show 1 ≤ 1000 by decide)
  have f3 := fun σ => ev_tup (K := K) (σ := σ) (H := H1) (eva_cons (ev_tup (eva_cons (ev_str "x") (eva_cons (ev_str "ord") (eva_cons (ev_neg 1) (eva_cons (ev_int 2) (eva_cons (ev_int 3) eva_nil))))) (show 5 ≤ 1000 by decide)) eva_nil) (show 1 ≤ 1000 by decide)
  have f5 := fun σ => ev_tup (K := K) (σ := σ) (H := H1) (eva_cons (ev_tup (eva_cons (ev_str "x") (eva_cons (ev_str "ord") (eva_cons (ev_int 1) (eva_cons (ev_int 2) (eva_cons (ev_str "3") eva_nil))))) (show 5 ≤ 1000 by decide)) eva_nil) (show 1 ≤ 1000 by decide)
  have f7 := fun σ => ev_tup (K := K) (σ := σ) (H := H1) (eva_cons ev_non eva_nil) (show 1 ≤ 1000 by decide)
  have hw := fun σ => evl_lst (eva_cons (eb (σ := σ) (x := "x") (y := "inner") (i := 1) (j := 2) (k := 3)) (eva_cons (f2 σ) (eva_cons (f3 σ) (eva_cons (eb (x := "x") (y := "ord") (i := 1) (j := 1001) (k := 3)) (eva_cons (f5 σ) (eva_cons (eb (x := "") (y := "ord") (i := 1) (j := 2) (k := 3)) (eva_cons (f7 σ) eva_nil))))))) (show 7 ≤ 1000 by decide)
  have hcat := evl_cat (evl_var (σ := slC a st va vl p q v6 v7 v8 v9 v10 v11 v12 (some (.ref g)) (some (.ref l1)) none) (i := 14) rfl e1 hx1) (hw _) (show 9 + 7 ≤ 1000 by decide)
  have hcat1 := hcat H1 (Same.refl _)
  refine rd_set (hcat1 _ fun l2 xs2 H2 s2 e2 hx2 => ?_)
  have LS2 := LS.same (s1.trans s2)
  have hg2 := Dp_same s2 hg1
  refine rd_badfor (v0 := none) (evl_var rfl e2 hx2) rfl (by show 15 < 24; decide) rfl LS2.F.lens.dp (by decide +kernel) fun v15 H3 s3 => ?_
  have LS3 := LS2.same s3
  have gA := fun σ => ev_tup (K := K) (σ := σ) (H := H3) (eva_cons (ev_tup (eva_cons (ev_str "x") (eva_cons (ev_str "ord") (eva_cons (ev_int 1001) (eva_cons (ev_int 2) (eva_cons (ev_int 3) eva_nil))))) (show 5 ≤ 1000 by decide)) eva_nil) (show 1 ≤ 1000 by decide)
  have gB := fun σ => ev_tup (K := K) (σ := σ) (H := H3) (eva_cons (ev_tup (eva_cons (ev_str "x") (eva_cons (ev_str "ord") (eva_cons (ev_int 1) (eva_cons (ev_neg 1) (eva_cons (ev_int 3) eva_nil))))) (show 5 ≤ 1000 by decide)) eva_nil) (show 1 ≤ 1000 by decide)
  have gC := fun σ => ev_tup (K := K) (σ := σ) (H := H3) (eva_cons (ev_tup (eva_cons (ev_str "x") (eva_cons (ev_str "ord") (eva_cons (ev_int 1) (eva_cons (ev_int 2) (eva_cons (ev_neg 1) eva_nil))))) (show 5 ≤ 1000 by decide)) eva_nil) (show 1 ≤ 1000 by decide)
  have gD := fun σ => ev_tup (K := K) (σ := σ) (H := H3) (eva_cons (ev_tup (eva_cons (ev_str "x") (eva_cons (ev_str "ord") (eva_cons (ev_int 1) (eva_cons (ev_int 2) (eva_cons (ev_int 1001) eva_nil))))) (show 5 ≤ 1000 by decide)) eva_nil) (show 1 ≤ 1000 by decide)
  have hw4 := fun σ => evl_lst (eva_cons (gA σ) (eva_cons (gB σ) (eva_cons (gC σ) (eva_cons (gD σ) eva_nil)))) (show 4 ≤ 1000 by decide)
  refine rd_badfor (v0 := v15) (hw4 _) rfl (by show 15 < 24; decide) rfl LS3.F.lens.dp (by decide +kernel) fun v15' H4 s4 => ?_
  exact k _ _ H4 (LS3.same s4) (Dp_same (s3.trans s4) hg2)
end
end Mg

set_option Elab.async false
set_option linter.all false
set_option maxRecDepth 100000
set_option maxHeartbeats 400000
namespace Mg
open PySem L2
section
variable {P : Program} {w : World} {K : PySem.W.Frag} {mg : Str → Option Value} {base : Heap} {CF CB CU : Addr} {f : Addr} {cdv : Value} {A : Around} {outer : List Env} {s : Shared} {H0 : Hp} {E : XK}
def S61 : Str := "abcdefghijklmnopqrstuvwxyzABCDEFGHIJKLMNOPQRSTUVWXYZ012345678"
def m61 : List Sym := S61.cps.toList.map fun c => ⟨⟨#[c]⟩, "ord", 1, 1, 1⟩
theorem size61 : S61.cps.size = 61 := by decide +kernel
theorem len61 : m61.length = 61 := by decide +kernel
theorem bad61 : areSymbols (symsD m61) = false := by decide +kernel
theorem pre61 : preSB (symsD m61) = true := by decide +kernel
theorem good60 : areSymbols (symsD (m61.drop 1)) = true := by decide +kernel
theorem pre60 : preSB (symsD (m61.drop 1)) = true := by decide +kernel
theorem cut61 : cutD (m61.map Sym.d) (some 1) none = (m61.drop 1).map Sym.d := by
  have e : (m61.map Sym.d).length = 61 := by rw [List.length_map, len61]
  unfold cutD
  rw [e]
  show ((m61.map Sym.d).drop 1).take 60 = _
  rw [List.take_of_length_le (by rw [List.length_drop, e]; decide), List.map_drop]
abbrev slD (a st : Addr) (va vl : V) (p q : Addr) (v6 v7 v8 v9 v10 v11 v12 v13 v14 v15 v16 v17 v18 v19 v20 v21 v22 : Option V) : L2.St := [some (.ref a), some (.ref st), some va, some vl, some (.ref p), some (.ref q), v6, v7, v8, v9, v10, v11, v12, v13, v14, v15, v16, v17, v18, v19, v20, v21, v22, none]
theorem lawD (L : Law P w K mg base CF CB CU) (hr : RoomL f cdv A s) {tr : TS} (hrest : PSs (XL P w K mg base f cdv A outer s H0 E) (List.drop 16 (defBody sLaw)) tr) :
    ∃ t, PSs (XL P w K mg base f cdv A outer s H0 E) (List.drop 13 (defBody sLaw)) t ∧ ∀ (D : Ends) (a st pd pl p q : Addr) (va vl : V) (ss : List Sym) (ls : List Int) (v6 v7 v8 v9 v10 v11 v12 v14 v15 : Option V) (g : Addr) (H : Hp), Drawn ss ls → LSt K CF H st pd pl p q va vl ss ls → Dp K H (.ref g) goodD →
      (∀ (v16 v17 : Option V) (H' : Hp), LSt K CF H' st pd pl p q va vl ss ls → Dp K H' (.ref g) goodD → tr D (slD a st va vl p q v6 v7 v8 v9 v10 v11 v12 (some (.ref g)) v14 v15 v16 v17 none none none none none) H') → t D (slD a st va vl p q v6 v7 v8 v9 v10 v11 v12 (some (.ref g)) v14 v15 none none none none none none none) H := by
  have sc := scLaw
  refine ⟨_, (pss_cons (ps_set (i := 16) sc.nd rfl (Or.inl rfl) pe_str)
  (pss_cons (ps_set (i := 17) sc.nd rfl (Or.inl rfl) (pe_callTy call_tuple_of (by rfl) L.b_tuple (by decide +kernel) (pa_cons (pe_lc (own := [("name", 6)]) rfl sc.nd (pi_str (pv 16)) (blkOk_by (own := [("name", 6)]) (N := ["script", "stream", "symbols", "lengths", "font", "other", "name", "kind", "width", "height", "depth", "style", "length", "good", "wrong", "bad", "names", "many", "kinds", "turned", "least", "most", "k", "row"]) (sc := defScope sLaw) (by decide +kernel)) (fun _ _ _ _ _ => (pg_name (i := 6) sc.nd rfl (Or.inl rfl))) (fun _ _ _ _ _ => pts_nil) (fun _ _ _ _ _ => (pe_tup (pa_cons (pv 6) (pa_cons pe_str (pa_cons pe_int (pa_cons pe_int (pa_cons pe_int pa_nil)))))))) pa_nil)))
  (pss_cons (ps_if (PW.pt (pw_or (pt_cmpR op_ne (pe_callB call_len_str (by rfl) L.b_len PySem.boot_len (pa_cons (pv 16) pa_nil)) pe_int (nomark _)) (pw_or (pt_not (pt_val (pe_cal L.C_law_is_bad (hr.mono (by decide)) rfl pass0 (pa_cons (pv 17) (pa_cons (pv 3) pa_nil))))) (pw_or1 (pt_cmpR op_ne (pe_callB (call_lenF L.lenF (hr.mono (by decide))) (by rfl) L.b_len PySem.boot_len (pa_cons (pe_mkF L.mkF (hr.mono (by decide)) rfl L.g_Font (pa_cons (pe_slice sl_tup (pv 17) (po_some pe_int) po_none) (pa_cons (pv 3) pa_nil))) pa_nil)) pe_int (nomark _))))))
  (pss_one (ps_ret pe_bl))
  pss_nil)
  hrest))), fun D a st pd pl p q va vl ss ls v6 v7 v8 v9 v10 v11 v12 v14 v15 g H DR LS hg k => ?_⟩
  refine rd_set ?_
  refine rd_set ?_
  refine ⟨_, rfl, S61, rfl, fun Dl hD => ?_⟩
  refine lc_word (n := 61) (fun i acc H' => Same H H' ∧ acc.length = i ∧ ∀ (j : Nat) (v : V) (y : Sym), acc[j]? = some v → m61[j]? = some y → Tp K H' v y.d) ⟨same_new hD, rfl, fun j v y h => by simp at h⟩ (fun i acc H' hi _ => ?_) (fun acc H' _ => ?_) ?_ ?_
  · show i < S61.cps.size
    rw [size61]
    exact hi
  · show S61.cps.size ≤ 61
    rw [size61]
    exact Nat.le_refl _
  · rintro i acc x H1 H2 R Z hi ⟨s1, al, ha⟩ eD ⟨rfl, c, hc, rfl⟩ kR
    refine ⟨rfl, ?_⟩
    refine ⟨_, rfl, (by show 5 ≤ sizeLine; decide), fun t nt => kR _ _ (same_new nt _ _ eD) (by rw [al]; exact Nat.lt_of_lt_of_le hi (by show 61 ≤ sizeLine; decide)) ⟨?_, ?_, ?_⟩⟩
    · exact same_upd_new (s1.trans (same_new nt)) hD
    · rw [List.length_append, al]
      rfl
    · intro j v y hj hy
      have tk : TupK H2 (upd (upd H2 t (.tup [.str ⟨#[c]⟩, .str "ord", .int 1, .int 1, .int 1])) Dl (.lst (acc ++ [.ref t]))) := TupK.keep (fun b x e n => by rw [upd_ne n]; exact same_new nt _ _ e) eD
      by_cases hlt : j < acc.length
      · rw [List.getElem?_append_left hlt] at hj
        exact (ha j v y hj hy).stay tk
      · have ej : j = i := by
          have := (List.getElem?_eq_some_iff.mp hj).1
          rw [List.length_append, List.length_singleton] at this
          omega
        subst ej
        rw [List.getElem?_append_right (by omega), al, Nat.sub_self] at hj
        cases hj
        have ey : y = ⟨⟨#[c]⟩, "ord", 1, 1, 1⟩ := by
          unfold m61 at hy
          rw [List.getElem?_map, Array.getElem?_toList, hc] at hy
          exact (Option.some.inj hy).symm
        subst ey
        have ne : t ≠ Dl := fun e => by
          rw [e, eD] at nt
          cases nt
        exact tp_sym_of (SqT.of ((upd_ne ne).trans upd_same))
  · rintro acc H1 ⟨s1, al, ha⟩ e1
    refine ⟨Dl, acc, rfl, .inl ⟨SqL.of e1, fun r nr => ?_⟩⟩
    have s2 := s1.trans (same_new (o := .tup acc) nr)
    have tm : Tp K (upd H1 r (.tup acc)) (.ref r) (symsD m61) := by
      refine .tup (SqT.of upd_same) (by rw [al, List.length_map, len61]) fun j v d hj hd => ?_
      rw [List.getElem?_map] at hd
      cases ey : m61[j]? with
      | none =>
        rw [ey] at hd
        cases hd
      | some y =>
        rw [ey] at hd
        cases hd
        exact (ha j v y hj ey).stay (TupK.of (same_new nr))
    generalize upd H1 r (.tup acc) = H2 at s2 tm ⊢
    have LS2 := LS.same s2
    have eL : S61.length = 61 := by decide +kernel
    refine ⟨_, rfl, S61, rfl, (by rw [eL]; decide), ?_⟩
    rw [eL]
    refine ⟨rfl, _, rfl, iteF ?_⟩
    refine ⟨_, rfl, _, rfl, .ref r, vl, symsD m61, lensD ls, rfl, tm.dp, LS2.F.lens.dp, preS_of pre61, fun H3 s3 => ?_⟩
    rw [bad61]
    refine ⟨_, rfl, iteF ?_⟩
    have ec := ev_sl (σ := slD a st va vl p q v6 v7 v8 v9 v10 v11 v12 (some (.ref g)) v14 v15 (some (.str S61)) (some (.ref r)) none none none none none) (te := tVar 17) (ev_var rfl tm.dp) (evo_int 1) evo_no (by rw [List.length_map, len61]; decide +kernel)
    rw [cut61] at ec
    refine ec H3 s3 _ fun v H4 s4 hv => ?_
    have LS4 := LS2.same (s3.trans s4)
    refine ⟨_, rfl, fun p3 dx3 np3 ndx3 ne3 => mk_font (CF := CF) (CB := CB) (ss := m61.drop 1) (ls := ls) hv LS4.F.lens.dp (preS_of pre60) good60 DR.goodL p3 dx3 np3 ndx3 ne3 fun H5 s5 FC => ⟨rfl, ?_⟩⟩
    obtain ⟨d5, e5, i5⟩ := FC.ins
    refine ⟨p3, _, _, rfl, i5, p3, _, _, _, ls, rfl, FC, 60, by rw [List.length_drop, len61]; rfl, by decide, by decide, ?_⟩
    refine ⟨rfl, _, rfl, iteF ?_⟩
    exact k _ _ H5 (LS4.same s5) (Dp_same (s2.trans (s3.trans (s4.trans s5))) hg)
end
end Mg

set_option Elab.async false
set_option linter.all false
set_option maxRecDepth 100000
set_option maxHeartbeats 400000
namespace Mg
open PySem L2
section
variable {X : Cx} {CF CB : Addr} {p pos : Pos} {e : Expr} {es : List Expr} {t : TA} {K : PySem.W.Frag}
theorem pe_mkFK (hK : X.K = K) (M : MkF X.prog X.w X.K X.mg X.base CF CB) (hr : Room 6 X.A) (hg : Gl X "Font") (hm : X.mg "Font" = some (.ref CF)) (ha : PA X (e :: es) t)
    (he : starEach (e :: es) X.env = (false, eval e X.env) :: starEach es X.env := by rfl) (hpl : (backTo pos (starEach es X.env)).any (·.1) = false := by rfl) :
    PE X (.Call (.Name "Font" p) (e :: es) [] pos) (tMake CF (spFInit K CF CB) [] E00 t) := by
  subst hK
  exact pe_mkF M hr hg hm ha he hpl
end
section
variable {P : Program} {w : World} {K : PySem.W.Frag} {mg : Str → Option Value} {base : Heap} {CF CB CU : Addr} {f : Addr} {cdv : Value} {A : Around} {outer : List Env} {s : Shared} {H0 : Hp} {E : XK}
def kinds7 : List Str := ["ord", "op", "bin", "rel", "open", "close", "punct"]
structure Turn (y z : Sym) : Prop where
  nm : z.nm = y.nm
  cl : z.cl ∈ kinds7
  wd : z.wd = y.wd
  ht : z.ht = y.ht
  dp : z.dp = y.dp
theorem kinds_ok : ∀ c ∈ kinds7, isKind (.str c) = true ∧ PyData.canLay0 (.str c) = true := by decide +kernel
theorem at_kinds {n : Int} (h0 : 0 ≤ n) (h1 : n < 7) : ∃ c, c ∈ kinds7 ∧ atI (kinds7.map V.str) n = some (.str c) := by
  obtain rfl | rfl | rfl | rfl | rfl | rfl | rfl : n = 0 ∨ n = 1 ∨ n = 2 ∨ n = 3 ∨ n = 4 ∨ n = 5 ∨ n = 6 := by omega
  all_goals exact ⟨_, by decide +kernel, rfl⟩
theorem tp_good {H : Hp} {v : V} (h : Dp K H v goodD) : Tp K H v goodD := by
  obtain ⟨a, xs, rfl, hs, hx⟩ := dp_tup_inv h
  cases hx with
  | cons a1 r => cases r with
    | cons a2 r => cases r with
      | cons a3 r => cases r with
        | cons a4 r => cases r with
          | cons a5 r =>
            cases r
            cases a1; cases a2; cases a3; cases a4; cases a5
            refine .tup hs rfl fun i x d hx hd => ?_
            match i, hx, hd with
            | 0, hx, hd => cases hx; cases hd; exact .str _
            | 1, hx, hd => cases hx; cases hd; exact .str _
            | 2, hx, hd => cases hx; cases hd; exact .int _
            | 3, hx, hd => cases hx; cases hd; exact .int _
            | 4, hx, hd => cases hx; cases hd; exact .int _
            | _ + 5, hx, hd => cases hx
theorem LSt.put {H : Hp} {st pd pl p q Dl : Addr} {va vl : V} {ss : List Sym} {ls : List Int} {xs ys : List V} (L : LSt K CF H st pd pl p q va vl ss ls) (h1 : st ≠ Dl) (h2 : pd ≠ Dl) (h3 : pl ≠ Dl) (e : H Dl = some (.lst xs)) : LSt K CF (upd H Dl (.lst ys)) st pd pl p q va vl ss ls := by
  obtain ⟨⟨a1, a2, ds, k, b1, b2, b3, b4⟩, F, c, G⟩ := L
  exact ⟨⟨a1, a2, ds, k, (upd_ne h1).trans b1, (upd_ne h2).trans b2, (upd_ne h3).trans b3, b4⟩, F.keep keep_upd e, c, G.keep keep_upd e⟩
theorem Turn.entry {ss : List Sym} {ls : List Int} (D : Drawn ss ls) {y z : Sym} (h : y ∈ ss) (T : Turn y z) : isEntry z.d = true := by
  obtain ⟨n, c, a, b, d⟩ := z
  obtain ⟨t1, t2, t3, t4, t5⟩ := T
  obtain ⟨_, a0, a1, b0, b1, d0, d1⟩ := D.ok _ h
  obtain ⟨q1, _, _⟩ := nms_name _ (D.mem h)
  dsimp only at t1 t2 t3 t4 t5
  subst t1
  subst t3
  subst t4
  subst t5
  exact good_entry q1 (kinds_ok c t2).1 ⟨a0, by omega⟩ ⟨b0, by omega⟩ ⟨d0, by omega⟩
theorem dpAll_cls {H : Hp} : ∀ us : List Sym, DpAll K H (us.map fun z => V.str z.cl) (us.map fun z => PyData.str z.cl)
  | [] => .nil
  | z :: us => .cons (.str _) (dpAll_cls us)
theorem lay_cls : ∀ {us : List Sym}, (∀ z ∈ us, PyData.canLay0 (.str z.cl) = true) → PyData.canLayAll0 (us.map fun z => PyData.str z.cl) = true
  | [], _ => rfl
  | z :: us, h => by
    show (PyData.canLay0 (.str z.cl) && PyData.canLayAll0 (us.map fun z => PyData.str z.cl)) = true
    rw [h z List.mem_cons_self, lay_cls fun y hy => h y (List.mem_cons_of_mem _ hy)]
    rfl
theorem dep_cls : ∀ us : List Sym, PyData.depthAll (us.map fun z => PyData.str z.cl) ≤ 0
  | [] => Nat.zero_le _
  | z :: us => by
    show max 0 (PyData.depthAll (us.map fun z => PyData.str z.cl)) ≤ 0
    exact Nat.max_le.mpr ⟨Nat.le_refl 0, dep_cls us⟩
theorem lawE (L : Law P w K mg base CF CB CU) (hr : RoomL f cdv A s) {tr : TS} (hrest : PSs (XL P w K mg base f cdv A outer s H0 E) (List.drop 19 (defBody sLaw)) tr) :
    ∃ t, PSs (XL P w K mg base f cdv A outer s H0 E) (List.drop 16 (defBody sLaw)) t ∧ ∀ (D : Ends) (a st pd pl p q : Addr) (va vl : V) (ss : List Sym) (ls : List Int) (v6 v7 v8 v9 v10 v11 v12 v14 v15 v16 v17 : Option V) (g : Addr) (H : Hp), Drawn ss ls → LSt K CF H st pd pl p q va vl ss ls → Dp K H (.ref g) goodD →
      (∀ (v18 v19 : Option V) (H' : Hp), LSt K CF H' st pd pl p q va vl ss ls → Dp K H' (.ref g) goodD → tr D (slD a st va vl p q v6 v7 v8 v9 v10 v11 v12 (some (.ref g)) v14 v15 v16 v17 v18 v19 none none none) H') → t D (slD a st va vl p q v6 v7 v8 v9 v10 v11 v12 (some (.ref g)) v14 v15 v16 v17 none none none none none) H := by
  have sc := scLaw
  refine ⟨_, (pss_cons (ps_set (i := 18) sc.nd rfl (Or.inr rfl) (pe_lst (pa_cons pe_str (pa_cons pe_str (pa_cons pe_str (pa_cons pe_str (pa_cons pe_str (pa_cons pe_str (pa_cons pe_str pa_nil)))))))))
  (pss_cons (ps_set (i := 19) sc.nd rfl (Or.inr rfl) (pe_callTy call_tuple_of (by rfl) L.b_tuple (by decide +kernel) (pa_cons (pe_lc (own := [("row", 23)]) rfl sc.nd (pi_tup (pv 2)) (blkOk_by (own := [("row", 23)]) (N := ["script", "stream", "symbols", "lengths", "font", "other", "name", "kind", "width", "height", "depth", "style", "length", "good", "wrong", "bad", "names", "many", "kinds", "turned", "least", "most", "k", "row"]) (sc := defScope sLaw) (by decide +kernel)) (fun _ _ _ _ _ => (pg_name (i := 23) sc.nd rfl (Or.inl rfl))) (fun _ _ _ _ _ => pts_nil) (fun _ _ _ _ _ => (pe_op (r := rCatT K) op_catT (pe_op (r := rCatT K) op_catT (pe_slice (r := rSlT K) sl_tup (pv 23) po_none (po_some pe_int)) (pe_tup (pa_cons (pe_ix (r := rIxL K) ix_list (pv 18) (pe_cal L.C_law_next (hr.mono (by decide)) rfl pass0 (pa_cons (pv 1) (pa_cons pe_int pa_nil))) (fun _ _ => rfl)) pa_nil))) (pe_slice (r := rSlT K) sl_tup (pv 23) (po_some pe_int) po_none)))) pa_nil)))
  (pss_cons (ps_if (pt_cmpR (op_neD hr.units) (pe_lc (own := [("row", 23)]) rfl sc.nd (pi_tup (pv 19)) (blkOk_by (own := [("row", 23)]) (N := ["script", "stream", "symbols", "lengths", "font", "other", "name", "kind", "width", "height", "depth", "style", "length", "good", "wrong", "bad", "names", "many", "kinds", "turned", "least", "most", "k", "row"]) (sc := defScope sLaw) (by decide +kernel)) (fun _ _ _ _ _ => (pg_name (i := 23) sc.nd rfl (Or.inl rfl))) (fun _ _ _ _ _ => pts_nil) (fun _ _ _ _ _ => (pe_calm (pe_mkFK (K := K) rfl L.mkF (hr.mono (by decide)) rfl L.g_Font (pa_cons (pv 19) (pa_cons (pv 3) pa_nil))) L.O.cl L.C_class_of (hr.mono (by decide)) passN (pa_cons (pe_ix (r := rIxT K) ix_tup (pv 23) pe_int (fun _ _ => rfl)) pa_nil)))) (pe_lc (own := [("row", 23)]) rfl sc.nd (pi_tup (pv 19)) (blkOk_by (own := [("row", 23)]) (N := ["script", "stream", "symbols", "lengths", "font", "other", "name", "kind", "width", "height", "depth", "style", "length", "good", "wrong", "bad", "names", "many", "kinds", "turned", "least", "most", "k", "row"]) (sc := defScope sLaw) (by decide +kernel)) (fun _ _ _ _ _ => (pg_name (i := 23) sc.nd rfl (Or.inl rfl))) (fun _ _ _ _ _ => pts_nil) (fun _ _ _ _ _ => (pe_ix (r := rIxT K) ix_tup (pv 23) pe_int (fun _ _ => rfl)))) (nomark _))
  (pss_one (ps_ret pe_bl))
  pss_nil)
  hrest))), fun D a st pd pl p q va vl ss ls v6 v7 v8 v9 v10 v11 v12 v14 v15 v16 v17 g H DR LS hg k => ?_⟩
  have tgood := tp_good hg
  obtain ⟨ta, ts, rfl, hts, tl, tg⟩ := syms_get LS.F.syms
  refine rd_set ⟨(by show 7 ≤ sizeLine; decide), fun kl nkl => ?_⟩
  have sK : Same H (upd H kl (.lst (kinds7.map V.str))) := same_new nkl
  have eK : (upd H kl (.lst (kinds7.map V.str))) kl = some (.lst (kinds7.map V.str)) := upd_same
  refine rd_set (H := upd H kl (.lst (kinds7.map V.str))) ?_
  generalize upd H kl (.lst (kinds7.map V.str)) = H1 at sK eK ⊢
  have LS1 := LS.same sK
  have hts1 := same_sqt sK hts
  have plk : pl ≠ kl := fun e => by
    obtain ⟨z, hz⟩ := LS.S.pl
    rw [e, nkl] at hz
    cases hz
  refine ⟨_, rfl, ta, rfl, ⟨_, hts1⟩, fun Dl hD => ?_⟩
  have dpl : Dl ≠ pl := fun e => by
    obtain ⟨z, hz⟩ := LS1.S.pl
    rw [← e, hD] at hz
    cases hz
  have dkl : Dl ≠ kl := fun e => by
    rw [e, eK] at hD
    cases hD
  have stD : st ≠ Dl := fun e => by
    obtain ⟨z, hz⟩ := LS1.S.at
    rw [e, hD] at hz
    cases hz
  have pdD : pd ≠ Dl := fun e => by
    obtain ⟨_, _, ds, kk, _, h2, _⟩ := LS1.S
    rw [e, hD] at h2
    cases h2
  have sD : Same H1 (upd H1 Dl (.lst [])) := same_new hD
  refine lc_word (n := 13) (fun i acc H' => LSt K CF H' st pd pl p q (.ref ta) vl ss ls ∧ H' kl = some (.lst (kinds7.map V.str)) ∧ TupK H1 H' ∧ acc.length = i ∧ ∃ us : List Sym, us.length = i ∧ (∀ (j : Nat) (y z : Sym), ss[j]? = some y → us[j]? = some z → Turn y z) ∧ ∀ (j : Nat) (v : V) (z : Sym), acc[j]? = some v → us[j]? = some z → ∃ t, v = .ref t ∧ SqT K H' t z.vs)
    ⟨LS1.same sD, sD _ _ eK, TupK.of sD, rfl, [], rfl, fun j y z _ h => by simp at h, fun j v z h => by simp at h⟩ (fun i acc H' hi pv => ?_) (fun acc H' pv => ?_) ?_ ?_
  · obtain ⟨_, _, tk2, _⟩ := pv
    have hlt : i < ts.length := by
      rw [tl, DR.len]
      exact hi
    exact ⟨_, V.ref ts[i], tk2.seq hts1, by rw [List.getElem?_map, List.getElem?_eq_getElem hlt]; rfl⟩
  · obtain ⟨_, _, tk2, _⟩ := pv
    exact ⟨_, tk2.seq hts1, by rw [List.length_map, tl, DR.len]; exact Nat.le_refl _⟩
  · rintro i acc x H2 H3 R Z hi ⟨LS2, eK2, tk2, al, us, ul, ht, ha⟩ eD ⟨rfl, hy⟩ kR
    have hx := hy _ (tk2.seq hts1)
    refine ⟨rfl, ?_⟩
    have hlt : i < ts.length := by
      rw [tl, DR.len]
      exact hi
    have hlt2 : i < ss.length := by
      rw [DR.len]
      exact hi
    have et : ts[i]? = some ts[i] := List.getElem?_eq_getElem hlt
    have ey : ss[i]? = some ss[i] := List.getElem?_eq_getElem hlt2
    rw [List.getElem?_map, et] at hx
    cases hx
    have hq : SqT K H3 ts[i] ss[i].vs := tk2.seq (same_sqt sK (tg i _ _ et ey))
    refine ⟨_, rfl, 1, rfl, ts[i], _, rfl, hq, (by show ¬ (HT.sIx 5 0 none = 0 ∧ HT.sIx 5 5 (some 1) = 5); decide +kernel), fun o1 n1 => ?_⟩
    have s1 : Same H3 (upd H3 o1 (.tup (cutV ss[i].vs none (some 1)))) := same_new n1
    have S1 := LS2.S.new s1
    refine ⟨_, rfl, _, rfl, st, pd, pl, 7, rfl, by decide, S1, fun n H4 n0 n7 k4 S4 => ?_⟩
    obtain ⟨c, c1, c2⟩ := at_kinds n0 n7
    obtain ⟨zz, hpl⟩ := S1.pl
    have tk4 : TupK (upd H3 o1 (.tup (cutV ss[i].vs none (some 1)))) H4 := TupK.keep k4 hpl
    have eK4 := k4 _ _ (s1 _ _ eK2) (Ne.symm plk)
    have eD4 := k4 _ _ (s1 _ _ eD) dpl
    have LS4 := (LS2.same s1).keep k4 S4
    have hq4 : SqT K H4 ts[i] ss[i].vs := tk4.seq (same_sqt s1 hq)
    have ho4 : SqT K H4 o1 (cutV ss[i].vs none (some 1)) := tk4.seq (SqT.of upd_same)
    have tk24 : TupK H3 H4 := (TupK.of s1).trans tk4
    refine ⟨kl, _, n, V.str c, rfl, rfl, SqL.of eK4, c2, (by show 1 ≤ sizeLine; decide), fun o2 n2 => ?_⟩
    have s2 : Same H4 (upd H4 o2 (.tup [.str c])) := same_new n2
    refine ⟨o1, o2, _, _, rfl, rfl, same_sqt s2 ho4, SqT.of upd_same, (fun z => by cases z), (by show 2 ≤ sizeLine; decide), (fun z => by cases z), fun _ o3 n3 => ?_⟩
    have s3 : Same H4 (upd (upd H4 o2 (.tup [.str c])) o3 (.tup [.str ss[i].nm, .str c])) := s2.trans (same_new n3)
    refine ⟨_, rfl, 2, rfl, ts[i], _, rfl, same_sqt s3 hq4, (by show ¬ (HT.sIx 5 0 (some 2) = 0 ∧ HT.sIx 5 5 none = 5); decide +kernel), fun o4 n4 => ?_⟩
    have s4 : Same H4 (upd (upd (upd H4 o2 (.tup [.str c])) o3 (.tup [.str ss[i].nm, .str c])) o4 (.tup [.int ss[i].wd, .int ss[i].ht, .int ss[i].dp])) := s3.trans (same_new n4)
    refine ⟨o3, o4, [.str ss[i].nm, .str c], [.int ss[i].wd, .int ss[i].ht, .int ss[i].dp], rfl, rfl, same_sqt (same_new n4) (SqT.of upd_same), SqT.of upd_same, (fun z => by cases z), (by show 5 ≤ sizeLine; decide), (fun z => by cases z), fun _ o5 n5 => ?_⟩
    have s5 : Same H4 (upd (upd (upd (upd H4 o2 (.tup [.str c])) o3 (.tup [.str ss[i].nm, .str c])) o4 (.tup [.int ss[i].wd, .int ss[i].ht, .int ss[i].dp])) o5 (.tup [.str ss[i].nm, .str c, .int ss[i].wd, .int ss[i].ht, .int ss[i].dp])) := s4.trans (same_new n5)
    have e5 : (upd (upd (upd (upd H4 o2 (.tup [.str c])) o3 (.tup [.str ss[i].nm, .str c])) o4 (.tup [.int ss[i].wd, .int ss[i].ht, .int ss[i].dp])) o5 (.tup [.str ss[i].nm, .str c, .int ss[i].wd, .int ss[i].ht, .int ss[i].dp])) o5 = some (.tup [.str ss[i].nm, .str c, .int ss[i].wd, .int ss[i].ht, .int ss[i].dp]) := upd_same
    refine kR (.ref o5) _ (s5 _ _ eD4) (by rw [al]; exact Nat.lt_of_lt_of_le hi (by show 13 ≤ sizeLine; decide)) ?_
    have key : ∀ H8 : Hp, Same H4 H8 → H8 o5 = some (.tup [.str ss[i].nm, .str c, .int ss[i].wd, .int ss[i].ht, .int ss[i].dp]) → LSt K CF (upd H8 Dl (.lst (acc ++ [.ref o5]))) st pd pl p q (.ref ta) vl ss ls ∧ (upd H8 Dl (.lst (acc ++ [.ref o5]))) kl = some (.lst (kinds7.map V.str)) ∧ TupK H1 (upd H8 Dl (.lst (acc ++ [.ref o5]))) ∧ (acc ++ [V.ref o5]).length = i + 1 ∧ ∃ us : List Sym, us.length = i + 1 ∧ (∀ (j : Nat) (y z : Sym), ss[j]? = some y → us[j]? = some z → Turn y z) ∧ ∀ (j : Nat) (v : V) (z : Sym), (acc ++ [V.ref o5])[j]? = some v → us[j]? = some z → ∃ t, v = .ref t ∧ SqT K (upd H8 Dl (.lst (acc ++ [.ref o5]))) t z.vs := ?key
    exact key _ s5 e5
    clear s5 e5 n5 n4 s4 n3 s3 n2 s2
    intro H8 s5 e5
    have eD8 := s5 _ _ eD4
    have tk8 : TupK H3 (upd H8 Dl (.lst (acc ++ [.ref o5]))) := (tk24.trans (TupK.of s5)).trans (TupK.keep keep_upd eD8)
    have oD : o5 ≠ Dl := fun e => by
      rw [e, eD8] at e5
      cases e5
    refine ⟨(LS4.same s5).put stD pdD (Ne.symm dpl) eD8, (upd_ne (Ne.symm dkl)).trans (s5 _ _ eK4), tk2.trans tk8, by rw [List.length_append, al]; rfl, us ++ [⟨ss[i].nm, c, ss[i].wd, ss[i].ht, ss[i].dp⟩], by rw [List.length_append, ul]; rfl, ?_, ?_⟩
    · intro j y z hy1 hz1
      by_cases hj : j < us.length
      · rw [List.getElem?_append_left hj] at hz1
        exact ht j y z hy1 hz1
      · have ej : j = i := by
          have := (List.getElem?_eq_some_iff.mp hz1).1
          rw [List.length_append, List.length_singleton] at this
          omega
        subst ej
        rw [List.getElem?_append_right (by omega), ul, Nat.sub_self] at hz1
        cases hz1
        rw [ey] at hy1
        cases hy1
        exact ⟨rfl, c1, rfl, rfl, rfl⟩
    · intro j v z hv hz1
      by_cases hj : j < us.length
      · rw [List.getElem?_append_left hj] at hz1
        rw [List.getElem?_append_left (by omega)] at hv
        obtain ⟨t, h1, h2⟩ := ha j v z hv hz1
        exact ⟨t, h1, tk8.seq h2⟩
      · have ej : j = i := by
          have := (List.getElem?_eq_some_iff.mp hz1).1
          rw [List.length_append, List.length_singleton] at this
          omega
        subst ej
        rw [List.getElem?_append_right (by omega), ul, Nat.sub_self] at hz1
        rw [List.getElem?_append_right (by omega), al, Nat.sub_self] at hv
        cases hz1
        cases hv
        exact ⟨o5, rfl, SqT.of ((upd_ne oD).trans e5)⟩
  · rintro acc H2 ⟨LS2, eK2, tk2, al, us, ul, ht, ha⟩ eD
    refine ⟨Dl, acc, rfl, .inl ⟨SqL.of eD, fun r nr => ?_⟩⟩
    have sr : Same H2 (upd H2 r (.tup acc)) := same_new nr
    have tr' : (upd H2 r (.tup acc)) r = some (.tup acc) := upd_same
    show tSeq _ tr D _ (upd H2 r (.tup acc))
    generalize upd H2 r (.tup acc) = H3 at sr tr' ⊢
    have ts3 : ∀ (j : Nat) (z : Sym), us[j]? = some z → ∃ t, acc[j]? = some (V.ref t) ∧ SqT K H3 t z.vs := fun j z hz => by
      have hj : j < acc.length := by
        rw [al, ← ul]
        exact (List.getElem?_eq_some_iff.mp hz).1
      obtain ⟨t, h1, h2⟩ := ha j _ z (List.getElem?_eq_getElem hj) hz
      exact ⟨t, by rw [List.getElem?_eq_getElem hj, h1], same_sqt sr h2⟩
    have hus : ∀ (j : Nat) (z : Sym), us[j]? = some z → ∃ y, ss[j]? = some y ∧ Turn y z := fun j z hz => by
      have hj : j < ss.length := by
        rw [DR.len, ← ul]
        exact (List.getElem?_eq_some_iff.mp hz).1
      exact ⟨ss[j], List.getElem?_eq_getElem hj, ht j _ z (List.getElem?_eq_getElem hj) hz⟩
    have tus : Tp K H3 (.ref r) (symsD us) := by
      refine .tup (SqT.of tr') (by rw [al, List.length_map, ul]) fun j v d hv hd => ?_
      rw [List.getElem?_map] at hd
      cases ez : us[j]? with
      | none =>
        rw [ez] at hd
        cases hd
      | some z =>
        rw [ez] at hd
        cases hd
        obtain ⟨t, h1, h2⟩ := ts3 j z ez
        rw [hv] at h1
        cases h1
        exact tp_sym_of h2
    have unm : us.map (·.nm) = nmsR := by
      rw [← DR.nm]
      apply List.ext_getElem?
      intro j
      rw [List.getElem?_map, List.getElem?_map]
      cases ez : us[j]? with
      | none =>
        have : ss[j]? = none := by
          rw [List.getElem?_eq_none_iff, DR.len, ← ul]
          exact List.getElem?_eq_none_iff.mp ez
        rw [this]
      | some z =>
        obtain ⟨y, h1, h2⟩ := hus j z ez
        rw [h1]
        show some z.nm = some y.nm
        rw [h2.nm]
    have uent : ∀ z ∈ us, ∃ y ∈ ss, Turn y z := fun z hz => by
      obtain ⟨j, hj⟩ := List.getElem?_of_mem hz
      obtain ⟨y, h1, h2⟩ := hus j z hj
      exact ⟨y, List.mem_of_getElem? h1, h2⟩
    have gus : areSymbols (symsD us) = true := good_syms (by rw [ul]; decide) (by rw [ul]; decide) (by rw [unm]; decide +kernel) fun z hz => by
      obtain ⟨y, h1, h2⟩ := uent z hz
      exact h2.entry DR h1
    have pus : PreS (symsD us) := pre_syms fun z hz => by
      obtain ⟨y, h1, h2⟩ := uent z hz
      rw [h2.nm]
      exact DR.pre y h1
    have LS3 := LS2.same sr
    have tgood3 : Tp K H3 (.ref g) goodD := ((tgood.stay (TupK.of sK)).stay tk2).stay (TupK.of sr)
    -- [Font(turned, lengths).class_of(row[0]) for row in turned]
    refine ⟨_, rfl, r, rfl, ⟨_, SqT.of tr'⟩, fun D1 hD1 => ?_⟩
    refine lc_pure (us.map fun z => V.str z.cl) hD1 (by rw [List.length_map, ul]; decide) (fun i H' hi s' => ?_) (fun H' s' => ?_) ?_ ?_
    · rw [List.length_map, ul] at hi
      obtain ⟨t, h1, _⟩ := ts3 i us[i] (List.getElem?_eq_getElem (by omega))
      exact ⟨acc, _, SqT.of (s' _ _ tr'), h1⟩
    · exact ⟨acc, SqT.of (s' _ _ tr'), by rw [List.length_map, ul, al]; exact Nat.le_refl _⟩
    · rintro i x H4 H5 R Z hi s4 ⟨rfl, hy⟩ kR
      rw [List.length_map] at hi
      have ez : us[i]? = some us[i] := List.getElem?_eq_getElem hi
      obtain ⟨t, h1, h2⟩ := ts3 i us[i] ez
      have hx := hy _ (SqT.of (s4 _ _ tr'))
      rw [h1] at hx
      cases hx
      have hlk : look us us[i].nm = some us[i] := look_at (by rw [unm]; decide +kernel) ez
      refine ⟨rfl, _, rfl, _, rfl, fun p3 dx3 np3 ndx3 ne3 => mk_font (CF := CF) (CB := CB) (tus.stay (TupK.of s4)).dp (LS3.same s4).F.lens.dp pus gus DR.goodL p3 dx3 np3 ndx3 ne3 fun H6 s6 FC => ⟨rfl, ?_⟩⟩
      obtain ⟨d6, e6, i6⟩ := FC.ins
      refine ⟨p3, _, _, rfl, i6, no_class_of_name _ _ _, _, rfl, t, _, 0, V.str us[i].nm, rfl, rfl, same_sqt s6 (same_sqt s4 h2), rfl, p3, us[i].nm, _, _, us, ls, rfl, ?_, FC, fun y' hl => ?_, fun hn => by rw [hlk] at hn; cases hn⟩
      · obtain ⟨y, q1, q2⟩ := hus i _ ez
        rw [q2.nm]
        exact DR.pre y (List.mem_of_getElem? q1)
      · rw [hlk] at hl
        cases hl
        exact kR _ _ (by rw [List.getElem?_map, ez]; rfl) s6
    · intro H4 s4 e4
      refine ⟨_, rfl, r, rfl, ⟨_, SqT.of (s4 _ _ tr')⟩, fun D2 hD2 => ?_⟩
      refine lc_pure (us.map fun z => V.str z.cl) hD2 (by rw [List.length_map, ul]; decide) (fun i H' hi s' => ?_) (fun H' s' => ?_) ?_ ?_
      · rw [List.length_map, ul] at hi
        obtain ⟨t, h1, _⟩ := ts3 i us[i] (List.getElem?_eq_getElem (by omega))
        exact ⟨acc, _, SqT.of (s' _ _ (s4 _ _ tr')), h1⟩
      · exact ⟨acc, SqT.of (s' _ _ (s4 _ _ tr')), by rw [List.length_map, ul, al]; exact Nat.le_refl _⟩
      · rintro i x H5 H6 R Z hi s5 ⟨rfl, hy⟩ kR
        rw [List.length_map] at hi
        have ez : us[i]? = some us[i] := List.getElem?_eq_getElem hi
        obtain ⟨t, h1, h2⟩ := ts3 i us[i] ez
        have hx := hy _ (SqT.of (s5 _ _ (s4 _ _ tr')))
        rw [h1] at hx
        cases hx
        exact ⟨rfl, _, rfl, t, _, 1, V.str us[i].cl, rfl, rfl, same_sqt s5 (same_sqt s4 h2), rfl, kR _ _ (by rw [List.getElem?_map, ez]; rfl) (Same.refl _)⟩
      · intro H5 s5 e5
        have lay : PyData.canLay0 (.list (us.map fun z => PyData.str z.cl)) = true := lay_cls fun z hz => by
          obtain ⟨y, _, h2⟩ := uent z hz
          exact (kinds_ok _ h2.cl).2
        have shp : SeqAt.shaped (.list (us.map fun z => PyData.str z.cl)) = true := by
          have h2 : PyData.depth (.list (us.map fun z => PyData.str z.cl)) ≤ 64 := Nat.le_trans (Nat.succ_le_succ (dep_cls us)) (by decide)
          unfold SeqAt.shaped
          rw [lay, decide_eq_true h2]
          rfl
        refine ⟨.list (us.map fun z => PyData.str z.cl), .list (us.map fun z => PyData.str z.cl), .lst (SqL.of (s5 _ _ e4)) (dpAll_cls us), .lst (SqL.of e5) (dpAll_cls us), shp, shp, ?_⟩
        rw [SeqAt.eqv_refl _ lay]
        refine ⟨_, rfl, iteF ?_⟩
        have s45 := s4.trans s5
        exact k _ _ H5 (LS3.same s45) (tgood3.stay (TupK.of s45)).dp
end
end Mg

set_option Elab.async false
set_option linter.all false
set_option maxRecDepth 100000
set_option maxHeartbeats 400000
namespace Mg
open PySem L2
section
variable {K : PySem.W.Frag} {σ : L2.St} {H : Hp} {te te' : TE} {ta : TA} {d d' : PyData} {ds ds' : List PyData} {tl th : TO} {lo hi : Option Int}
theorem ev_catA (h : Ev K te σ H (.tuple ds)) (h' : Ev K te' σ H (.tuple ds')) (hl : ds.length + ds'.length ≤ 1000) : Ev K (tOp (rCatA K) te te') σ H (.tuple (ds ++ ds')) := fun H1 s Q k =>
  h H1 s _ fun v H2 s2 hd => h' H2 (s.trans s2) _ fun v' H3 s3 hd' => by
    obtain ⟨a, xs, rfl, hs, hx⟩ := dp_tup_inv (Dp_same s3 hd)
    obtain ⟨b, ys, rfl, hs', hy⟩ := dp_tup_inv hd'
    refine ⟨a, b, xs, ys, rfl, rfl, hs, hs', by rw [DpAll.len hx, DpAll.len hy]; exact sz1000 hl, fun e => ?_, fun _ e => ?_, fun _ _ p hp => k _ _ ((s2.trans s3).trans (same_new hp)) (.tup (SqT.of upd_same) (DpAll_same (same_new hp) (dpAll_append hx hy)))⟩
    · subst e
      cases hx
      exact k _ _ (s2.trans s3) (.tup hs' hy)
    · subst e
      cases hy
      rw [List.append_nil] at k
      exact k _ _ (s2.trans s3) (.tup hs hx)
theorem dp_at {xs : List V} {n z : Int} (h : DpAll K H xs ds) (e : atI ds n = some (.int z)) : atI xs n = some (.int z) := by
  unfold atI at e ⊢
  rw [DpAll.len h]
  cases hx : ixN ds.length n with
  | none =>
    rw [hx] at e
    cases e
  | some j =>
    rw [hx] at e
    obtain ⟨v, h1, h2⟩ := DpAll.get h (show ds[j]? = some (.int z) from e)
    cases h2
    exact h1
theorem ev_ixop {i iv : Nat} {n z m : Int} (g : Int → Int → Int) (h : Ev K (tVar i) σ H (.tuple ds)) (hv : σ[iv]? = some (some (.int n))) (hz : atI ds n = some (.int z)) : Ev K (tOp (rI0 fun i j => V.int (g i j)) (tOp (rIxT K) (tVar i) (tVar iv)) (tC (.int m))) σ H (.int (g z m)) := fun H1 s Q k =>
  h H1 s (fun x H1 => tVar iv σ H1 fun y H2 => rIxT K x y H2 fun x H1 => tC (V.int m) σ H1 fun y H2 => rI0 (fun i j => V.int (g i j)) x y H2 Q) fun v H2 s2 hd => by
    obtain ⟨a, xs, rfl, hs, hx⟩ := dp_tup_inv hd
    exact ⟨.int n, hv, a, xs, n, .int z, rfl, rfl, hs, dp_at hx hz, z, m, rfl, rfl, k _ H2 s2 (.int _)⟩
theorem rd_bad2 {A1 A2 : TA} {b1 b2 l1 l2 : PyData} {e0 e1 : XK} {b0 : TS} {D : Ends} (h1 : EvA K A1 σ H [b1, l1]) (h2 : EvA K A2 σ H [b2, l2]) (p1 : PreS b1) (p2 : PreS b2) (f1 : (areSymbols b1 && areLengths l1) = false) (f2 : (areSymbols b2 && areLengths l2) = false) (k : ∀ H', Same H H' → D.nx σ H') :
    tIfS (tOr (tNot (tB (tCall (spIsBad K) [] e0 A1))) (tNot (tB (tCall (spIsBad K) [] e1 A2)))) b0 tNext D σ H := by
  refine ev_bad h1 p1 (Same.refl _) fun H1 s1 => ?_
  rw [f1]
  refine ⟨_, rfl, iteF ?_⟩
  refine ev_bad h2 p2 s1 fun H2 s2 => ?_
  rw [f2]
  exact ⟨_, rfl, iteF (k H2 (s1.trans s2))⟩
theorem rd_bad1 {A1 : TA} {b1 l1 : PyData} {e0 : XK} {b0 : TS} {D : Ends} (h1 : EvA K A1 σ H [b1, l1]) (p1 : PreS b1) (f1 : (areSymbols b1 && areLengths l1) = false) (k : ∀ H', Same H H' → D.nx σ H') :
    tIfS (tNot (tB (tCall (spIsBad K) [] e0 A1))) b0 tNext D σ H := by
  refine ev_bad h1 p1 (Same.refl _) fun H1 s1 => ?_
  rw [f1]
  exact ⟨_, rfl, iteF (k H1 s1)⟩
theorem rd_good2 {A1 A2 : TA} {b1 b2 l1 l2 : PyData} {e0 e1 : XK} {b0 : TS} {D : Ends} {tb : TS} (h1 : EvA K A1 σ H [b1, l1]) (h2 : EvA K A2 σ H [b2, l2]) (p1 : PreS b1) (p2 : PreS b2) (f1 : (areSymbols b1 && areLengths l1) = true) (f2 : (areSymbols b2 && areLengths l2) = true) (k : ∀ H', Same H H' → tb D σ H') :
    tSeq (tIfS (tOr (tB (tCall (spIsBad K) [] e0 A1)) (tB (tCall (spIsBad K) [] e1 A2))) b0 tNext) tb D σ H := by
  refine ev_bad h1 p1 (Same.refl _) fun H1 s1 => ?_
  rw [f1]
  refine ⟨_, rfl, iteF ?_⟩
  refine ev_bad h2 p2 s1 fun H2 s2 => ?_
  rw [f2]
  exact ⟨_, rfl, iteF (k H2 (s1.trans s2))⟩
end
section
variable {K : PySem.W.Frag}
theorem rd_badforL {te : TE} {ds : List PyData} {vg : V} {v0 : Option V} {tb : TS} {D : Ends} {σ : L2.St} {H : Hp} {e0 : XK} {b0 : TS} (hl : EvL K te σ H ds) (hσ : σ.set 15 v0 = σ) (h15 : 15 < σ.length) (hv : σ[13]? = some (some vg)) (hd : Dp K H vg goodD)
    (hb : ∀ d ∈ ds, areLengths d = false) (k : ∀ v15 H', Same H H' → tb D (σ.set 15 v15) H') :
    tSeq (tFor (iList K te) (gName 15) (tIfS (tNot (tB (tCall (spIsBad K) [] e0 (tCons (tTup (tCons (tVar 13) tNil)) (tCons (tVar 15) tNil))))) b0 tNext)) tb D σ H := by
  refine hl H (Same.refl _) _ fun a xs H1 s1 e1 hx => ?_
  refine ⟨a, rfl, ⟨_, SqL.of e1⟩, for_list (K := K) (a := a) (xs := xs) (fun i σ' H' => ∃ v, σ' = σ.set 15 v ∧ Same H1 H') ⟨v0, hσ.symm, Same.refl _⟩ (fun i σ' H' _ p => SqL.of (by obtain ⟨_, _, s2⟩ := p; exact s2 _ _ e1)) ?_ ?_⟩
  · rintro i x σ' H2 hi ⟨v, rfl, s2⟩
    obtain ⟨d, hd1⟩ : ∃ d, ds[i]? = some d := by
      have : i < ds.length := by
        rw [← DpAll.len hx]
        exact (List.getElem?_eq_some_iff.mp hi).1
      exact ⟨_, List.getElem?_eq_getElem this⟩
    obtain ⟨u, h1, h2⟩ := DpAll.get hx hd1
    rw [hi] at h1
    cases h1
    have q15 : ((σ.set 15 v).set 15 (some x))[15]? = some (some x) := by simp [h15]
    have q13 : ((σ.set 15 v).set 15 (some x))[13]? = some (some vg) := by simp [hv]
    refine (rd_bad1 (eva_cons (ev_tup (eva_cons (ev_var q13 (Dp_same (s1.trans s2) hd)) eva_nil) (show 1 ≤ 1000 by decide)) (eva_cons (ev_var q15 (Dp_same s2 h2)) eva_nil)) (preS_of (by decide +kernel)) (by rw [hb d (List.mem_of_getElem? hd1), Bool.and_false]) fun H' s' => ?_ : tIfS _ _ _ _ ((σ.set 15 v).set 15 (some x)) H2)
    exact ⟨some x, by simp, s2.trans s'⟩
  · rintro σ' H2 ⟨v, rfl, s2⟩
    exact k v H2 (s1.trans s2)
end
def leastD : List PyData := [0, 1, 0, 0, 0, 0, 0, 1].map .int
def mostD : List PyData := [200, 50, 100, 300, 200, 200, 200, 200].map .int
section
variable {P : Program} {w : World} {K : PySem.W.Frag} {mg : Str → Option Value} {base : Heap} {CF CB CU : Addr} {f : Addr} {cdv : Value} {A : Around} {outer : List Env} {s : Shared} {H0 : Hp} {E : XK}
theorem lawF (L : Law P w K mg base CF CB CU) (hr : RoomL f cdv A s) {tr : TS} (hrest : PSs (XL P w K mg base f cdv A outer s H0 E) (List.drop 24 (defBody sLaw)) tr) :
    ∃ t, PSs (XL P w K mg base f cdv A outer s H0 E) (List.drop 19 (defBody sLaw)) t ∧ ∀ (D : Ends) (a st pd pl p q : Addr) (va vl : V) (ss : List Sym) (ls : List Int) (v6 v7 v8 v9 v10 v11 v12 v14 v15 v16 v17 v18 v19 : Option V) (g : Addr) (H : Hp), LSt K CF H st pd pl p q va vl ss ls → Dp K H (.ref g) goodD →
      (∀ (v15 v20 v21 v22 : Option V) (H' : Hp), LSt K CF H' st pd pl p q va vl ss ls → tr D (slD a st va vl p q v6 v7 v8 v9 v10 v11 v12 (some (.ref g)) v14 v15 v16 v17 v18 v19 v20 v21 v22) H') → t D (slD a st va vl p q v6 v7 v8 v9 v10 v11 v12 (some (.ref g)) v14 v15 v16 v17 v18 v19 none none none) H := by
  have sc := scLaw
  refine ⟨_, (pss_cons (ps_set (i := 20) sc.nd rfl (Or.inl rfl) (pe_tup (pa_cons pe_int (pa_cons pe_int (pa_cons pe_int (pa_cons pe_int (pa_cons pe_int (pa_cons pe_int (pa_cons pe_int (pa_cons pe_int pa_nil))))))))))
  (pss_cons (ps_set (i := 21) sc.nd rfl (Or.inl rfl) (pe_tup (pa_cons pe_int (pa_cons pe_int (pa_cons pe_int (pa_cons pe_int (pa_cons pe_int (pa_cons pe_int (pa_cons pe_int (pa_cons pe_int pa_nil))))))))))
  (pss_cons (ps_for PassesOwn.never rfl (pi_range1 rfl L.range (pa_cons pe_int pa_nil)) (pg_name (i := 22) sc.nd rfl (Or.inl rfl))
  (pss_one (ps_if (PW.pt (pw_or (pt_not (pt_val (pe_cal L.C_law_is_bad (hr.mono (by decide)) rfl pass0 (pa_cons (pe_tup (pa_cons (pv 13) pa_nil)) (pa_cons (pe_op op_catA (pe_op op_catA (pe_slice sl_tupA (pv 20) po_none (po_some (pv 22))) (pe_tup (pa_cons (pe_op op_sub (pe_ix ix_tup (pv 20) (pv 22) (fun _ _ => rfl)) pe_int) pa_nil))) (pe_slice sl_tupA (pv 20) (po_some (pe_op op_add (pv 22) pe_int)) po_none)) pa_nil))))) (pw_or1 (pt_not (pt_val (pe_cal L.C_law_is_bad (hr.mono (by decide)) rfl pass0 (pa_cons (pe_tup (pa_cons (pv 13) pa_nil)) (pa_cons (pe_op op_catA (pe_op op_catA (pe_slice sl_tupA (pv 21) po_none (po_some (pv 22))) (pe_tup (pa_cons (pe_op op_add (pe_ix ix_tup (pv 21) (pv 22) (fun _ _ => rfl)) pe_int) pa_nil))) (pe_slice sl_tupA (pv 21) (po_some (pe_op op_add (pv 22) pe_int)) po_none)) pa_nil))))))))
  (pss_one (ps_ret pe_bl))
  pss_nil)))
  (pss_cons (ps_for PassesOwn.never rfl (pi_list (pe_lst (pa_cons (pe_slice sl_tup (pv 20) po_none (po_some pe_int)) (pa_cons (pe_callTy call_list_of (by rfl) L.b_list (by decide +kernel) (pa_cons (pv 20) pa_nil)) (pa_cons (pe_op op_catT (pv 20) (pe_tup (pa_cons pe_int pa_nil))) (pa_cons (pe_op op_catT (pe_slice sl_tup (pv 20) po_none (po_some pe_int)) (pe_tup (pa_cons pe_str pa_nil))) (pa_cons (pe_op op_repT (pe_tup (pa_cons pe_non pa_nil)) pe_int) pa_nil))))))) (pg_name (i := 15) sc.nd rfl (Or.inl rfl))
  (pss_one (ps_if (pt_not (pt_val (pe_cal L.C_law_is_bad (hr.mono (by decide)) rfl pass0 (pa_cons (pe_tup (pa_cons (pv 13) pa_nil)) (pa_cons (pv 15) pa_nil)))))
  (pss_one (ps_ret pe_bl))
  pss_nil)))
  (pss_cons (ps_if (PW.pt (pw_or (pt_val (pe_cal L.C_law_is_bad (hr.mono (by decide)) rfl pass0 (pa_cons (pe_tup (pa_cons (pv 13) pa_nil)) (pa_cons (pv 20) pa_nil)))) (pw_or1 (pt_val (pe_cal L.C_law_is_bad (hr.mono (by decide)) rfl pass0 (pa_cons (pe_tup (pa_cons (pe_tup (pa_cons pe_str (pa_cons pe_str (pa_cons pe_int (pa_cons pe_int (pa_cons pe_int pa_nil)))))) pa_nil)) (pa_cons (pv 21) pa_nil)))))))
  (pss_one (ps_ret pe_bl))
  pss_nil)
  hrest))))), fun D a st pd pl p q va vl ss ls v6 v7 v8 v9 v10 v11 v12 v14 v15 v16 v17 v18 v19 g H LS hg k => ?_⟩
  have i8 : ∀ {σ : L2.St} {H : Hp} {x1 x2 x3 x4 x5 x6 x7 x8 : Int}, Ev K (tTup (tCons (tC (.int x1)) (tCons (tC (.int x2)) (tCons (tC (.int x3)) (tCons (tC (.int x4)) (tCons (tC (.int x5)) (tCons (tC (.int x6)) (tCons (tC (.int x7)) (tCons (tC (.int x8)) tNil))))))))) σ H (.tuple ([x1, x2, x3, x4, x5, x6, x7, x8].map .int)) :=
    fun {σ H x1 x2 x3 x4 x5 x6 x7 x8} => ev_tup (eva_cons (ev_int x1) (eva_cons (ev_int x2) (eva_cons (ev_int x3) (eva_cons (ev_int x4) (eva_cons (ev_int x5) (eva_cons (ev_int x6) (eva_cons (ev_int x7) (eva_cons (ev_int x8) eva_nil)))))))) (show 8 ≤ 1000 by decide)
  refine rd_set (i8 H (Same.refl _) _ fun v20 H1 s1 d20 => ?_)
  refine rd_set (i8 H1 (Same.refl _) _ fun v21 H2 s2 d21 => ?_)
  have dl : Dp K H2 v20 (.tuple leastD) := Dp_same s2 d20
  have dm : Dp K H2 v21 (.tuple mostD) := d21
  have hg2 := Dp_same (s1.trans s2) hg
  have LS2 := LS.same (s1.trans s2)
  refine ⟨8, rfl, by decide, by decide, for_range (n := 8) (fun j σ' H' => ∃ v22, σ' = slD a st va vl p q v6 v7 v8 v9 v10 v11 v12 (some (.ref g)) v14 v15 v16 v17 v18 v19 (some v20) (some v21) v22 ∧ Same H2 H') ⟨none, rfl, Same.refl _⟩ ?_ ?_⟩
  · rintro j σ' H3 hj ⟨v22, rfl, s3⟩
    refine (?_ : tIfS _ _ _ _ (slD a st va vl p q v6 v7 v8 v9 v10 v11 v12 (some (.ref g)) v14 v15 v16 v17 v18 v19 (some v20) (some v21) (some (.int (0 + (j : Int))))) H3)
    have eg := ev_var (K := K) (σ := slD a st va vl p q v6 v7 v8 v9 v10 v11 v12 (some (.ref g)) v14 v15 v16 v17 v18 v19 (some v20) (some v21) (some (.int (0 + (j : Int))))) (i := 13) rfl (Dp_same s3 hg2)
    have el := ev_var (K := K) (σ := slD a st va vl p q v6 v7 v8 v9 v10 v11 v12 (some (.ref g)) v14 v15 v16 v17 v18 v19 (some v20) (some v21) (some (.int (0 + (j : Int))))) (i := 20) rfl (Dp_same s3 dl)
    have em := ev_var (K := K) (σ := slD a st va vl p q v6 v7 v8 v9 v10 v11 v12 (some (.ref g)) v14 v15 v16 v17 v18 v19 (some v20) (some v21) (some (.int (0 + (j : Int))))) (i := 21) rfl (Dp_same s3 dm)
    have e1 := ev_tup (eva_cons eg eva_nil) (show 1 ≤ 1000 by decide)
    have fin : ∀ H', Same H3 H' → (∃ v22, (slD a st va vl p q v6 v7 v8 v9 v10 v11 v12 (some (.ref g)) v14 v15 v16 v17 v18 v19 (some v20) (some v21) (some (.int (0 + (j : Int))))) = slD a st va vl p q v6 v7 v8 v9 v10 v11 v12 (some (.ref g)) v14 v15 v16 v17 v18 v19 (some v20) (some v21) v22 ∧ Same H2 H') := fun H' s' => ⟨_, rfl, s3.trans s'⟩
    obtain ⟨x, hx, y, hy, g1, g2⟩ : ∃ x, atI leastD (0 + (j : Int)) = some (.int x) ∧ ∃ y, atI mostD (0 + (j : Int)) = some (.int y) ∧
        (areSymbols (.tuple [goodD]) && areLengths (.tuple (cutD leastD none (some (0 + (j : Int))) ++ [.int (x - 1)] ++ cutD leastD (some (0 + (j : Int) + 1)) none))) = false ∧ (areSymbols (.tuple [goodD]) && areLengths (.tuple (cutD mostD none (some (0 + (j : Int))) ++ [.int (y + 1)] ++ cutD mostD (some (0 + (j : Int) + 1)) none))) = false := by
      match j, hj with
      | 0, _ => exact ⟨_, rfl, _, rfl, by decide +kernel, by decide +kernel⟩
      | 1, _ => exact ⟨_, rfl, _, rfl, by decide +kernel, by decide +kernel⟩
      | 2, _ => exact ⟨_, rfl, _, rfl, by decide +kernel, by decide +kernel⟩
      | 3, _ => exact ⟨_, rfl, _, rfl, by decide +kernel, by decide +kernel⟩
      | 4, _ => exact ⟨_, rfl, _, rfl, by decide +kernel, by decide +kernel⟩
      | 5, _ => exact ⟨_, rfl, _, rfl, by decide +kernel, by decide +kernel⟩
      | 6, _ => exact ⟨_, rfl, _, rfl, by decide +kernel, by decide +kernel⟩
      | 7, _ => exact ⟨_, rfl, _, rfl, by decide +kernel, by decide +kernel⟩
    have cl : ∀ (ds : List PyData) (lo hi : Option Int), (cutD ds lo hi).length ≤ ds.length := fun ds lo hi => by
      unfold cutD
      rw [List.length_take, List.length_drop]
      omega
    have f1 := ev_catA (ev_catA (ev_slA el evo_no (evo_var (i := 22) rfl)) (ev_tup (eva_cons (ev_ixop (fun i j => i - j) (m := 1) el (iv := 22) rfl hx) eva_nil) (show 1 ≤ 1000 by decide)) (by have := cl leastD none (some (0 + (j : Int))); simp only [List.length_cons, List.length_nil]; have e8 : leastD.length = 8 := rfl; omega)) (ev_slA el (evo_varp (i := 22) (m := 1) rfl) evo_no) (by have h1 := cl leastD none (some (0 + (j : Int))); have h2 := cl leastD (some (0 + (j : Int) + 1)) none; rw [List.length_append]; simp only [List.length_cons, List.length_nil]; have e8 : leastD.length = 8 := rfl; omega)
    have f2 := ev_catA (ev_catA (ev_slA em evo_no (evo_var (i := 22) rfl)) (ev_tup (eva_cons (ev_ixop (fun i j => i + j) (m := 1) em (iv := 22) rfl hy) eva_nil) (show 1 ≤ 1000 by decide)) (by have := cl mostD none (some (0 + (j : Int))); simp only [List.length_cons, List.length_nil]; have e8 : mostD.length = 8 := rfl; omega)) (ev_slA em (evo_varp (i := 22) (m := 1) rfl) evo_no) (by have h1 := cl mostD none (some (0 + (j : Int))); have h2 := cl mostD (some (0 + (j : Int) + 1)) none; rw [List.length_append]; simp only [List.length_cons, List.length_nil]; have e8 : mostD.length = 8 := rfl; omega)
    refine rd_bad2 (eva_cons e1 (eva_cons f1 eva_nil)) (eva_cons e1 (eva_cons f2 eva_nil)) (preS_of (by decide +kernel)) (preS_of (by decide +kernel)) g1 g2 fin
  · rintro σ' H3 ⟨v22, rfl, s3⟩
    have LS3 := LS2.same s3
    have hg3 := Dp_same s3 hg2
    have dl3 := Dp_same s3 dl
    have el := ev_var (K := K) (σ := slD a st va vl p q v6 v7 v8 v9 v10 v11 v12 (some (.ref g)) v14 v15 v16 v17 v18 v19 (some v20) (some v21) v22) (i := 20) rfl dl3
    have c7 := ev_sl el evo_no (evo_int 7) (show ¬ (HT.sIx 8 0 none = 0 ∧ HT.sIx 8 8 (some 7) = 8) by decide +kernel)
    have hl5 := evl_lst (eva_cons c7 (eva_cons (ev_listOf el).ev (eva_cons (ev_cat el (ev_tup (eva_cons (ev_int 1) eva_nil) (show 1 ≤ 1000 by decide)) (fun z => nomatch z) (show 8 + 1 ≤ 1000 by decide)) (eva_cons (ev_cat c7 (ev_tup (eva_cons (ev_str "1") eva_nil) (show 1 ≤ 1000 by decide)) (fun z => nomatch z) (by decide +kernel)) (eva_cons (ev_rep (n := 8) (ev_tup (eva_cons ev_non eva_nil) (show 1 ≤ 1000 by decide)) (fun z => nomatch z) (by decide) (by decide) (show 1 ≤ 1000 by decide)) eva_nil))))) (show 5 ≤ 1000 by decide)
    refine rd_badforL (v0 := v15) hl5 rfl (by show 15 < 24; decide) rfl hg3 (by decide +kernel) fun v15' H4 s4 => ?_
    have hg4 := Dp_same s4 hg3
    have LS4 := LS3.same s4
    have dl4 := Dp_same s4 dl3
    have dm4 := Dp_same (s3.trans s4) dm
    refine rd_good2 (eva_cons (ev_tup (eva_cons (ev_var rfl hg4) eva_nil) (show 1 ≤ 1000 by decide)) (eva_cons (ev_var rfl dl4) eva_nil)) (eva_cons (ev_tup (eva_cons (ev_tup (eva_cons (ev_str "x") (eva_cons (ev_str "ord") (eva_cons (ev_int 1000) (eva_cons (ev_int 1000) (eva_cons (ev_int 1000) eva_nil))))) (show 5 ≤ 1000 by decide)) eva_nil) (show 1 ≤ 1000 by decide)) (eva_cons (ev_var rfl dm4) eva_nil)) (preS_of (by decide +kernel)) (preS_of (by decide +kernel)) (by decide +kernel) (by decide +kernel) fun H5 s5 => ?_
    exact k _ _ _ _ H5 (LS4.same s5)
end
end Mg

set_option Elab.async false
set_option linter.all false
set_option maxRecDepth 100000
set_option maxHeartbeats 400000
namespace Mg
open PySem L2
section
variable {P : Program} {w : World} {K : PySem.W.Frag} {mg : Str → Option Value} {base : Heap} {CF CB CU : Addr} {f : Addr} {cdv : Value} {A : Around} {outer : List Env} {s : Shared} {H0 : Hp} {E : XK}
theorem look_none {ss : List Sym} {x : Str} (h : x ∉ ss.map (·.nm)) : look ss x = none := by
  unfold look
  rw [List.find?_eq_none]
  intro y hy e
  exact h (by rw [← eq_of_beq e]; exact List.mem_map_of_mem hy)
theorem lawG (L : Law P w K mg base CF CB CU) (hr : RoomL f cdv A s) :
    ∃ t, PSs (XL P w K mg base f cdv A outer s H0 E) (List.drop 24 (defBody sLaw)) t ∧ ∀ (D : Ends) (a st pd pl p q : Addr) (va vl : V) (ss : List Sym) (ls : List Int) (v6 v7 v8 v9 v10 v11 v12 v13 v14 v15 v16 v17 v18 v19 v20 v21 v22 : Option V) (H : Hp), Drawn ss ls → LSt K CF H st pd pl p q va vl ss ls →
      (∀ H', D.rt (.bl true) H') → t D (slD a st va vl p q v6 v7 v8 v9 v10 v11 v12 v13 v14 v15 v16 v17 v18 v19 v20 v21 v22) H := by
  have sc := scLaw
  have hrest : PSs (XL P w K mg base f cdv A outer s H0 E) [] tNext := pss_nil
  refine ⟨_, (pss_cons (ps_ret (pe_cmpR (op_eqD hr.units) (pe_lc (own := [("kind", 7)]) rfl sc.nd (pi_range1 rfl L.range (pa_cons pe_int pa_nil)) (blkOk_by (own := [("kind", 7)]) (N := ["script", "stream", "symbols", "lengths", "font", "other", "name", "kind", "width", "height", "depth", "style", "length", "good", "wrong", "bad", "names", "many", "kinds", "turned", "least", "most", "k", "row"]) (sc := defScope sLaw) (by decide +kernel)) (fun _ _ _ _ _ => (pg_name (i := 7) sc.nd rfl (Or.inl rfl))) (fun _ _ _ _ _ => pts_nil) (fun _ _ _ _ _ => (pe_cal L.C_law_unknown (hr.mono (by decide)) rfl pass0 (pa_cons (pv 5) (pa_cons (pe_ix (r := rIxL K) ix_list (pe_lst (pa_cons pe_str (pa_cons pe_str pa_nil))) (pe_op op_mod (pv 7) pe_int) (fun _ _ => rfl)) (pa_cons (pv 7) pa_nil)))))) (pe_op op_rep (pe_lst (pa_cons pe_bl pa_nil)) pe_int) (nomark _)))
  hrest), fun D a st pd pl p q va vl ss ls v6 v7 v8 v9 v10 v11 v12 v13 v14 v15 v16 v17 v18 v19 v20 v21 v22 H DR LS k => ?_⟩
  obtain ⟨vb, FB⟩ := LS.G
  obtain ⟨a1, a2, a3, a4, a5, a6, a7, a8, el, b1, b2, b3, b4, b5, b6, b7, b8, b9⟩ := DR.lens
  have h7 : ls[7]? = some a8 := by
    rw [el]
    rfl
  have n12 : (ss.take 12).map (·.nm) = nmsR.take 12 := by rw [List.map_take, DR.nm]
  refine ⟨3, rfl, by decide, by decide, fun Dl hD => ?_⟩
  refine lc_pure [V.bl true, .bl true, .bl true] hD (by show 3 ≤ sizeLine; decide) (fun i H' hi s' => hi) (fun H' s' => Nat.le_refl _) ?_ ?_
  · rintro i x H1 H2 R Z hi s1 ⟨rfl, rfl⟩ kR
    have hi3 : i < 3 := hi
    refine ⟨rfl, ?_⟩
    refine ⟨_, rfl, (by show 2 ≤ sizeLine; decide), fun l nl => ⟨_, rfl, _, _, rfl, rfl, (by show (0 : Int) < 2; decide), ?_⟩⟩
    have s2 : Same H2 (upd H2 l (.lst [.str "@root", .str "z"])) := same_new nl
    obtain ⟨x, h1, h2, h3⟩ : ∃ x : Str, atI [V.str "@root", .str "z"] ((0 + (i : Int)) % 2) = some (.str x) ∧ x.length ≤ 1000 ∧ x ∉ nmsR.take 12 := by
      match i, hi3 with
      | 0, _ => exact ⟨_, rfl, by decide +kernel, by decide +kernel⟩
      | 1, _ => exact ⟨_, rfl, by decide +kernel, by decide +kernel⟩
      | 2, _ => exact ⟨_, rfl, by decide +kernel, by decide +kernel⟩
    refine ⟨l, _, _, V.str x, rfl, rfl, SqL.of upd_same, h1, _, rfl, q, x, _, vb, vl, ss.take 12, ls, a8, rfl, h2, (FB.same s1).same s2, look_none (by rw [n12]; exact h3), h7, by omega, by omega, fun H' s' => kR _ _ ?_ (s2.trans s')⟩
    match i, hi3 with
    | 0, _ => rfl
    | 1, _ => rfl
    | 2, _ => rfl
  · intro H1 s1 e1
    refine ⟨(by show 1 ≤ sizeLine; decide), fun l nl => ⟨l, 3, _, rfl, rfl, upd_same, by decide, by decide, (by show 3 ≤ sizeLine; decide), fun r nr => ?_⟩⟩
    have s2 := (same_new (o := .lst [V.bl true]) nl).trans (same_new (o := .lst (List.replicate (3 : Int).toNat [V.bl true]).flatten) nr)
    exact ⟨.list [.bool true, .bool true, .bool true], .list [.bool true, .bool true, .bool true], .lst (SqL.of (s2 _ _ e1)) (.cons (.bl _) (.cons (.bl _) (.cons (.bl _) .nil))), .lst (SqL.of upd_same) (.cons (.bl _) (.cons (.bl _) (.cons (.bl _) .nil))), by decide +kernel, by decide +kernel, k _⟩
def spLaw (K : PySem.W.Frag) : Sp := fun vs H Q _ => ∃ (a : Addr) (ns : List Int), vs = [.ref a] ∧ SqL K H a (ns.map V.int) ∧ ∀ H', Q (.bl true) H'
theorem ok_law {fd : FuncData} (F : Fun K "law" "law" sLaw f fd) (L : Law P w K mg base CF CB CU) : FnOk P w K mg base CX0 8 f fd ["script"] (spLaw K) := by
  refine F.ok scLaw (fun vs H Q E h => ?_) (fun cdv A outer s H vs Q E hr h => ?_)
  · obtain ⟨a, ns, rfl, _⟩ := h
    rfl
  · obtain ⟨a, ns, rfl, hS, k⟩ := h
    obtain ⟨tG, pG, rG⟩ := lawG (outer := outer) (H0 := H) (E := E) L hr
    obtain ⟨tF, pF, rF⟩ := lawF (outer := outer) (H0 := H) (E := E) L hr pG
    obtain ⟨tE, pE, rE⟩ := lawE (outer := outer) (H0 := H) (E := E) L hr pF
    obtain ⟨tD, pD, rD⟩ := lawD (outer := outer) (H0 := H) (E := E) L hr pE
    obtain ⟨tC2, pC2, rC2⟩ := lawC2 (outer := outer) (H0 := H) (E := E) L hr pD
    obtain ⟨tC1, pC1, rC1⟩ := lawC1 (outer := outer) (H0 := H) (E := E) L hr pC2
    obtain ⟨tB, pB, rB⟩ := lawB (outer := outer) (H0 := H) (E := E) L hr pC1
    obtain ⟨tA, pA, rA⟩ := lawA (outer := outer) (H0 := H) (E := E) L hr hS pB
    refine ⟨tA, pA, rA _ fun st pd pl p q va vl ss ls H1 DR L1 => ?_⟩
    refine rB _ a st pd pl p q va vl ss ls H1 DR L1 fun v6 v7 v8 v9 v10 v11 v12 H2 L2 => ?_
    refine rC1 _ a st pd pl p q va vl ss ls v6 v7 v8 v9 v10 v11 v12 H2 L2 fun g H3 L3 g3 => ?_
    refine rC2 _ a st pd pl p q va vl ss ls v6 v7 v8 v9 v10 v11 v12 g H3 L3 g3 fun v14 v15 H4 L4 g4 => ?_
    refine rD _ a st pd pl p q va vl ss ls v6 v7 v8 v9 v10 v11 v12 v14 v15 g H4 DR L4 g4 fun v16 v17 H5 L5 g5 => ?_
    refine rE _ a st pd pl p q va vl ss ls v6 v7 v8 v9 v10 v11 v12 v14 v15 v16 v17 g H5 DR L5 g5 fun v18 v19 H6 L6 g6 => ?_
    refine rF _ a st pd pl p q va vl ss ls v6 v7 v8 v9 v10 v11 v12 v14 v15 v16 v17 v18 v19 g H6 L6 g6 fun v15' v20 v21 v22 H7 L7 => ?_
    exact rG _ a st pd pl p q va vl ss ls v6 v7 v8 v9 v10 v11 v12 _ v14 v15' v16 v17 v18 v19 v20 v21 v22 H7 DR L7 fun H' => k H'
end
end Mg

set_option Elab.async false
set_option linter.all false
set_option maxRecDepth 100000
set_option maxHeartbeats 4000000
namespace Mg
open PySem L2
theorem sqt_of {K : PySem.W.Frag} {a : Addr} {od : Option Addr} {its : Array Value} {n : Nat} {sl : Array (Option Value)} {xs : List V} (h : K.lookup a = some ⟨.type "tuple", od, .seq its n, sl⟩) (hz : its.size ≤ sizeLine) (hv : Vals xs its.toList) : ∀ H, SqT K H a xs := fun H => .inr ⟨_, its, n, h, rfl, rfl, hz, hv⟩
theorem kit_own {K : PySem.W.Frag} {t : Value} {C : Addr} (h1 : PySem.W.hasDictIn K C = true) (h2 : PySem.W.typeIn K (.ref C) = some (.type "type")) (h3 : PySem.W.subIn K t (.ref C) = some true) : PySem.W.kitCls K t (.ref C) = some true := by
  obtain ⟨cd, hc, _⟩ := PySem.W.any_some h1
  unfold PySem.W.kitCls
  have e : ((PySem.W.clsIn K C).isSome && PySem.W.typeIn K (.ref C) == some (.type "type")) = true := by
    rw [hc, h2]
    rfl
  dsimp only
  rw [if_pos e]
  exact h3
theorem kit_VE {K : PySem.W.Frag} {t : Value} (h : PySem.W.subIn K t (.type "ValueError") = some true) : PySem.W.kitCls K t (.type "ValueError") = some true := by
  unfold PySem.W.kitCls
  dsimp only
  rw [if_pos (by decide +kernel)]
  exact h
theorem kit_me {K : PySem.W.Frag} {C : Addr} : PySem.W.kitOne K (.ref C) (.ref C) = some true := by
  unfold PySem.W.kitOne
  rw [if_pos (by simp)]
theorem ne_ref {a b : Addr} (h : a ≠ b) : (Value.ref a == Value.ref b) = false := by
  simp [h]
theorem all_mk {P : Program} {w : World} {K : PySem.W.Frag} {h : Heap} {mg : Str → Option Value} {fa : Addr} {CF CB CU CS f0 f1 f2 f3 f4 f5 f6 f7 f8 f9 f10 f11 f12 f13 f14 f15 f16 f17 f18 f19 m0 m1 m2 m3 m4 m5 m6 fL fU cdaU ccU uN aR aC aM0 aM1 aM2 aM3 aM4 aM5 aM6 aM7 aLL : Addr} {tfU t_LETTERS t_SIGNS t_MOST_LETTERS t_ROOT_SIGN t_MOST_MEASURE t_MOST_SYMBOLS t_aR0 t_aR1 t_aR2 t_aR3 t_aR4 t_aC0 t_aC1 t_aC2 t_aC3 t_aC4 t_aC5 t_aC6 tp0 tq0 tp1 tq1 tp2 tq2 tp3 tq3 tp4 tq4 tp5 tq5 tp6 tq6 tp7 tq7 t_STEP t_RULE : Tok}
    {ocL kVL dcL pmL cdL ctL : Value} {odL anL : Option Addr} {slL : Array (Option Value)}
    {unm uq : Str} {ubs : List Value} {usn : List Str} {usub : List Value} {uab : Bool} {ucol : Option Bool} {udd : Option Addr} {um0 um1 um2 um3 um5 : Option Value} {ocU dcU pmU ctU clU cclU : Value} {odU anU cldU cddU : Option Addr} {slU cslU ccsU : Array (Option Value)} {vsU : Array Value} {fileU : Str}
    {od_k_RESERVED od_k_CLASSES od_k_LENGTH_LIMITS od_kM0 od_kM1 od_kM2 od_kM3 od_kM4 od_kM5 od_kM6 od_kM7 : Option Addr} {n_k_RESERVED n_k_CLASSES n_k_LENGTH_LIMITS n_kM0 n_kM1 n_kM2 n_kM3 n_kM4 n_kM5 n_kM6 n_kM7 : Nat} {sl_k_RESERVED sl_k_CLASSES sl_k_LENGTH_LIMITS sl_kM0 sl_kM1 sl_kM2 sl_kM3 sl_kM4 sl_kM5 sl_kM6 sl_kM7 : Array (Option Value)}
    (X : K.In h) (G : h.Ns mainGlobals mg) (hfa : mg "law" = some (.ref fa))
    (gF : PySem.W.nsIn K mainGlobals "Font" = some (some (.ref CF)))
    (gB : PySem.W.nsIn K mainGlobals "BadFont" = some (some (.ref CB)))
    (gU : PySem.W.nsIn K mainGlobals "UnknownSymbol" = some (some (.ref CU)))
    (gS : PySem.W.nsIn K mainGlobals "SetError" = some (some (.ref CS)))
    (z_len : PySem.W.nsIn K mainGlobals "len" = some none)
    (z_int : PySem.W.nsIn K mainGlobals "int" = some none)
    (z_abs : PySem.W.nsIn K mainGlobals "abs" = some none)
    (z_range : PySem.W.nsIn K mainGlobals "range" = some none)
    (z_isinstance : PySem.W.nsIn K mainGlobals "isinstance" = some none)
    (z_tuple : PySem.W.nsIn K mainGlobals "tuple" = some none)
    (z_list : PySem.W.nsIn K mainGlobals "list" = some none)
    (z_bool : PySem.W.nsIn K mainGlobals "bool" = some none)
    (z_str : PySem.W.nsIn K mainGlobals "str" = some none)
    (z_all : PySem.W.nsIn K mainGlobals "all" = some none)
    (z_zip : PySem.W.nsIn K mainGlobals "zip" = some none)
    (z_max : PySem.W.nsIn K mainGlobals "max" = some none)
    (z_ValueError : PySem.W.nsIn K mainGlobals "ValueError" = some none)
    (z_super : PySem.W.nsIn K mainGlobals "super" = some none)
    (a0 : PySem.W.nsIn K mainGlobals "is_command" = some (some (.ref f0)))
    (d0 : ∃ fd, Fun K "is_command" "is_command" sIsCommand f0 fd)
    (k0 : PySem.W.keepIn K (.ref f0) = true)
    (a1 : PySem.W.nsIn K mainGlobals "is_symbol" = some (some (.ref f1)))
    (d1 : ∃ fd, Fun K "is_symbol" "is_symbol" sIsSymbol f1 fd)
    (k1 : PySem.W.keepIn K (.ref f1) = true)
    (a2 : PySem.W.nsIn K mainGlobals "scaled" = some (some (.ref f2)))
    (d2 : ∃ fd, Fun K "scaled" "scaled" sScaled f2 fd)
    (k2 : PySem.W.keepIn K (.ref f2) = true)
    (a3 : PySem.W.nsIn K mainGlobals "are_symbols" = some (some (.ref f3)))
    (d3 : ∃ fd, Fun K "are_symbols" "are_symbols" sAreSymbols f3 fd)
    (k3 : PySem.W.keepIn K (.ref f3) = true)
    (a4 : PySem.W.nsIn K mainGlobals "is_entry" = some (some (.ref f4)))
    (d4 : ∃ fd, Fun K "is_entry" "is_entry" sIsEntry f4 fd)
    (k4 : PySem.W.keepIn K (.ref f4) = true)
    (a5 : PySem.W.nsIn K mainGlobals "are_lengths" = some (some (.ref f5)))
    (d5 : ∃ fd, Fun K "are_lengths" "are_lengths" sAreLengths f5 fd)
    (k5 : PySem.W.keepIn K (.ref f5) = true)
    (a6 : PySem.W.nsIn K mainGlobals "is_integer" = some (some (.ref f6)))
    (d6 : ∃ fd, Fun K "is_integer" "is_integer" sIsInteger f6 fd)
    (k6 : PySem.W.keepIn K (.ref f6) = true)
    (a7 : PySem.W.nsIn K mainGlobals "length_of" = some (some (.ref f7)))
    (d7 : ∃ fd, Fun K "length_of" "length_of" sLengthOf f7 fd)
    (k7 : PySem.W.keepIn K (.ref f7) = true)
    (a8 : PySem.W.nsIn K mainGlobals "_law_cell" = some (some (.ref f8)))
    (d8 : ∃ fd, Fun K "_law_cell" "_law_cell" sCell f8 fd)
    (k8 : PySem.W.keepIn K (.ref f8) = true)
    (a9 : PySem.W.nsIn K mainGlobals "_law_draws" = some (some (.ref f9)))
    (d9 : ∃ fd, Fun K "_law_draws" "_law_draws" sDraws f9 fd)
    (k9 : PySem.W.keepIn K (.ref f9) = true)
    (a10 : PySem.W.nsIn K mainGlobals "_law_stream" = some (some (.ref f10)))
    (d10 : ∃ fd, Fun K "_law_stream" "_law_stream" sStream f10 fd)
    (k10 : PySem.W.keepIn K (.ref f10) = true)
    (a11 : PySem.W.nsIn K mainGlobals "_law_next" = some (some (.ref f11)))
    (d11 : ∃ fd, Fun K "_law_next" "_law_next" sNext f11 fd)
    (k11 : PySem.W.keepIn K (.ref f11) = true)
    (a12 : PySem.W.nsIn K mainGlobals "_law_names" = some (some (.ref f12)))
    (d12 : ∃ fd, Fun K "_law_names" "_law_names" sNames f12 fd)
    (k12 : PySem.W.keepIn K (.ref f12) = true)
    (a13 : PySem.W.nsIn K mainGlobals "_law_font" = some (some (.ref f13)))
    (d13 : ∃ fd, Fun K "_law_font" "_law_font" sLFont f13 fd)
    (k13 : PySem.W.keepIn K (.ref f13) = true)
    (a14 : PySem.W.nsIn K mainGlobals "_law_same" = some (some (.ref f14)))
    (d14 : ∃ fd, Fun K "_law_same" "_law_same" sSame f14 fd)
    (k14 : PySem.W.keepIn K (.ref f14) = true)
    (a15 : PySem.W.nsIn K mainGlobals "_law_scaled" = some (some (.ref f15)))
    (d15 : ∃ fd, Fun K "_law_scaled" "_law_scaled" sLScaled f15 fd)
    (k15 : PySem.W.keepIn K (.ref f15) = true)
    (a16 : PySem.W.nsIn K mainGlobals "_law_sizes" = some (some (.ref f16)))
    (d16 : ∃ fd, Fun K "_law_sizes" "_law_sizes" sLSizes f16 fd)
    (k16 : PySem.W.keepIn K (.ref f16) = true)
    (a17 : PySem.W.nsIn K mainGlobals "_law_is_bad" = some (some (.ref f17)))
    (d17 : ∃ fd, Fun K "_law_is_bad" "_law_is_bad" sIsBad f17 fd)
    (k17 : PySem.W.keepIn K (.ref f17) = true)
    (a18 : PySem.W.nsIn K mainGlobals "_law_unknown" = some (some (.ref f18)))
    (d18 : ∃ fd, Fun K "_law_unknown" "_law_unknown" sUnknown f18 fd)
    (k18 : PySem.W.keepIn K (.ref f18) = true)
    (a19 : PySem.W.nsIn K mainGlobals "_law_stretches" = some (some (.ref f19)))
    (d19 : ∃ fd, Fun K "_law_stretches" "_law_stretches" sLStretches f19 fd)
    (k19 : PySem.W.keepIn K (.ref f19) = true)
    (ma0 : PySem.W.findIn K (.ref CF) "__init__" = some (some (.ref m0)))
    (mi0 : PySem.W.isFn K (.ref m0) = true)
    (md0 : ∃ fd, Fun K "__init__" "Font.__init__" sFInit m0 fd)
    (mk0 : PySem.W.keepIn K (.ref m0) = true)
    (ma1 : PySem.W.findIn K (.ref CF) "__eq__" = some (some (.ref m1)))
    (mi1 : PySem.W.isFn K (.ref m1) = true)
    (md1 : ∃ fd, Fun K "__eq__" "Font.__eq__" sFEq m1 fd)
    (mk1 : PySem.W.keepIn K (.ref m1) = true)
    (ma2 : PySem.W.findIn K (.ref CF) "__len__" = some (some (.ref m2)))
    (mi2 : PySem.W.isFn K (.ref m2) = true)
    (md2 : ∃ fd, Fun K "__len__" "Font.__len__" sFLen m2 fd)
    (mk2 : PySem.W.keepIn K (.ref m2) = true)
    (ma3 : PySem.W.findIn K (.ref CF) "class_of" = some (some (.ref m3)))
    (mi3 : PySem.W.isFn K (.ref m3) = true)
    (md3 : ∃ fd, Fun K "class_of" "Font.class_of" sFClassOf m3 fd)
    (mk3 : PySem.W.keepIn K (.ref m3) = true)
    (ma4 : PySem.W.findIn K (.ref CF) "metrics" = some (some (.ref m4)))
    (mi4 : PySem.W.isFn K (.ref m4) = true)
    (md4 : ∃ fd, Fun K "metrics" "Font.metrics" sFMetrics m4 fd)
    (mk4 : PySem.W.keepIn K (.ref m4) = true)
    (ma5 : PySem.W.findIn K (.ref CF) "stretched" = some (some (.ref m5)))
    (mi5 : PySem.W.isFn K (.ref m5) = true)
    (md5 : ∃ fd, Fun K "stretched" "Font.stretched" sFStretched m5 fd)
    (mk5 : PySem.W.keepIn K (.ref m5) = true)
    (ma6 : PySem.W.findIn K (.ref CF) "_entry" = some (some (.ref m6)))
    (mi6 : PySem.W.isFn K (.ref m6) = true)
    (md6 : ∃ fd, Fun K "_entry" "Font._entry" sFEntry m6 fd)
    (mk6 : PySem.W.keepIn K (.ref m6) = true)
    (aL : PySem.W.nsIn K mainGlobals "law" = some (some (.ref fL)))
    (lL : K.lookup fL = some ⟨ocL, odL, .func (PySem.W.fnOf "law" "law" (defArgs sLaw) (defBody sLaw) (defScope sLaw) .none kVL dcL pmL anL cdL ctL), slL⟩)
    (cL : PySem.W.codeIn K cdL "law" = true)
    (kL : PySem.W.keepIn K (.ref fL) = true)
    (pg : PySem.W.plainGet K CF Str.empty = true)
    (hd : PySem.W.hasDictIn K CF = true)
    (po : PySem.W.plainOver K CF = true)
    (sa : PySem.W.findIn K (.ref CF) "__setattr__" = some (some (.builtin "object.__setattr__")))
    (mkc : PySem.W.makesIn K CF = true)
    (kcF : PySem.W.keepIn K (.ref CF) = true)
    (n_symbols : PySem.W.findIn K (.ref CF) "symbols" = some none)
    (n_lengths : PySem.W.findIn K (.ref CF) "lengths" = some none)
    (n__entries : PySem.W.findIn K (.ref CF) "_entries" = some none)
    (ic1 : PySem.W.findIn K (.ref CF) "__class__" = some (some (.builtin "object.__class__")))
    (ic2 : PySem.W.specialIn K (.builtin "object.__class__") "__get__" = some (some (.builtin "getset_descriptor.__get__")))
    (ic3 : PySem.W.takesIn K (.builtin "object.__class__") = some true)
    (ic4 : PySem.W.mroIn K CF (.type "object") = some true)
    (bx : PySem.W.excIn K CB [.type "ValueError", .type "Exception", .type "BaseException", .type "object"] "ValueError.__new__" = true)
    (bk : PySem.W.keepIn K (.ref CB) = true)
    (bb : PySem.W.subIn K (.ref CB) (.type "BaseException") = some true)
    (bt : PySem.W.typeIn K (.ref CB) = some (.type "type"))
    (bd : PySem.W.hasDictIn K CB = true)
    (bs : PySem.W.subIn K (.ref CB) (.ref CB) = some true)
    (bS : PySem.W.subIn K (.ref CB) (.ref CS) = some true)
    (bV : PySem.W.subIn K (.ref CB) (.type "ValueError") = some true)
    (bN : CB ≠ CS)
    (sb : PySem.W.subIn K (.ref CS) (.type "BaseException") = some true)
    (sd : PySem.W.hasDictIn K CS = true)
    (st : PySem.W.typeIn K (.ref CS) = some (.type "type"))
    (uL : K.lookup CU = some (excClassObj unm uq CU uN ubs [.ref CS, .type "ValueError", .type "Exception", .type "BaseException", .type "object"] true usn usub uab ucol udd um0 um1 um2 um3 um5 "ValueError.__new__"))
    (usa : PySem.W.findIn K (.ref CU) "__setattr__" = some (some (.builtin "object.__setattr__")))
    (uga : PySem.W.findIn K (.ref CU) "__getattribute__" = some (some (.builtin "BaseException.__getattribute__")))
    (ugg : PySem.W.findIn K (.ref CU) "__getattr__" = some none)
    (un : PySem.W.findIn K (.ref CU) "name" = some none)
    (ui : PySem.W.findIn K (.ref CU) "__init__" = some (some (.ref fU)))
    (ut : PySem.W.typeIn K (.ref fU) = some (.type "function"))
    (uk : PySem.W.keepIn K (.ref CU) = true)
    (ub : PySem.W.subIn K (.ref CU) (.type "BaseException") = some true)
    (uty : PySem.W.typeIn K (.ref CU) = some (.type "type"))
    (ud : PySem.W.hasDictIn K CU = true)
    (uV : PySem.W.subIn K (.ref CU) (.type "ValueError") = some true)
    (uS : PySem.W.subIn K (.ref CU) (.ref CS) = some true)
    (us : PySem.W.subIn K (.ref CU) (.ref CU) = some true)
    (uo : PySem.W.mroIn K CU (.ref CU) = some true)
    (ual : PySem.W.ks_superIn K CU CU "__init__" = some (some (.builtin "ValueError.__init__")))
    (uop : PySem.W.nsIn K cStatics "thirdparty.any" = some none)
    (ufn : K.lookup fU = some ⟨ocU, odU, .func (PySem.W.ksFn "__init__" "UnknownSymbol.__init__" (PySem.MgU.iA ⟨6, 17, 6, 21⟩ ⟨6, 23, 6, 27⟩) (PySem.MgU.iB "the font has no symbol " ⟨7, 8, 7, 13⟩ ⟨7, 8, 7, 15⟩ ⟨7, 8, 7, 24⟩ ⟨7, 27, 7, 50⟩ ⟨7, 51, 7, 55⟩ ⟨7, 50, 7, 56⟩ ⟨7, 25, 7, 57⟩ ⟨7, 8, 7, 58⟩ ⟨7, 8, 7, 58⟩ ⟨8, 8, 8, 12⟩ ⟨8, 8, 8, 17⟩ ⟨8, 20, 8, 24⟩ ⟨8, 8, 8, 24⟩) PySem.MgU.iS .none .none dcU pmU anU (.ref cdaU) ctU ccU), slU⟩)
    (ucd : PySem.W.codeIn K (.ref cdaU) "UnknownSymbol.__init__" = true)
    (ucc : K.lookup ccU = some ⟨clU, cldU, .cell (some (.ref CU)), cslU⟩)
    (uda : K.lookup cdaU = some ⟨cclU, cddU, .fields vsU, ccsU⟩)
    (uvs : vsU[2]? = some (.str fileU tfU))
    (ufl : ((P.main.file : Str) == fileU) = true)
    (uht : (P.main.scope.names.lookup ("super" : Str)).isSome = false)
    (neU : CU ≠ CS)
    (c_LETTERS : PySem.W.nsIn K mainGlobals "LETTERS" = some (some (.str cLETTERS t_LETTERS)))
    (c_SIGNS : PySem.W.nsIn K mainGlobals "SIGNS" = some (some (.str cSIGNS t_SIGNS)))
    (c_MOST_LETTERS : PySem.W.nsIn K mainGlobals "MOST_LETTERS" = some (some (.int 8 t_MOST_LETTERS)))
    (c_ROOT_SIGN : PySem.W.nsIn K mainGlobals "ROOT_SIGN" = some (some (.str "@root" t_ROOT_SIGN)))
    (c_MOST_MEASURE : PySem.W.nsIn K mainGlobals "MOST_MEASURE" = some (some (.int 1000 t_MOST_MEASURE)))
    (c_MOST_SYMBOLS : PySem.W.nsIn K mainGlobals "MOST_SYMBOLS" = some (some (.int 60 t_MOST_SYMBOLS)))
    (c_RESERVED : PySem.W.nsIn K mainGlobals "RESERVED" = some (some (.ref aR)))
    (k_RESERVED : K.lookup aR = some ⟨.type "tuple", od_k_RESERVED, .seq #[.str "@frac" t_aR0, .str "@root" t_aR1, .str "@left" t_aR2, .str "@right" t_aR3, .str "@grid" t_aR4] n_k_RESERVED, sl_k_RESERVED⟩)
    (c_CLASSES : PySem.W.nsIn K mainGlobals "CLASSES" = some (some (.ref aC)))
    (k_CLASSES : K.lookup aC = some ⟨.type "tuple", od_k_CLASSES, .seq #[.str "op" t_aC0, .str "ord" t_aC1, .str "bin" t_aC2, .str "rel" t_aC3, .str "open" t_aC4, .str "close" t_aC5, .str "punct" t_aC6] n_k_CLASSES, sl_k_CLASSES⟩)
    (c_LENGTH_LIMITS : PySem.W.nsIn K mainGlobals "LENGTH_LIMITS" = some (some (.ref aLL)))
    (k_LENGTH_LIMITS : K.lookup aLL = some ⟨.type "tuple", od_k_LENGTH_LIMITS, .seq #[.ref aM0, .ref aM1, .ref aM2, .ref aM3, .ref aM4, .ref aM5, .ref aM6, .ref aM7] n_k_LENGTH_LIMITS, sl_k_LENGTH_LIMITS⟩)
    (kM0 : K.lookup aM0 = some ⟨.type "tuple", od_kM0, .seq #[.int 0 tp0, .int 200 tq0] n_kM0, sl_kM0⟩)
    (kM1 : K.lookup aM1 = some ⟨.type "tuple", od_kM1, .seq #[.int 1 tp1, .int 50 tq1] n_kM1, sl_kM1⟩)
    (kM2 : K.lookup aM2 = some ⟨.type "tuple", od_kM2, .seq #[.int 0 tp2, .int 100 tq2] n_kM2, sl_kM2⟩)
    (kM3 : K.lookup aM3 = some ⟨.type "tuple", od_kM3, .seq #[.int 0 tp3, .int 300 tq3] n_kM3, sl_kM3⟩)
    (kM4 : K.lookup aM4 = some ⟨.type "tuple", od_kM4, .seq #[.int 0 tp4, .int 200 tq4] n_kM4, sl_kM4⟩)
    (kM5 : K.lookup aM5 = some ⟨.type "tuple", od_kM5, .seq #[.int 0 tp5, .int 200 tq5] n_kM5, sl_kM5⟩)
    (kM6 : K.lookup aM6 = some ⟨.type "tuple", od_kM6, .seq #[.int 0 tp6, .int 200 tq6] n_kM6, sl_kM6⟩)
    (kM7 : K.lookup aM7 = some ⟨.type "tuple", od_kM7, .seq #[.int 1 tp7, .int 200 tq7] n_kM7, sl_kM7⟩)
    (c_STEP : PySem.W.nsIn K mainGlobals "STEP" = some (some (.int 7 t_STEP)))
    (c_RULE : PySem.W.nsIn K mainGlobals "RULE" = some (some (.int 1 t_RULE)))
    : ∃ fd : FuncData, (∀ (s : Shared) (v : Value), BindsTo s fd ⟨[v], []⟩ [("script", v)]) ∧ ∀ base : Heap, K.In base → base.Ns mainGlobals mg → FnOk P w K mg base CX0 8 fa fd ["script"] (spLaw K) := by
  have e := hfa.symm.trans (PySem.W.mg_of X G aL)
  cases e
  obtain ⟨fd0, F0⟩ := d0
  obtain ⟨fd1, F1⟩ := d1
  obtain ⟨fd2, F2⟩ := d2
  obtain ⟨fd3, F3⟩ := d3
  obtain ⟨fd4, F4⟩ := d4
  obtain ⟨fd5, F5⟩ := d5
  obtain ⟨fd6, F6⟩ := d6
  obtain ⟨fd7, F7⟩ := d7
  obtain ⟨fd8, F8⟩ := d8
  obtain ⟨fd9, F9⟩ := d9
  obtain ⟨fd10, F10⟩ := d10
  obtain ⟨fd11, F11⟩ := d11
  obtain ⟨fd12, F12⟩ := d12
  obtain ⟨fd13, F13⟩ := d13
  obtain ⟨fd14, F14⟩ := d14
  obtain ⟨fd15, F15⟩ := d15
  obtain ⟨fd16, F16⟩ := d16
  obtain ⟨fd17, F17⟩ := d17
  obtain ⟨fd18, F18⟩ := d18
  obtain ⟨fd19, F19⟩ := d19
  obtain ⟨fm0, M0⟩ := md0
  obtain ⟨fm1, M1⟩ := md1
  obtain ⟨fm2, M2⟩ := md2
  obtain ⟨fm3, M3⟩ := md3
  obtain ⟨fm4, M4⟩ := md4
  obtain ⟨fm5, M5⟩ := md5
  obtain ⟨fm6, M6⟩ := md6
  have b0 : Binds K _ ["word"] [] := F0.binds (ps := ["word"]) fun _ _ _ _ _ _ us hl => match us, hl with | [_], _ => rfl
  have b1 : Binds K _ ["word"] [] := F1.binds (ps := ["word"]) fun _ _ _ _ _ _ us hl => match us, hl with | [_], _ => rfl
  have b2 : Binds K _ ["number", "style"] [] := F2.binds (ps := ["number", "style"]) fun _ _ _ _ _ _ us hl => match us, hl with | [_, _], _ => rfl
  have b3 : Binds K _ ["value"] [] := F3.binds (ps := ["value"]) fun _ _ _ _ _ _ us hl => match us, hl with | [_], _ => rfl
  have b4 : Binds K _ ["value"] [] := F4.binds (ps := ["value"]) fun _ _ _ _ _ _ us hl => match us, hl with | [_], _ => rfl
  have b5 : Binds K _ ["value"] [] := F5.binds (ps := ["value"]) fun _ _ _ _ _ _ us hl => match us, hl with | [_], _ => rfl
  have b6 : Binds K _ ["value", "least", "most"] [] := F6.binds (ps := ["value", "least", "most"]) fun _ _ _ _ _ _ us hl => match us, hl with | [_, _, _], _ => rfl
  have b7 : Binds K _ ["font", "which", "style"] [] := F7.binds (ps := ["font", "which", "style"]) fun _ _ _ _ _ _ us hl => match us, hl with | [_, _, _], _ => rfl
  have b8 : Binds K _ ["script", "k"] [] := F8.binds (ps := ["script", "k"]) fun _ _ _ _ _ _ us hl => match us, hl with | [_, _], _ => rfl
  have b9 : Binds K _ ["cell", "count"] [] := F9.binds (ps := ["cell", "count"]) fun _ _ _ _ _ _ us hl => match us, hl with | [_, _], _ => rfl
  have b10 : Binds K _ ["script", "first", "count"] [] := F10.binds (ps := ["script", "first", "count"]) fun _ _ _ _ _ _ us hl => match us, hl with | [_, _, _], _ => rfl
  have b11 : Binds K _ ["stream", "many"] [] := F11.binds (ps := ["stream", "many"]) fun _ _ _ _ _ _ us hl => match us, hl with | [_, _], _ => rfl
  have b12 : Binds K _ [] [] := F12.binds (ps := []) fun _ _ _ _ _ _ us hl => match us, hl with | [], _ => rfl
  have b13 : Binds K _ ["stream"] [] := F13.binds (ps := ["stream"]) fun _ _ _ _ _ _ us hl => match us, hl with | [_], _ => rfl
  have b14 : Binds K _ ["actual", "expected"] [] := F14.binds (ps := ["actual", "expected"]) fun _ _ _ _ _ _ us hl => match us, hl with | [_, _], _ => rfl
  have b15 : Binds K _ ["number", "style"] [] := F15.binds (ps := ["number", "style"]) fun _ _ _ _ _ _ us hl => match us, hl with | [_, _], _ => rfl
  have b16 : Binds K _ ["font", "name", "style"] [] := F16.binds (ps := ["font", "name", "style"]) fun _ _ _ _ _ _ us hl => match us, hl with | [_, _, _], _ => rfl
  have b17 : Binds K _ ["symbols", "lengths"] [] := F17.binds (ps := ["symbols", "lengths"]) fun _ _ _ _ _ _ us hl => match us, hl with | [_, _], _ => rfl
  have b18 : Binds K _ ["font", "name", "kind"] [] := F18.binds (ps := ["font", "name", "kind"]) fun _ _ _ _ _ _ us hl => match us, hl with | [_, _, _], _ => rfl
  have b19 : Binds K _ ["font", "symbols", "name", "style", "length"] [] := F19.binds (ps := ["font", "symbols", "name", "style", "length"]) fun _ _ _ _ _ _ us hl => match us, hl with | [_, _, _, _, _], _ => rfl
  have mb0 : Binds K _ ["self", "symbols", "lengths"] [] := M0.binds (ps := ["self", "symbols", "lengths"]) fun _ _ _ _ _ _ us hl => match us, hl with | [_, _, _], _ => rfl
  have mb1 : Binds K _ ["self", "other"] [] := M1.binds (ps := ["self", "other"]) fun _ _ _ _ _ _ us hl => match us, hl with | [_, _], _ => rfl
  have mb2 : Binds K _ ["self"] [] := M2.binds (ps := ["self"]) fun _ _ _ _ _ _ us hl => match us, hl with | [_], _ => rfl
  have mb3 : Binds K _ ["self", "name"] [] := M3.binds (ps := ["self", "name"]) fun _ _ _ _ _ _ us hl => match us, hl with | [_, _], _ => rfl
  have mb4 : Binds K _ ["self", "name", "style"] [] := M4.binds (ps := ["self", "name", "style"]) fun _ _ _ _ _ _ us hl => match us, hl with | [_, _, _], _ => rfl
  have mb5 : Binds K _ ["self", "name", "style", "length"] [] := M5.binds (ps := ["self", "name", "style", "length"]) fun _ _ _ _ _ _ us hl => match us, hl with | [_, _, _, _], _ => rfl
  have mb6 : Binds K _ ["self", "name"] [] := M6.binds (ps := ["self", "name"]) fun _ _ _ _ _ _ us hl => match us, hl with | [_, _], _ => rfl
  have TB : TxtB mg := ⟨(PySem.W.mg_none_of X G z_len), (PySem.W.mg_none_of X G z_int), (PySem.W.mg_none_of X G z_abs), (PySem.W.mg_none_of X G z_range), (PySem.W.mg_none_of X G z_isinstance), (PySem.W.mg_none_of X G z_tuple), (PySem.W.mg_none_of X G z_list)⟩
  have TC : TxtC mg := { TB with b_bool := (PySem.W.mg_none_of X G z_bool), b_str := (PySem.W.mg_none_of X G z_str) }
  have TO : TxtO K CF := ⟨⟨pg, hd, po, sa⟩, n_symbols, n_lengths, n__entries⟩
  have TS : TxtS K mg aR := ⟨(PySem.W.mg_none_of X G z_len), (PySem.W.mg_none_of X G z_all), ⟨_, (PySem.W.mg_of X G c_LETTERS)⟩, ⟨_, (PySem.W.mg_of X G c_SIGNS)⟩, ⟨_, (PySem.W.mg_of X G c_MOST_LETTERS)⟩, (PySem.W.mg_of X G c_RESERVED), sqt_of k_RESERVED (show 5 ≤ sizeLine by decide) ((.cons ⟨_, rfl⟩ (.cons ⟨_, rfl⟩ (.cons ⟨_, rfl⟩ (.cons ⟨_, rfl⟩ (.cons ⟨_, rfl⟩ .nil))))))⟩
  have TE : TxtE K mg aC := { TC with b_all := (PySem.W.mg_none_of X G z_all), c_ROOT_SIGN := ⟨_, (PySem.W.mg_of X G c_ROOT_SIGN)⟩, c_MOST_MEASURE := ⟨_, (PySem.W.mg_of X G c_MOST_MEASURE)⟩, c_CLASSES := (PySem.W.mg_of X G c_CLASSES), k_CLASSES := sqt_of k_CLASSES (show 7 ≤ sizeLine by decide) ((.cons ⟨_, rfl⟩ (.cons ⟨_, rfl⟩ (.cons ⟨_, rfl⟩ (.cons ⟨_, rfl⟩ (.cons ⟨_, rfl⟩ (.cons ⟨_, rfl⟩ (.cons ⟨_, rfl⟩ .nil)))))))) }
  have TF : TxtF K mg aC := { TE with c_MOST_SYMBOLS := ⟨_, (PySem.W.mg_of X G c_MOST_SYMBOLS)⟩ }
  have TL : TxtL K mg aLL := { TC with b_all := (PySem.W.mg_none_of X G z_all), b_zip := (PySem.W.mg_none_of X G z_zip), c_LENGTH_LIMITS := (PySem.W.mg_of X G c_LENGTH_LIMITS), k_LIM := ⟨[aM0, aM1, aM2, aM3, aM4, aM5, aM6, aM7], rfl, sqt_of k_LENGTH_LIMITS (show 8 ≤ sizeLine by decide) ((.cons rfl (.cons rfl (.cons rfl (.cons rfl (.cons rfl (.cons rfl (.cons rfl (.cons rfl .nil))))))))), fun i a hi => ?lim⟩ }
  case lim =>
    match i, hi with
    | 0, hi => cases hi; exact ⟨(0, 200), rfl, sqt_of kM0 (show 2 ≤ sizeLine by decide) (.cons ⟨_, rfl⟩ (.cons ⟨_, rfl⟩ .nil))⟩
    | 1, hi => cases hi; exact ⟨(1, 50), rfl, sqt_of kM1 (show 2 ≤ sizeLine by decide) (.cons ⟨_, rfl⟩ (.cons ⟨_, rfl⟩ .nil))⟩
    | 2, hi => cases hi; exact ⟨(0, 100), rfl, sqt_of kM2 (show 2 ≤ sizeLine by decide) (.cons ⟨_, rfl⟩ (.cons ⟨_, rfl⟩ .nil))⟩
    | 3, hi => cases hi; exact ⟨(0, 300), rfl, sqt_of kM3 (show 2 ≤ sizeLine by decide) (.cons ⟨_, rfl⟩ (.cons ⟨_, rfl⟩ .nil))⟩
    | 4, hi => cases hi; exact ⟨(0, 200), rfl, sqt_of kM4 (show 2 ≤ sizeLine by decide) (.cons ⟨_, rfl⟩ (.cons ⟨_, rfl⟩ .nil))⟩
    | 5, hi => cases hi; exact ⟨(0, 200), rfl, sqt_of kM5 (show 2 ≤ sizeLine by decide) (.cons ⟨_, rfl⟩ (.cons ⟨_, rfl⟩ .nil))⟩
    | 6, hi => cases hi; exact ⟨(0, 200), rfl, sqt_of kM6 (show 2 ≤ sizeLine by decide) (.cons ⟨_, rfl⟩ (.cons ⟨_, rfl⟩ .nil))⟩
    | 7, hi => cases hi; exact ⟨(1, 200), rfl, sqt_of kM7 (show 2 ≤ sizeLine by decide) (.cons ⟨_, rfl⟩ (.cons ⟨_, rfl⟩ .nil))⟩
    | _ + 8, hi => cases hi
  have EB : ExB K mg "BadFont" CB := ⟨(PySem.W.mg_of X G gB), bx, bk, bb, bt⟩
  have TU : PySem.MgU.UTxt P K mg "UnknownSymbol" "UnknownSymbol.__init__" "the font has no symbol " CU fU ccU :=
    { gC := (PySem.W.mg_of X G gU), cls := ⟨_, _, _, _, _, _, _, _, _, _, _, _, _, _, _, uL, by rfl⟩, sa := usa, noN := un, iC := ui, tC := ut, kC := uk, exC := ub, tyC := uty, hC := uV, alg := ual, op := uop, cell := ⟨_, _, _, ucc⟩, sup := (PySem.W.mg_none_of X G z_super), own := uo, htop := uht,
      fn := ⟨_, _, _, _, _, _, _, _, _, _, _, _, _, _, _, _, _, _, _, _, _, _, _, ufn, ucd, rfl, _, _, _, _, _, _, uda, uvs, ufl⟩ }
  have U : MkU P K mg CU := mkU TU (show ("the font has no symbol " : Str).length ≤ 1000 by decide +kernel)
  have TLn : TxtLn K mg CF := { TO with b_max := (PySem.W.mg_none_of X G z_max), c_RULE := ⟨_, (PySem.W.mg_of X G c_RULE)⟩, c_STEP := ⟨_, (PySem.W.mg_of X G c_STEP)⟩ }
  have TQ : TxtQ K mg CF := { TO with range := (PySem.W.mg_none_of X G z_range), b_int := (PySem.W.mg_none_of X G z_int) }
  have TFQ : TxtFQ K mg CF := ⟨(PySem.W.mg_none_of X G z_isinstance), (PySem.W.mg_none_of X G z_len), (PySem.W.mg_of X G gF)⟩
  have TBad : TxtBad K mg CF CB CS := ⟨(PySem.W.mg_of X G gF), (PySem.W.mg_of X G gB), (PySem.W.mg_of X G gS), (PySem.W.mg_none_of X G z_ValueError), (PySem.W.mg_none_of X G z_isinstance), PySem.W.exm_ref bb bd bt bs, ne_ref bN, kit_own sd st bS, kit_VE bV⟩
  have TUn : TxtUn K mg CF CU CS := ⟨(PySem.W.mg_of X G gU), (PySem.W.mg_of X G gS), (PySem.W.mg_none_of X G z_isinstance), PySem.W.exm_ref ub ud uty us, ne_ref neU, kit_own sd st uS, ⟨uga, ugg, ub, ud⟩, un⟩
  refine ⟨PySem.W.fnOf "law" "law" (defArgs sLaw) (defBody sLaw) (defScope sLaw) .none kVL dcL pmL anL cdL ctL, fun s v => .of_eq rfl, fun base _ _ => ?_⟩
  have q_cell : Cal P w K mg base _ _ "_law_cell" _ _ := ⟨f8, fd8, ok_cell F8 TB, PySem.W.mg_of X G a8, k8, b8⟩
  have q_draws : Cal P w K mg base _ _ "_law_draws" _ _ := ⟨f9, fd9, ok_draws F9 TB, PySem.W.mg_of X G a9, k9, b9⟩
  have q_stream : Cal P w K mg base _ _ "_law_stream" _ _ := ⟨f10, fd10, ok_stream F10 TB q_cell q_draws, PySem.W.mg_of X G a10, k10, b10⟩
  have q_next : Cal P w K mg base _ _ "_law_next" _ _ := ⟨f11, fd11, ok_next F11 TB, PySem.W.mg_of X G a11, k11, b11⟩
  have q_names : Cal P w K mg base _ _ "_law_names" _ _ := ⟨f12, fd12, ok_names F12, PySem.W.mg_of X G a12, k12, b12⟩
  have q_font : Cal P w K mg base _ _ "_law_font" _ _ := ⟨f13, fd13, ok_lfont F13 TB q_names q_next, PySem.W.mg_of X G a13, k13, b13⟩
  have q_scaled : Cal P w K mg base _ _ "scaled" _ _ := ⟨f2, fd2, ok_scaled F2, PySem.W.mg_of X G a2, k2, b2⟩
  have q_command : Cal P w K mg base _ _ "is_command" _ _ := ⟨f0, fd0, ok_is_command F0 TS, PySem.W.mg_of X G a0, k0, b0⟩
  have q_symbol : Cal P w K mg base _ _ "is_symbol" _ _ := ⟨f1, fd1, ok_is_symbol F1 TS q_command, PySem.W.mg_of X G a1, k1, b1⟩
  have q_integer : Cal P w K mg base _ _ "is_integer" _ _ := ⟨f6, fd6, ok_is_integer F6 TC, PySem.W.mg_of X G a6, k6, b6⟩
  have q_entry : Cal P w K mg base _ _ "is_entry" _ _ := ⟨f4, fd4, ok_is_entry F4 TE q_symbol q_integer, PySem.W.mg_of X G a4, k4, b4⟩
  have q_symbols : Cal P w K mg base _ _ "are_symbols" _ _ := ⟨f3, fd3, ok_are_symbols F3 TF q_entry, PySem.W.mg_of X G a3, k3, b3⟩
  have q_lengths : Cal P w K mg base _ _ "are_lengths" _ _ := ⟨f5, fd5, ok_are_lengths F5 TL q_integer, PySem.W.mg_of X G a5, k5, b5⟩
  have MF : MkF P w K mg base CF CB := ⟨m0, fm0, ok_finit M0 TO EB q_symbols q_lengths, ⟨mkc, ma0, mi0, kcF⟩, mb0⟩
  have q__entry : CalM P w K mg base (L2.CX P w) _ CF "_entry" _ _ := ⟨m6, fm6, ok_fentry M6 TO U, ⟨ma6, mi6, mk6⟩, mb6⟩
  have q_class : CalM P w K mg base (L2.CX P w) _ CF "class_of" _ _ := ⟨m3, fm3, ok_fclass_of M3 TO q__entry, ⟨ma3, mi3, mk3⟩, mb3⟩
  have q_same := ok_same (P := P) (w := w) (base := base) F14 TC (PySem.W.mg_of X G a14) k14 b14 6
  have q_lengthof : Cal P w K mg base _ _ "length_of" _ _ := ⟨f7, fd7, ok_lengthof F7 TLn q_scaled, PySem.W.mg_of X G a7, k7, b7⟩
  have q_lscaled : Cal P w K mg base _ _ "_law_scaled" _ _ := ⟨f15, fd15, ok_lscaled F15, PySem.W.mg_of X G a15, k15, b15⟩
  have q_sizes : Cal P w K mg base _ _ "_law_sizes" _ _ := ⟨f16, fd16, ok_lsizes F16 q_lscaled, PySem.W.mg_of X G a16, k16, b16⟩
  have q_stretches : Cal P w K mg base _ _ "_law_stretches" _ _ := ⟨f19, fd19, ok_lstretches F19 TQ q_sizes, PySem.W.mg_of X G a19, k19, b19⟩
  have EQ : EqF P w K mg base CF := ⟨m1, fm1, ok_feq M1 TO TFQ ⟨TO.cl, ic1, ic2, ic3, ic4, kit_me⟩, ⟨ma1, mi1⟩, mb1⟩
  have LEN : LenF P w K mg base CF := ⟨m2, fm2, ok_flen M2 TO TFQ, ⟨ma2, mi2⟩, mb2⟩
  have q_metrics : CalM P w K mg base (L2.CX P w) _ CF "metrics" _ _ := ⟨m4, fm4, ok_fmetrics M4 TO q__entry q_scaled, ⟨ma4, mi4, mk4⟩, mb4⟩
  have q_stretched : CalM P w K mg base (L2.CX P w) _ CF "stretched" _ _ := ⟨m5, fm5, ok_fstretched M5 TLn q_metrics q_lengthof, ⟨ma5, mi5, mk5⟩, mb5⟩
  have q_bad : Cal P w K mg base _ _ "_law_is_bad" _ _ := ⟨f17, fd17, ok_is_bad F17 TBad MF, PySem.W.mg_of X G a17, k17, b17⟩
  have q_unknown : Cal P w K mg base _ _ "_law_unknown" _ _ := ⟨f18, fd18, ok_unknown F18 TO TUn q_class q_metrics q_stretched, PySem.W.mg_of X G a18, k18, b18⟩
  have FL := fun_mk (st := sLaw) lL cL kL
  exact ok_law FL { TB with g_Font := (PySem.W.mg_of X G gF), O := TO, mkF := MF, lenF := LEN, eqF := EQ, C_law_stream := q_stream.mono (by decide), C_law_font := q_font.mono (by decide), C_law_next := q_next, C_law_same := q_same, C_law_sizes := q_sizes, C_law_stretches := q_stretches, C_law_is_bad := q_bad, C_law_unknown := q_unknown, C_scaled := q_scaled, C_metrics := q_metrics, C_class_of := q_class, C_stretched := q_stretched }
theorem walk {l : PySem.W.OpenLaw} {q : Program} {loose : List Str} {XP : (Str → Option Value) → Heap → Prop} {YP : World → Heap → Prop} {d : DefRec} {K : Params → PySem.W.Frag} (hn : l.most = some 63) (hdf : d.params.defaults = [])
    (hY : ∀ (w : World) (h : Heap), YP w h → (K w.params).In h)
    (F : ∀ (w : World) (mg : Str → Option Value) (fa : Addr) (h : Heap), (K w.params).In h → h.Ns mainGlobals mg → mg d.name = some (.ref fa) →
      ∃ fd : FuncData, (∀ (s : Shared) (u : Value), BindsTo s fd ⟨[u], []⟩ [("script", u)]) ∧ ∀ base : Heap, (K w.params).In base → base.Ns mainGlobals mg → FnOk l.prog w (K w.params) mg base CX0 8 fa fd ["script"] (spLaw (K w.params))) :
    PySem.W.WalkO q loose XP YP l.row.toRowW d [] (fun f vs => PySem.call f vs) :=
  L2.walk_of (n := 63) (k := 8) (x := "script") (CX := fun _ => CX0) (sp := fun w => spLaw (K w.params)) hn (by decide) hdf ⟨rfl, by decide, by decide⟩ hY F (fun _ _ a ns hl _ hS => ⟨a, ns, rfl, hS, fun _ => rfl⟩) fun _ _ _ _ _ z => z
end Mg

set_option Elab.async false
open PySem PySem.W PyProof.Rows
set_option maxRecDepth 100000 in
set_option maxHeartbeats 0 in
theorem PySem.Challenge.cw_mathgalley_k10_fonts_holds : PySem.Challenge.rw_mathgalley_k10_fonts.Holds := by
  w_on; o_law; k_head; (case hw => w_witness2)
  k_fill
  refine Mg.walk (l := PySem.Challenge.rw_mathgalley_k10_fonts) rfl rfl (fun w h Y => PySem.W.kIn_of Y) ?F
  case F =>
    intro w mg fa h KX G hmg
    refine' Mg.all_mk KX G hmg ?gF ?gB ?gU ?gS ?z_len ?z_int ?z_abs ?z_range ?z_isinstance ?z_tuple ?z_list ?z_bool ?z_str ?z_all ?z_zip ?z_max ?z_ValueError ?z_super ?a0 ?d0 ?k0 ?a1 ?d1 ?k1 ?a2 ?d2 ?k2 ?a3 ?d3 ?k3 ?a4 ?d4 ?k4 ?a5 ?d5 ?k5 ?a6 ?d6 ?k6 ?a7 ?d7 ?k7 ?a8 ?d8 ?k8 ?a9 ?d9 ?k9 ?a10 ?d10 ?k10 ?a11 ?d11 ?k11 ?a12 ?d12 ?k12 ?a13 ?d13 ?k13 ?a14 ?d14 ?k14 ?a15 ?d15 ?k15 ?a16 ?d16 ?k16 ?a17 ?d17 ?k17 ?a18 ?d18 ?k18 ?a19 ?d19 ?k19 ?ma0 ?mi0 ?md0 ?mk0 ?ma1 ?mi1 ?md1 ?mk1 ?ma2 ?mi2 ?md2 ?mk2 ?ma3 ?mi3 ?md3 ?mk3 ?ma4 ?mi4 ?md4 ?mk4 ?ma5 ?mi5 ?md5 ?mk5 ?ma6 ?mi6 ?md6 ?mk6 ?aL ?lL ?cL ?kL ?pg ?hd ?po ?sa ?mkc ?kcF ?n_symbols ?n_lengths ?n__entries ?ic1 ?ic2 ?ic3 ?ic4 ?bx ?bk ?bb ?bt ?bd ?bs ?bS ?bV ?bN ?sb ?sd ?st ?uL ?usa ?uga ?ugg ?un ?ui ?ut ?uk ?ub ?uty ?ud ?uV ?uS ?us ?uo ?ual ?uop ?ufn ?ucd ?ucc ?uda ?uvs ?ufl ?uht ?neU ?c_LETTERS ?c_SIGNS ?c_MOST_LETTERS ?c_ROOT_SIGN ?c_MOST_MEASURE ?c_MOST_SYMBOLS ?c_RESERVED ?k_RESERVED ?c_CLASSES ?k_CLASSES ?c_LENGTH_LIMITS ?k_LENGTH_LIMITS ?kM0 ?kM1 ?kM2 ?kM3 ?kM4 ?kM5 ?kM6 ?kM7 ?c_STEP ?c_RULE
    (case gF => k_is)
    (case gB => k_is)
    (case gU => k_is)
    (case gS => k_is)
    (case z_len => k_is)
    (case z_int => k_is)
    (case z_abs => k_is)
    (case z_range => k_is)
    (case z_isinstance => k_is)
    (case z_tuple => k_is)
    (case z_list => k_is)
    (case z_bool => k_is)
    (case z_str => k_is)
    (case z_all => k_is)
    (case z_zip => k_is)
    (case z_max => k_is)
    (case z_ValueError => k_is)
    (case z_super => k_is)
    (case a0 => k_is)
    (case d0 => (refine' ⟨_, L2.fun_mk (st := Mg.sIsCommand) ?l ?c ?k⟩; (case l => k_is); (case c => k_is); (case k => k_is)))
    (case k0 => k_is)
    (case a1 => k_is)
    (case d1 => (refine' ⟨_, L2.fun_mk (st := Mg.sIsSymbol) ?l ?c ?k⟩; (case l => k_is); (case c => k_is); (case k => k_is)))
    (case k1 => k_is)
    (case a2 => k_is)
    (case d2 => (refine' ⟨_, L2.fun_mk (st := Mg.sScaled) ?l ?c ?k⟩; (case l => k_is); (case c => k_is); (case k => k_is)))
    (case k2 => k_is)
    (case a3 => k_is)
    (case d3 => (refine' ⟨_, L2.fun_mk (st := Mg.sAreSymbols) ?l ?c ?k⟩; (case l => k_is); (case c => k_is); (case k => k_is)))
    (case k3 => k_is)
    (case a4 => k_is)
    (case d4 => (refine' ⟨_, L2.fun_mk (st := Mg.sIsEntry) ?l ?c ?k⟩; (case l => k_is); (case c => k_is); (case k => k_is)))
    (case k4 => k_is)
    (case a5 => k_is)
    (case d5 => (refine' ⟨_, L2.fun_mk (st := Mg.sAreLengths) ?l ?c ?k⟩; (case l => k_is); (case c => k_is); (case k => k_is)))
    (case k5 => k_is)
    (case a6 => k_is)
    (case d6 => (refine' ⟨_, L2.fun_mk (st := Mg.sIsInteger) ?l ?c ?k⟩; (case l => k_is); (case c => k_is); (case k => k_is)))
    (case k6 => k_is)
    (case a7 => k_is)
    (case d7 => (refine' ⟨_, L2.fun_mk (st := Mg.sLengthOf) ?l ?c ?k⟩; (case l => k_is); (case c => k_is); (case k => k_is)))
    (case k7 => k_is)
    (case a8 => k_is)
    (case d8 => (refine' ⟨_, L2.fun_mk (st := Mg.sCell) ?l ?c ?k⟩; (case l => k_is); (case c => k_is); (case k => k_is)))
    (case k8 => k_is)
    (case a9 => k_is)
    (case d9 => (refine' ⟨_, L2.fun_mk (st := Mg.sDraws) ?l ?c ?k⟩; (case l => k_is); (case c => k_is); (case k => k_is)))
    (case k9 => k_is)
    (case a10 => k_is)
    (case d10 => (refine' ⟨_, L2.fun_mk (st := Mg.sStream) ?l ?c ?k⟩; (case l => k_is); (case c => k_is); (case k => k_is)))
    (case k10 => k_is)
    (case a11 => k_is)
    (case d11 => (refine' ⟨_, L2.fun_mk (st := Mg.sNext) ?l ?c ?k⟩; (case l => k_is); (case c => k_is); (case k => k_is)))
    (case k11 => k_is)
    (case a12 => k_is)
    (case d12 => (refine' ⟨_, L2.fun_mk (st := Mg.sNames) ?l ?c ?k⟩; (case l => k_is); (case c => k_is); (case k => k_is)))
    (case k12 => k_is)
    (case a13 => k_is)
    (case d13 => (refine' ⟨_, L2.fun_mk (st := Mg.sLFont) ?l ?c ?k⟩; (case l => k_is); (case c => k_is); (case k => k_is)))
    (case k13 => k_is)
    (case a14 => k_is)
    (case d14 => (refine' ⟨_, L2.fun_mk (st := Mg.sSame) ?l ?c ?k⟩; (case l => k_is); (case c => k_is); (case k => k_is)))
    (case k14 => k_is)
    (case a15 => k_is)
    (case d15 => (refine' ⟨_, L2.fun_mk (st := Mg.sLScaled) ?l ?c ?k⟩; (case l => k_is); (case c => k_is); (case k => k_is)))
    (case k15 => k_is)
    (case a16 => k_is)
    (case d16 => (refine' ⟨_, L2.fun_mk (st := Mg.sLSizes) ?l ?c ?k⟩; (case l => k_is); (case c => k_is); (case k => k_is)))
    (case k16 => k_is)
    (case a17 => k_is)
    (case d17 => (refine' ⟨_, L2.fun_mk (st := Mg.sIsBad) ?l ?c ?k⟩; (case l => k_is); (case c => k_is); (case k => k_is)))
    (case k17 => k_is)
    (case a18 => k_is)
    (case d18 => (refine' ⟨_, L2.fun_mk (st := Mg.sUnknown) ?l ?c ?k⟩; (case l => k_is); (case c => k_is); (case k => k_is)))
    (case k18 => k_is)
    (case a19 => k_is)
    (case d19 => (refine' ⟨_, L2.fun_mk (st := Mg.sLStretches) ?l ?c ?k⟩; (case l => k_is); (case c => k_is); (case k => k_is)))
    (case k19 => k_is)
    (case ma0 => k_is)
    (case mi0 => k_is)
    (case md0 => (refine' ⟨_, L2.fun_mk (st := Mg.sFInit) ?l ?c ?k⟩; (case l => k_is); (case c => k_is); (case k => k_is)))
    (case mk0 => k_is)
    (case ma1 => k_is)
    (case mi1 => k_is)
    (case md1 => (refine' ⟨_, L2.fun_mk (st := Mg.sFEq) ?l ?c ?k⟩; (case l => k_is); (case c => k_is); (case k => k_is)))
    (case mk1 => k_is)
    (case ma2 => k_is)
    (case mi2 => k_is)
    (case md2 => (refine' ⟨_, L2.fun_mk (st := Mg.sFLen) ?l ?c ?k⟩; (case l => k_is); (case c => k_is); (case k => k_is)))
    (case mk2 => k_is)
    (case ma3 => k_is)
    (case mi3 => k_is)
    (case md3 => (refine' ⟨_, L2.fun_mk (st := Mg.sFClassOf) ?l ?c ?k⟩; (case l => k_is); (case c => k_is); (case k => k_is)))
    (case mk3 => k_is)
    (case ma4 => k_is)
    (case mi4 => k_is)
    (case md4 => (refine' ⟨_, L2.fun_mk (st := Mg.sFMetrics) ?l ?c ?k⟩; (case l => k_is); (case c => k_is); (case k => k_is)))
    (case mk4 => k_is)
    (case ma5 => k_is)
    (case mi5 => k_is)
    (case md5 => (refine' ⟨_, L2.fun_mk (st := Mg.sFStretched) ?l ?c ?k⟩; (case l => k_is); (case c => k_is); (case k => k_is)))
    (case mk5 => k_is)
    (case ma6 => k_is)
    (case mi6 => k_is)
    (case md6 => (refine' ⟨_, L2.fun_mk (st := Mg.sFEntry) ?l ?c ?k⟩; (case l => k_is); (case c => k_is); (case k => k_is)))
    (case mk6 => k_is)
    (case aL => k_is)
    (case lL => k_is)
    (case cL => k_is)
    (case kL => k_is)
    (case pg => k_is)
    (case hd => k_is)
    (case po => k_is)
    (case sa => k_is)
    (case mkc => k_is)
    (case kcF => k_is)
    (case n_symbols => k_is)
    (case n_lengths => k_is)
    (case n__entries => k_is)
    (case ic1 => k_is)
    (case ic2 => k_is)
    (case ic3 => k_is)
    (case ic4 => k_is)
    (case bx => k_exc)
    (case bk => k_is)
    (case bb => k_is)
    (case bt => k_is)
    (case bd => k_is)
    (case bs => first | rfl | k_is)
    (case bS => k_is)
    (case bV => k_is)
    (case bN => decide)
    (case sb => k_is)
    (case sd => k_is)
    (case st => k_is)
    (case uL => k_is)
    (case usa => k_is)
    (case uga => k_is)
    (case ugg => k_is)
    (case un => k_is)
    (case ui => k_is)
    (case ut => k_is)
    (case uk => k_is)
    (case ub => k_is)
    (case uty => k_is)
    (case ud => k_is)
    (case uV => k_is)
    (case uS => k_is)
    (case us => first | rfl | k_is)
    (case uo => k_is)
    (case ual => ks_is)
    (case uop => k_is)
    (case ufn => k_is)
    (case ucd => k_is)
    (case ucc => k_is)
    (case uda => k_is)
    (case uvs => rfl)
    (case ufl => rfl)
    (case uht => rfl)
    (case neU => decide)
    (case c_LETTERS => k_is)
    (case c_SIGNS => k_is)
    (case c_MOST_LETTERS => k_is)
    (case c_ROOT_SIGN => k_is)
    (case c_MOST_MEASURE => k_is)
    (case c_MOST_SYMBOLS => k_is)
    (case c_RESERVED => k_is)
    (case k_RESERVED => k_is)
    (case c_CLASSES => k_is)
    (case k_CLASSES => k_is)
    (case c_LENGTH_LIMITS => k_is)
    (case k_LENGTH_LIMITS => k_is)
    (case kM0 => k_is)
    (case kM1 => k_is)
    (case kM2 => k_is)
    (case kM3 => k_is)
    (case kM4 => k_is)
    (case kM5 => k_is)
    (case kM6 => k_is)
    (case kM7 => k_is)
    (case c_STEP => k_is)
    (case c_RULE => k_is)
