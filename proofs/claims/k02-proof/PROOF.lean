import PyProof.Rows.All
import Wide.All
import OpenK.AllK
import Wide.FinOn
import PySem.Challenge.RW_mathgalley_k02_limits_of_formulas
import HandS.ForMost
import HandS.ForExc
import HandS.IsInst
import HandS.SetBool
import HandS.SetKeys
import HandS.Zip
import HandS.Codes
import HandS.TupAny
import HandS.TupMul
import HandS.Star
import HandS.Exc
import HandS.ExcInit
import HandS.ExcSuper
import KE.KExcSuper
import HandS.FStr
import PyProof.FitsInt
import HandS.Head2
import HandS.HeadEnd
import HandS.HeadHook3
import HandS.Flow
import KE.DataMinMax
import HandS.SortKw
import HandS.Text
import HandS.ExcOwn
import HandS.Iter
import HandS.ExcField
import HandS.ExcIs
import HandS.TryMany
import HandS.Rev
import HandS.Deep
import HandS.Conv
import PyProof.Rows.StrMul
import KE.RegKSuper
namespace Mg
section
set_option Elab.async false
set_option linter.all false
set_option maxRecDepth 100000
set_option maxHeartbeats 2000000
open PySem L2
/-! a def of the text that keeps a promise, as callers see it -/
structure Cal (P : Program) (w : World) (K : PySem.W.Frag) (mg : Str → Option Value) (base : Heap) (CX : CXT) (k : Nat) (x : Str) (ps : List Str) (sp : Sp) : Prop where
  ex : ∃ (f : Addr) (fd : FuncData), FnOk P w K mg base CX k f fd ps sp ∧ mg x = some (.ref f) ∧ PySem.W.keepIn K (.ref f) = true ∧ Binds K fd ps []
section
variable {X : Cx} {CX : CXT} {k : Nat} {ps : List Str} {sp : Sp} {E : XK} {x : Str} {p pos : Pos} {e : Expr} {es : List Expr} {t : TA}
theorem pe_cal (c : Cal X.prog X.w X.K X.mg X.base CX k x ps sp) (hr : Room k X.A) (hg : Gl X x) (hx : Passes CX X E) (ha : PA X (e :: es) t)
    (hdb : (x == ("__debug__" : Str)) = false := by decide) (he : starEach (e :: es) X.env = (false, eval e X.env) :: starEach es X.env := by rfl) (hpl : (backTo pos (starEach es X.env)).any (·.1) = false := by rfl) :
    PE X (.Call (.Name x p) (e :: es) [] pos) (tCall sp [] E t) := by
  obtain ⟨f, fd, F, hm, hk, hb⟩ := c.ex
  exact pe_call F hr hg hm hk hb .nil hx ha hdb he hpl
theorem pe_cal0 (c : Cal X.prog X.w X.K X.mg X.base CX k x ps sp) (hr : Room k X.A) (hg : Gl X x) (hx : Passes CX X E) (hdb : (x == ("__debug__" : Str)) = false := by decide) :
    PE X (.Call (.Name x p) [] [] pos) (tCall sp [] E tNil) := by
  obtain ⟨f, fd, F, hm, hk, hb⟩ := c.ex
  exact pe_call0 F hr hg hm hk hb .nil hx hdb
end
theorem Cal.mono {P : Program} {w : World} {K : PySem.W.Frag} {mg : Str → Option Value} {base : Heap} {CX : CXT} {j k : Nat} {x : Str} {ps : List Str} {sp : Sp} (c : Cal P w K mg base CX j x ps sp) (h : j ≤ k) : Cal P w K mg base CX k x ps sp := by
  obtain ⟨f, fd, F, r⟩ := c.ex
  exact ⟨f, fd, F.mono h, r⟩
/-! heaps -/
/-- what stood stands, but for what is at pl -/
def KeepB (pl : Addr) (H H' : Hp) : Prop := ∀ b o, H b = some o → b ≠ pl → H' b = some o
theorem KeepB.refl (pl : Addr) (H : Hp) : KeepB pl H H := fun _ _ h _ => h
theorem KeepB.trans {pl : Addr} {H H1 H2 : Hp} (a : KeepB pl H H1) (b : KeepB pl H1 H2) : KeepB pl H H2 := fun c o h n => b c o (a c o h n) n
theorem KeepB.of {pl : Addr} {H H' : Hp} (a : Same H H') : KeepB pl H H' := fun c o h _ => a c o h
theorem same_new {H : Hp} {p : Addr} {o : HO} (h : H p = none) : Same H (upd H p o) := fun b x e => by
  rw [upd_ne (ne_of_none e h)]
  exact e
theorem same_upd_new {H H' : Hp} {p : Addr} {o : HO} (s : Same H H') (h : H p = none) : Same H (upd H' p o) := fun b x e => by
  rw [upd_ne (ne_of_none e h)]
  exact s _ _ e
theorem keep_upd {pl : Addr} {H : Hp} {o : HO} : KeepB pl H (upd H pl o) := fun b x e n => by
  rw [upd_ne n]
  exact e
theorem keep_upd_new {pl p : Addr} {H H' : Hp} {o : HO} (s : KeepB pl H H') (h : H p = none) : KeepB pl H (upd H' p o) := fun b x e n => by
  rw [upd_ne (ne_of_none e h)]
  exact s _ _ e n
theorem room_of {j k : Nat} {A : Around} (r : Room k A) (h : j ≤ k := by decide) : Room j A := r.mono h
theorem iteP {c A B : Prop} [Decidable c] (hc : c) (h : A) : if c then A else B := by
  rw [if_pos hc]
  exact h
theorem iteN {c A B : Prop} [Decidable c] (hc : ¬ c) (h : B) : if c then A else B := by
  rw [if_neg hc]
  exact h
end
section
set_option Elab.async false
set_option linter.all false
set_option maxRecDepth 100000
set_option maxHeartbeats 2000000
open PySem L2
def top (i : Nat) : Stmt := PySem.Challenge.pw_mathgalley_k02_limits_of_formulas.main.body.getD i (.Pass ⟨0, 0, 0, 0⟩)
abbrev sCell : Stmt := top 41
local macro_rules | `(tactic| walk_at "go") => `(tactic| repeat (first | refine ⟨_, rfl, ?_⟩ | refine ⟨_, _, rfl, rfl, ?_⟩))
structure TxtB (mg : Str → Option Value) : Prop where
  b_len : mg "len" = none
  b_int : mg "int" = none
  b_abs : mg "abs" = none
  range : mg "range" = none
  b_isinstance : mg "isinstance" = none
  b_tuple : mg "tuple" = none
  b_list : mg "list" = none
section
variable {P : Program} {w : World} {K : PySem.W.Frag} {mg : Str → Option Value} {base : Heap}
/-! _law_cell: some int -/
def spCellN (K : PySem.W.Frag) : Sp := fun vs H Q _ => ∃ (a : Addr) (ns : List Int) (j : Int), vs = [.ref a, .int j] ∧ SqL K H a (ns.map V.int) ∧ 0 ≤ j ∧ ∀ n : Int, Q (.int n) H
theorem scCell : FnScope ["script", "k"] ["script", "k"] (defScope sCell) := ⟨rfl, rfl, rfl, by decide +kernel, rfl, by decide +kernel, by decide +kernel⟩
theorem ok_cell {f : Addr} {fd : FuncData} (F : Fun K "_law_cell" "_law_cell" sCell f fd) (T : TxtB mg) : FnOk P w K mg base CX0 1 f fd ["script", "k"] (spCellN K) := by
  have sc := scCell
  refine F.ok scCell (fun vs H Q E h => ?_) (fun cdv A outer s H vs Q E hr h => ?_)
  · obtain ⟨a, ns, j, rfl, _⟩ := h
    rfl
  · obtain ⟨a, ns, j, rfl, hs, hj, k⟩ := h
    refine ⟨_, (pss_cons (ps_if (pt_cmpR op_lt (pv 1) (pe_callB call_len_seq (by rfl) T.b_len PySem.boot_len (pa_cons (pv 0) pa_nil)) (nomark _))
  (pss_one (ps_ret (pe_callTy call_int1 (by rfl) T.b_int (by decide +kernel) (pa_cons (pe_ix ix_list (pv 0) (pv 1) (fun _ _ => rfl)) pa_nil))))
  pss_nil)
  (pss_one (ps_ret pe_int))), ?_⟩
    refine ⟨_, rfl, _, rfl, a, _, rfl, .inl hs, _, _, rfl, rfl, _, rfl, ?_⟩
    rw [List.length_map]
    refine ite2 (fun c => ?_) (fun c => ?_)
    · have c' := of_decide_eq_true c
      obtain ⟨n, rfl⟩ := Int.eq_ofNat_of_zero_le hj
      have hn : n < ns.length := by omega
      have e1 : (ns.map V.int)[n]? = some (.int ns[n]) := by
        rw [List.getElem?_map, List.getElem?_eq_getElem hn]
        rfl
      exact ⟨_, rfl, _, rfl, a, _, _, _, rfl, rfl, hs, atI_nat e1, .inl ⟨_, rfl, k _⟩⟩
    · exact k 0

/-! _law_draws: count digits from 0 to 59, a new list -/
def Digits (ds : List Int) : Prop := ∀ d ∈ ds, 0 ≤ d ∧ d < 60
def spDraws : Sp := fun vs H Q _ => ∃ (n : Int) (c : Nat), vs = [.int n, .int (c : Int)] ∧ c ≤ 60 ∧ ∀ (ds : List Int) (l : Addr) (H' : Hp), H l = none → Same H H' → H' l = some (.lst (ds.map V.int)) → ds.length = c → Digits ds → Q (.ref l) H'
theorem digits_snoc {ds : List Int} {d : Int} (h : Digits ds) (h1 : 0 ≤ d) (h2 : d < 60) : Digits (ds ++ [d]) := fun x hx => by
  rcases List.mem_append.mp hx with z | z
  · exact h x z
  · rw [List.mem_singleton.mp z]
    exact ⟨h1, h2⟩
/-! _law_stream: a new list of a list of digits and a list of one place -/
def Stream (H : Hp) (s pd pl : Addr) : Prop := pd ≠ pl ∧ s ≠ pl ∧ ∃ (ds : List Int) (k : Int), H s = some (.lst [.ref pd, .ref pl]) ∧ H pd = some (.lst (ds.map V.int)) ∧ H pl = some (.lst [.int k]) ∧ ds ≠ [] ∧ Digits ds ∧ ds.length ≤ 1000 ∧ 0 ≤ k
def spStream (K : PySem.W.Frag) : Sp := fun vs H Q _ => ∃ (a : Addr) (ns : List Int) (c : Nat), vs = [.ref a, .int 0, .int (c : Int)] ∧ SqL K H a (ns.map V.int) ∧ 1 ≤ c ∧ c ≤ 60 ∧
  ∀ (st pd pl : Addr) (H' : Hp), H st = none → H pd = none → H pl = none → Same H H' → Stream H' st pd pl → Q (.ref st) H'
/-! _law_next: some number below many; the place goes on -/
def spNext : Sp := fun vs H Q _ => ∃ (st pd pl : Addr) (m : Int), vs = [.ref st, .int m] ∧ 0 < m ∧ Stream H st pd pl ∧ ∀ (v : Int) (H' : Hp), 0 ≤ v → v < m → KeepB pl H H' → Stream H' st pd pl → Q (.int v) H'
end
end
section
set_option Elab.async false
set_option linter.all false
set_option maxRecDepth 100000
set_option maxHeartbeats 2000000
open PySem PySem.Spec PyProof.Rows L2
/-! len of what is read, with its bound -/
theorem call_len_sq {X : Cx} : CallR X (.builtin "len") (fun xs H Q => ∃ p ys, xs = [.ref p] ∧ (SqL X.K H p ys ∨ SqT X.K H p ys) ∧ (ys.length ≤ sizeLine → Q (.int ys.length) H)) := by
  intro pins s σ H xs us Q I r h
  obtain ⟨p, ys, rfl, hq, q⟩ := h
  refine call_len_seq pins s σ H [.ref p] us Q I r ⟨p, ys, rfl, hq, q ?_⟩
  rcases hq with hq | hq
  · obtain ⟨its, r', pl, hz⟩ := I.list hq
    exact hz
  · obtain ⟨its, r', pl, hz⟩ := I.tuple hq
    exact hz
theorem line62 {n : Nat} (h : n ≤ sizeLine) : (n : Int) < 2 ^ 62 := by
  have e := sizeLine_eq
  omega
/-! the types of what is read -/
theorem tyx_tup {K : PySem.W.Frag} {H : Hp} {a : Addr} {xs : List V} (h : SqT K H a xs) : TyX K H (.ref a) (.type "tuple") := by
  rcases h with (h | ⟨o, h⟩) | ⟨o, its, n, hk, hc, _⟩
  · exact .base (.tup h)
  · exact .fTuple h
  · exact .kTuple hk hc
theorem tyx_lst {K : PySem.W.Frag} {H : Hp} {a : Addr} {xs : List V} (h : SqL K H a xs) : TyX K H (.ref a) (.type "list") := by
  rcases h with (h | ⟨o, h⟩) | ⟨o, its, n, hk, hc, _⟩
  · exact .base (.lst h)
  · exact .base (.frz h)
  · exact .kList hk hc
/-- the type's name of data -/
def tyD : PyData → String
  | .none => "NoneType" | .bool _ => "bool" | .int _ => "int" | .str _ => "str" | .list _ => "list" | .tuple _ => "tuple" | .dict _ => "dict"
theorem tyx_D {K : PySem.W.Frag} {H : Hp} {v : V} {d : PyData} (h : Dp K H v d) : TyX K H v (.type (tyD d)) := by
  cases h with
  | non => exact .base .non
  | bl b => exact .base (.bl b)
  | int i => exact .base (.int i)
  | str x => exact .base (.str x)
  | lst hs _ => exact tyx_lst hs
  | tup hs _ => exact tyx_tup hs
/-- isinstance of data and a built-in type -/
theorem isi_D {K : PySem.W.Frag} {H : Hp} {v : V} {d : PyData} {n : String} {b : Bool} {Q : VK} (h : Dp K H v d) (e : kitB (tyD d) n = some b) (q : Q (.bl b) H) : rIsi K [v, .ty n] H Q :=
  ⟨v, .ty n, _, _, b, rfl, .ty n, tyx_D h, kit_ty e, q⟩
/-! data stay -/
/-- tuples that are read stay -/
def TupK (H H' : Hp) : Prop := ∀ a xs, Rd H a (.tup xs) → Rd H' a (.tup xs)
theorem TupK.of {H H' : Hp} (s : Same H H') : TupK H H' := fun a xs h => by
  rcases h with h | ⟨o, h⟩
  · exact .inl (s _ _ h)
  · exact .inr ⟨o, s _ _ h⟩
theorem TupK.trans {H H1 H2 : Hp} (a : TupK H H1) (b : TupK H1 H2) : TupK H H2 := fun c xs h => b c xs (a c xs h)
theorem TupK.keep {pl : Addr} {H H' : Hp} {xs : List V} (s : KeepB pl H H') (hp : H pl = some (.lst xs)) : TupK H H' := fun a ys h => by
  have n : ∀ o, H a = some o → (∀ z, o ≠ .lst z) → a ≠ pl := fun o e z q => by
    rw [q, hp] at e
    exact z _ (Option.some.inj e).symm
  rcases h with h | ⟨o, h⟩
  · exact .inl (s _ _ h (n _ h fun _ z => nomatch z))
  · exact .inr ⟨o, s _ _ h (n _ h fun _ z => nomatch z)⟩
theorem TupK.seq {K : PySem.W.Frag} {H H' : Hp} {a : Addr} {xs : List V} (s : TupK H H') (h : SqT K H a xs) : SqT K H' a xs := by
  rcases h with h | h
  · exact .inl (s _ _ h)
  · exact .inr h
theorem same_sqt {K : PySem.W.Frag} {H H' : Hp} {a : Addr} {xs : List V} (s : Same H H') (h : SqT K H a xs) : SqT K H' a xs := (TupK.of s).seq h
mutual
theorem Dp_same {K : PySem.W.Frag} {H H' : Hp} (s : Same H H') : ∀ {d : PyData} {v : V}, Dp K H v d → Dp K H' v d
  | _, _, .non => .non
  | _, _, .bl b => .bl b
  | _, _, .int i => .int i
  | _, _, .str x => .str x
  | _, _, .lst h r => .lst (s.seq h) (DpAll_same s r)
  | _, _, .tup h r => .tup (same_sqt s h) (DpAll_same s r)
theorem DpAll_same {K : PySem.W.Frag} {H H' : Hp} (s : Same H H') : ∀ {ds : List PyData} {vs : List V}, DpAll K H vs ds → DpAll K H' vs ds
  | _, _, .nil => .nil
  | _, _, .cons h r => .cons (Dp_same s h) (DpAll_same s r)
end
/-- data made of tuples alone -/
inductive Tp (K : PySem.W.Frag) (H : Hp) : V → PyData → Prop
  | non : Tp K H .non .none
  | bl (b : Bool) : Tp K H (.bl b) (.bool b)
  | int (i : Int) : Tp K H (.int i) (.int i)
  | str (x : Str) : Tp K H (.str x) (.str x)
  | tup {a : Addr} {xs : List V} {ds : List PyData} : SqT K H a xs → xs.length = ds.length → (∀ (i : Nat) (x : V) (d : PyData), xs[i]? = some x → ds[i]? = some d → Tp K H x d) → Tp K H (.ref a) (.tuple ds)
theorem Tp.stay {K : PySem.W.Frag} {H H' : Hp} (s : TupK H H') {v : V} {d : PyData} (h : Tp K H v d) : Tp K H' v d := by
  induction h with
  | non => exact .non
  | bl b => exact .bl b
  | int i => exact .int i
  | str x => exact .str x
  | tup hs hl _ ih => exact .tup (s.seq hs) hl ih
theorem all_of_get {K : PySem.W.Frag} {H : Hp} : ∀ {ds : List PyData} {xs : List V}, xs.length = ds.length → (∀ (i : Nat) (x : V) (d : PyData), xs[i]? = some x → ds[i]? = some d → Dp K H x d) → DpAll K H xs ds
  | [], [], _, _ => .nil
  | [], _ :: _, e, _ => by simp at e
  | _ :: _, [], e, _ => by simp at e
  | d :: ds, x :: xs, e, h => .cons (h 0 x d rfl rfl) (all_of_get (by simpa using e) fun i y z h1 h2 => h (i + 1) y z h1 h2)
theorem Tp.dp {K : PySem.W.Frag} {H : Hp} {v : V} {d : PyData} (h : Tp K H v d) : Dp K H v d := by
  induction h with
  | non => exact .non
  | bl b => exact .bl b
  | int i => exact .int i
  | str x => exact .str x
  | tup hs hl _ ih => exact .tup hs (all_of_get hl ih)
theorem DpAll.len {K : PySem.W.Frag} {H : Hp} : ∀ {ds : List PyData} {vs : List V}, DpAll K H vs ds → vs.length = ds.length
  | _, _, .nil => rfl
  | _, _, .cons _ r => by rw [List.length_cons, List.length_cons, DpAll.len r]
theorem DpAll.get {K : PySem.W.Frag} {H : Hp} : ∀ {ds : List PyData} {vs : List V} {i : Nat} {d : PyData}, DpAll K H vs ds → ds[i]? = some d → ∃ v, vs[i]? = some v ∧ Dp K H v d
  | _, _, _, _, .nil, e => by simp at e
  | _, _, 0, _, .cons h _, e => by
    cases Option.some.inj e
    exact ⟨_, rfl, h⟩
  | _, _, i + 1, _, .cons _ r, e => by
    obtain ⟨v, h1, h2⟩ := DpAll.get (i := i) r e
    exact ⟨v, h1, h2⟩
theorem depth_get : ∀ {ds : List PyData} {i : Nat} {d : PyData}, ds[i]? = some d → d.depth ≤ PyData.depthAll ds
  | [], _, _, e => by simp at e
  | x :: xs, 0, _, e => by
    cases Option.some.inj e
    simp only [PyData.depthAll]
    omega
  | x :: xs, i + 1, d, e => by
    have := depth_get (ds := xs) (i := i) (d := d) e
    simp only [PyData.depthAll]
    omega
end
section
set_option Elab.async false
set_option linter.all false
set_option maxRecDepth 100000
set_option maxHeartbeats 2000000
open PySem L2
structure TxtC (mg : Str → Option Value) : Prop extends TxtB mg where
  b_bool : mg "bool" = none
  b_str : mg "str" = none
section
variable {P : Program} {w : World} {K : PySem.W.Frag} {mg : Str → Option Value} {base : Heap}
/-! _law_same: equal data are told so -/
def spSame (K : PySem.W.Frag) (n : Nat) : Sp := fun vs H Q _ => ∃ (v u : V) (d : PyData), vs = [v, u] ∧ Dp K H v d ∧ Dp K H u d ∧ d.depth ≤ n ∧ Q (.bl true) H
def spSameR (K : PySem.W.Frag) : Nat → Sp
  | 0 => fun _ _ _ _ => False
  | n + 1 => spSame K n
theorem FnOk.no {P : Program} {w : World} {K : PySem.W.Frag} {mg : Str → Option Value} {base : Heap} {CX : CXT} {k : Nat} {f : Addr} {fd : FuncData} {ps : List Str} : FnOk P w K mg base CX k f fd ps (fun _ _ _ _ => False) :=
  ⟨fun _ _ _ _ h => h.elim, fun _ _ _ _ _ _ _ _ _ _ _ _ _ h => h.elim⟩
end
end
section
set_option Elab.async false
set_option linter.all false
set_option maxRecDepth 100000
set_option maxHeartbeats 4000000
open PySem PySem.Spec PyProof.Rows L2
/-! a set comprehension whose members are ints and texts -/
section
variable {X : Cx}
/-- {e for t in it if ..}: D is the new set -/
def tSk (P : Program) (w : World) (wi : TI) (g : TG) (tt : TT) (te : TE) (own : List Nat) : TE := fun σ H Q => wi σ H fun J Ha => ∀ D, Ha D = none →
  ∃ W : Nat → Nat → Hp → Prop, (∃ m, W 0 m (upd Ha D (SetK P w D (fun _ => false) 0))) ∧ ∀ i m Hb, W i m Hb → (J.stop i Hb ∧ Q (.ref D) Hb) ∨ (J.go i Hb ∧ ∃ Z : Hp → Prop, (∀ Hc, Z Hc → ∃ m', m' < m ∧ W (i + 1) m' Hc) ∧
    ∀ x Hc, J.yld i Hb x Hc → g x (wipe σ own) Hc fun ρ Hd => wipe ρ own = wipe σ own ∧ tt ρ Hd fun b He => if b = true then te ρ He fun y Hf => ∃ (k : Key) (S : Key → Bool) (n : Nat), y = kV k ∧ Hf D = some (SetK P w D S n) ∧ n + 1 < scanBound ∧
      Z (upd Hf D (SetK P w D (fun j => S j || decide (j = k)) (if S k = true then n else n + 1))) else Z He)
theorem setk_fresh (P : Program) (w : World) (h : Heap) : (h.push { cls := .type "set", dict := none, data := .set #[] 0 (.fresh 0 0 (!w.params.followText "set-order")) }).SetOf (mixKind P w) h.objs.size (fun _ => false) 0 := by
  refine ⟨_, #[], 0, _, Heap.get?_push_size _ rfl, ⟨rfl, rfl, rfl⟩, rfl, ?_, ?_, by decide, by rfl, rfl⟩
  · intro e he
    simp at he
  · intro k
    simp
theorem pe_sk {elt tg iter : Expr} {ifs : List Expr} {scope : Scope} {own : List (PySem.Str × Nat)} {pos : Pos} {wi : TI} {g : TG} {tt : TT} {te : TE} (calm : X.calm = true) (nd : X.N.Nodup) (hi : PI X tg iter wi) (ok : BlkOk X.N X.env.scope scope own)
    (hg : ∀ s H C cl fp, PG (X.blk s H scope (compEnvC scope cl C X.env) fp) tg g) (ht : ∀ s H C cl fp, PTs (X.blk s H scope (compEnvC scope cl C X.env) fp) ifs tt)
    (he : ∀ s H C cl fp, PE (X.blk s H scope (compEnvC scope cl C X.env) fp) elt te) (hf : ∀ x, foldedSetIterable iter X.env x = pure x := by intro _; rfl) :
    PE X (.SetComp elt [⟨tg, iter, ifs, 0⟩] scope pos) (tSk X.prog X.w wi g tt te (own.map (·.2))) := by
  refine ⟨fun pins s σ H Q I h => ?_⟩
  rw [PpSet.eval_SetComp]
  have free : ∀ y ∈ scope.names, y.2 = .free → ∃ c, X.env.cells.lookup y.1 = some c := fun y hy e => (ok.free y hy e).elim (fun k => I.ok.has _ (.inl k)) fun k => I.ok.has _ (.inr k)
  refine wpAny_comprehension_free (use := none) rfl hf (closure_ok free) ok.kind (fun y hy e => by rw [ok.uniq y hy, e]) ?_
  refine thn (hi.run pins s σ H _ I h) fun xv s1 hx => thn hx fun itv s2 h2 => ?_
  obtain ⟨it, fp, tn, J, Ha, rfl, Ia, T, sta, fa, q⟩ := h2
  refine PpSet.newSet_ok (newEnv_comp ?_)
  obtain ⟨D, hD⟩ : ∃ D, s2.heap.objs.size = D := ⟨_, rfl⟩
  rw [hD]
  obtain ⟨W, ⟨m0, w0⟩, turn⟩ := q D (Ia.hok.fresh (Nat.le_of_eq hD))
  obtain ⟨s3, hs3⟩ : ∃ s3 : Shared, s3 = { s2 with heap := s2.heap.push { cls := .type "set", dict := none, data := .set #[] 0 (.fresh 0 0 (!X.w.params.followText "set-order")) } } := ⟨_, rfl⟩
  rw [← hs3]
  have heap3 : s3.heap = s2.heap.push { cls := .type "set", dict := none, data := .set #[] 0 (.fresh 0 0 (!X.w.params.followText "set-order")) } := by rw [hs3]
  obtain ⟨Hd, hHd⟩ : ∃ Hd, Hd = upd Ha D (SetK X.prog X.w D (fun _ => false) 0) := ⟨_, rfl⟩
  rw [← hHd] at w0
  have Id : Inv X pins σ Hd s3 := by
    rw [hs3, hHd]
    refine Ia.laid (t' := s2.toks) (fun b o e => Heap.get?_push_of_some _ e) (Nat.le_of_eq hD) ?_
    rw [← hD]
    exact setK_new (setk_fresh X.prog X.w s2.heap)
  have small : ∀ b ∈ fp, b < s2.heap.objs.size := fun b hb => (T.obj _ _ sta b hb).elim fun o e => Heap.lt_size e.1
  have fd : ∀ b ∈ fp, FpOk X pins Hd b ∧ b < s3.heap.objs.size := fun b hb => by
    have lt := small b hb
    refine ⟨⟨?_, (fa b hb).2⟩, by rw [heap3, Heap.size_push]; exact Nat.lt_succ_of_lt lt⟩
    rw [hHd, upd_ne (by rw [← hD]; exact Nat.ne_of_lt lt)]
    exact (fa b hb).1
  have std : tn 0 s3.heap := T.keep _ _ _ sta fun b _ o e => by rw [heap3]; exact Heap.get?_push_of_some _ e
  have I4 := block_start Id ok nd fd
  obtain ⟨cl, hcl⟩ : ∃ cl, cl = cellsFrom (s3.heap.objs.size + 1) scope.names (cloFrom X.env.cells scope.names []) := ⟨_, rfl⟩
  rw [← hcl] at I4
  show codeAny _ _ (.compStart (.SetComp elt [⟨tg, iter, ifs, 0⟩] scope pos) 0 (.ref it) (.ref D) (compEnvC scope (cellsFrom (s3.heap.objs.size + 1) scope.names (cloFrom X.env.cells scope.names [])) s3.heap.objs.size X.env)) _ { s3 with heap := pushCells (s3.heap.push { cls := .type "dict", data := .dict #[] }) scope.names }
  rw [← hcl]
  have pg := hg s3 Hd s3.heap.objs.size cl fp
  have pt := ht s3 Hd s3.heap.objs.size cl fp
  have pe := he s3 Hd s3.heap.objs.size cl fp
  have none4 : ∀ b ∈ fp, Hd b = none := fun b hb => (fd b hb).1.1
  obtain ⟨ce, hce⟩ : ∃ ce, ce = compEnvC scope cl s3.heap.objs.size X.env := ⟨_, rfl⟩
  rw [← hce] at I4 pg pt pe ⊢
  have loc : ce.locals = s3.heap.objs.size := by rw [hce]; rfl
  obtain ⟨s4, hs4⟩ : ∃ s4 : Shared, s4 = { s3 with heap := pushCells (s3.heap.push { cls := .type "dict", data := .dict #[] }) scope.names } := ⟨_, rfl⟩
  rw [← hs4] at I4 ⊢
  have st4 : tn 0 s4.heap := T.keep _ _ _ std fun b _ o e => by rw [hs4]; exact pushCells_keeps _ _ _ _ (Heap.get?_push_of_some _ e)
  have fps : ∀ {σ' : L2.St} {H' : Hp} {s' : Shared}, Inv (X.blk s3 Hd scope ce fp) [] σ' H' s' → (∀ b ∈ fp, H' b = none) → ∀ b ∈ fp, FpOk (X.blk s3 Hd scope ce fp) [] H' b := fun {σ' H' s'} I' hn b hb =>
    ⟨hn b hb, (I'.ok.exf b hb).1, I'.ok.exfs b hb, .inl hb, fun x c e => (I'.ok.exf b hb).2 x c e, fun p hp => absurd (show p ∈ ([] : List (Addr × Obj)) ++ [] from hp) (by simp)⟩
  refine PpSet.codeAny_compStart_set ?loop (T.self X.A 0 _ _ _ st4 ?loop)
  refine PpSet.compLoopS_any (fun n s' => ∃ i Hk, Inv (X.blk s3 Hd scope ce fp) [] (wipe σ (own.map (·.2))) Hk s' ∧ tn i s'.heap ∧ (∀ b ∈ fp, Hk b = none) ∧ W i n Hk) ?_ m0 ⟨0, Hd, I4, st4, none4, w0⟩
  rintro n s5 ⟨i, H5, I5, st5, n5, w5⟩
  rcases turn i n H5 w5 with ⟨stop, fin⟩ | ⟨go, Z, hZ, step⟩
  · refine thnF (T.done (X.blk s3 Hd scope ce fp) rfl rfl rfl calm i [] s5 _ H5 (fun _ _ => False) I5 (fps I5 n5) st5 stop) fun r s6 ⟨hr, I6⟩ => ?_
    subst hr
    have I7 : Inv X pins σ H5 s6 := Id.call' (ch := fp) I6.os I6.base I6.hok I6.bare fun b hb => ⟨(fd b hb).1.2.2.2.1, (fd b hb).1.2.1, (fd b hb).1.2.2.2.2.1, (fd b hb).1.2.2.2.2.2⟩
    have gone : H5 s3.heap.objs.size = none := by
      rw [← loc]
      exact I6.free
    obtain ⟨mm, hn, _⟩ := I6.loc
    have hn : s6.heap.Ns ce.locals mm := hn
    rw [loc] at hn
    obtain ⟨f0, f1, f2, f3, f4, f5⟩ := Id.fpOk (Nat.le_refl _) gone
    exact ⟨mm, hn, fun h'' sb => ⟨.ref D, H5, I7.turned (t' := s6.toks) (fun b o hb e => (sb.2 b hb).trans e) f0 f1 f3 f4 f5, rfl, fin⟩⟩
  · refine thnF (T.item (X.blk s3 Hd scope ce fp) rfl rfl rfl calm i [] s5 _ H5 (fun _ _ => False) I5 (fps I5 n5) st5 go) fun r s6 ⟨u, hr, h6⟩ => ?_
    subst hr
    refine thnF h6 fun _ s7 ⟨x, H7, I7, r7, y7, st7, n7⟩ => ?_
    refine thnF (pg.run _ s7 _ H7 x u _ (I7.pinned (fps I7 n7) (T.obj _ _ st7)) r7 (step x H7 y7)) fun _ s8 ⟨σ8, H8, I8, hw8, q8⟩ => ?_
    refine thnF (pt.run _ s8 σ8 H8 _ I8 q8) fun b s9 ⟨H9, I9, q9⟩ => ?_
    have next : ∀ {s' : Shared} {H' : Hp}, Inv (X.blk s3 Hd scope ce fp) ([] ++ pinsAt fp s7.heap) σ8 H' s' → Z H' → ∃ m, m < n ∧ ∃ i Hk, Inv (X.blk s3 Hd scope ce fp) [] (wipe σ (own.map (·.2))) Hk s' ∧ tn i s'.heap ∧ (∀ b ∈ fp, Hk b = none) ∧ W i m Hk := fun {s' H'} I' nx => by
      obtain ⟨m', hm, w'⟩ := hZ H' nx
      have kept : ∀ b ∈ fp, ∀ o, s7.heap.get? b = some o → s'.heap.get? b = some o ∧ H' b = none := fun b hb o e => by
        have z := I'.pin (b, o) (List.mem_append_right _ (List.mem_append_right _ (mem_pinsAt hb e)))
        exact ⟨z.1, z.2.1⟩
      refine ⟨m', hm, i + 1, H', (I'.unpinned (pins := [])).weak (by rw [← hw8, wipe_length]) (fun j v e => ?_), T.keep _ _ _ st7 fun b hb o e => (kept b hb o e).1, fun b hb => ?_, w'⟩
      · rw [← hw8] at e
        exact (wipe_some e).1
      · obtain ⟨o, e, _⟩ := T.obj _ _ st7 b hb
        exact (kept b hb o e).2
    cases b with
    | false =>
      rw [if_neg Bool.false_ne_true] at q9
      exact next I9 q9
    | true =>
      rw [if_pos (rfl : true = true)] at q9
      refine thnF (pe.run _ s9 σ8 H9 _ I9 q9) fun z s10 ⟨yv, H10, I10, r10, k, S, n0, ey, hD10, room, nx⟩ => ?_
      subst ey
      refine thnF (mt_saddK (X := X.blk s3 Hd scope ce fp) _ s10 σ8 H10 (.ref D) [kV k] (.ref D) [z] (fun _ H' => Z H') I10 rfl (.cons r10 .nil) ⟨D, k, S, n0, rfl, rfl, hD10, room, nx⟩) fun _ s11 ⟨_, H11, I11, _, q11⟩ => ?_
      exact next I11 q11
end
end
section
set_option Elab.async false
set_option linter.all false
set_option maxRecDepth 100000
set_option maxHeartbeats 2000000
open PySem PySem.Spec PyProof.Rows L2
/-- a comprehension's walk by a word: acc is the list so far -/
theorem lc_word {J : It} {n : Nat} {g : TG} {tt : TT} {te : TE} {vs : List Nat} {σ : L2.St} {H1 : Hp} {D : Addr} {Qd : Hp → Prop} (Pv : Nat → List V → Hp → Prop) (h0 : Pv 0 [] (upd H1 D (.lst [])))
    (hgo : ∀ i acc H, i < n → Pv i acc H → J.go i H) (hst : ∀ acc H, Pv n acc H → J.stop n H)
    (hs : ∀ i acc x H H' (R : VK) (Z : Hp → Prop), i < n → Pv i acc H → H D = some (.lst acc) → J.yld i H x H' →
      (∀ y H3, H3 D = some (.lst acc) → acc.length < sizeLine → Pv (i + 1) (acc ++ [y]) (upd H3 D (.lst (acc ++ [y]))) → R y H3) → g x (wipe σ vs) H' fun σ2 H2 => wipe σ2 vs = wipe σ vs ∧ tt σ2 H2 fun b H3 => if b = true then te σ2 H3 R else Z H3)
    (hd : ∀ acc H, Pv n acc H → H D = some (.lst acc) → Qd H) :
    ∃ W : Nat → Nat → Hp → Prop, (∃ m, W 0 m (upd H1 D (.lst []))) ∧ ∀ i m H, W i m H → (J.stop i H ∧ Qd H) ∨ (J.go i H ∧ ∃ Nx : Hp → Prop, (∀ H', Nx H' → ∃ m', m' < m ∧ W (i + 1) m' H') ∧ ∀ x H', J.yld i H x H' →
      g x (wipe σ vs) H' fun σ2 H2 => wipe σ2 vs = wipe σ vs ∧ tt σ2 H2 fun b H3 => if b = true then te σ2 H3 fun y H4 => ∃ acc, H4 D = some (.lst acc) ∧ acc.length < sizeLine ∧ Nx (upd H4 D (.lst (acc ++ [y]))) else Nx H3) := by
  refine ⟨fun i m H => m = n - i ∧ i ≤ n ∧ ∃ acc, Pv i acc H ∧ H D = some (.lst acc), ⟨n, rfl, Nat.zero_le _, [], h0, upd_same⟩, ?_⟩
  rintro i m H ⟨rfl, hi, acc, p, hD⟩
  by_cases hlt : i < n
  · refine .inr ⟨hgo i acc H hlt p, fun H' => ∃ acc, Pv (i + 1) acc H' ∧ H' D = some (.lst acc), fun H' q => ⟨n - (i + 1), by omega, rfl, hlt, q⟩, fun x H' y => ?_⟩
    exact hs i acc x H H' _ _ hlt p hD y fun z H3 e hz q => ⟨acc, e, hz, acc ++ [z], q, upd_same⟩
  · have e : i = n := by omega
    subst e
    exact .inl ⟨hst acc H p, hd acc H p hD⟩
/-- .. where each item gives its value of a list, and nothing that stood is changed -/
theorem lc_pure {J : It} {g : TG} {tt : TT} {te : TE} {vs : List Nat} {σ : L2.St} {H1 : Hp} {D : Addr} {Qd : Hp → Prop} (outs : List V) (hD : H1 D = none) (hz : outs.length ≤ sizeLine)
    (hgo : ∀ i H, i < outs.length → Same H1 H → J.go i H) (hst : ∀ H, Same H1 H → J.stop outs.length H)
    (hs : ∀ i x H H' (R : VK) (Z : Hp → Prop), i < outs.length → Same H1 H → J.yld i H x H' → (∀ y H3, outs[i]? = some y → Same H H3 → R y H3) →
      g x (wipe σ vs) H' fun σ2 H2 => wipe σ2 vs = wipe σ vs ∧ tt σ2 H2 fun b H3 => if b = true then te σ2 H3 R else Z H3)
    (hd : ∀ H, Same H1 H → H D = some (.lst outs) → Qd H) :
    ∃ W : Nat → Nat → Hp → Prop, (∃ m, W 0 m (upd H1 D (.lst []))) ∧ ∀ i m H, W i m H → (J.stop i H ∧ Qd H) ∨ (J.go i H ∧ ∃ Nx : Hp → Prop, (∀ H', Nx H' → ∃ m', m' < m ∧ W (i + 1) m' H') ∧ ∀ x H', J.yld i H x H' →
      g x (wipe σ vs) H' fun σ2 H2 => wipe σ2 vs = wipe σ vs ∧ tt σ2 H2 fun b H3 => if b = true then te σ2 H3 fun y H4 => ∃ acc, H4 D = some (.lst acc) ∧ acc.length < sizeLine ∧ Nx (upd H4 D (.lst (acc ++ [y]))) else Nx H3) := by
  refine lc_word (n := outs.length) (fun i acc H => acc = outs.take i ∧ Same H1 H) ⟨by simp, same_new hD⟩ (fun i acc H hi p => hgo i H hi p.2) (fun acc H p => hst H p.2) ?_ (fun acc H p e => hd H p.2 (by rw [e, p.1, List.take_length]))
  rintro i acc x H H' R Z hi ⟨rfl, s⟩ e y k
  refine hs i x H H' R Z hi s y fun v H3 hv s3 => k v H3 (s3 _ _ e) (by rw [List.length_take]; omega) ⟨?_, same_upd_new (s.trans s3) hD⟩
  rw [List.take_add_one, hv]
  rfl
theorem pe_gstr {X : Cx} {x z : Str} {pos : Pos} (hg : Gl X x) (h : ∃ t, X.mg x = some (.str z t)) (hd : (x == ("__debug__" : Str)) = false := by decide) : PE X (.Name x pos) (tC (.str z)) := by
  obtain ⟨t, h⟩ := h
  exact pe_glob hg h ⟨_, rfl⟩ hd
theorem pe_gint {X : Cx} {x : Str} {z : Int} {pos : Pos} (hg : Gl X x) (h : ∃ t, X.mg x = some (.int z t)) (hd : (x == ("__debug__" : Str)) = false := by decide) : PE X (.Name x pos) (tC (.int z)) := by
  obtain ⟨t, h⟩ := h
  exact pe_glob hg h ⟨_, rfl⟩ hd
theorem pe_gref {X : Cx} {x : Str} {a : Addr} {pos : Pos} (hg : Gl X x) (h : X.mg x = some (.ref a)) (hd : (x == ("__debug__" : Str)) = false := by decide) : PE X (.Name x pos) (tC (.ref a)) :=
  pe_glob (v := .ref a) hg h rfl hd
/-! pieces of texts -/
theorem cut_from (z : Str) (n : Nat) : cutS z (some (n : Int)) none = SX.S (z.cps.toList.drop n) := by
  rw [C8.cutS_slice]
  have e : Txt.slice (SX.S z.cps.toList) (some (n : Int)) none = SX.S (z.cps.toList.drop n) := by
    rw [SX.slice_from (by omega)]
    rfl
  rw [SX.S_tl] at e
  exact e
theorem cut_to (z : Str) (n : Nat) : cutS z none (some (n : Int)) = SX.S (z.cps.toList.take n) := by
  rw [C8.cutS_slice]
  have e : Txt.slice (SX.S z.cps.toList) none (some (n : Int)) = SX.S (z.cps.toList.take n) := by
    rw [SX.slice_to (by omega)]
    rfl
  rw [SX.S_tl] at e
  exact e
theorem str_len (z : Str) : z.length = z.cps.toList.length := by simp [Str.length]
end
end Mg
namespace Mg
open PySem L2
local macro_rules | `(tactic| walk_at "dec") => `(tactic| (first | (apply decide_eq_true; omega) | (simp only [Bool.not_eq_true', decide_eq_true_eq, decide_eq_false_iff_not, Bool.not_eq_true, Bool.not_eq_false', Decidable.not_not] <;> omega)))
section
set_option Elab.async false
set_option linter.all false
set_option maxRecDepth 100000
set_option maxHeartbeats 2000000
open PySem L2
abbrev sIsCommand : Stmt := top 14
abbrev sIsSymbol : Stmt := top 15
/-! ### names of symbols, over texts -/
def cLETTERS : Str := PySem.Str.ofString "abcdefghijklmnopqrstuvwxyz"
def cSIGNS : Str := PySem.Str.ofString "abcdefghijklmnopqrstuvwxyzABCDEFGHIJKLMNOPQRSTUVWXYZ0123456789+-*/=<>()[],;:!?.'"
def cRESERVED : List Str := ["@frac", "@root", "@left", "@right", "@grid"]
structure TxtS (K : PySem.W.Frag) (mg : Str → Option Value) (aR : Addr) : Prop where
  b_len : mg "len" = none
  b_all : mg "all" = none
  c_LETTERS : ∃ t, mg "LETTERS" = some (.str cLETTERS t)
  c_SIGNS : ∃ t, mg "SIGNS" = some (.str cSIGNS t)
  c_MOST_LETTERS : ∃ t, mg "MOST_LETTERS" = some (.int 8 t)
  c_RESERVED : mg "RESERVED" = some (.ref aR)
  k_RESERVED : ∀ H, SqT K H aR (cRESERVED.map V.str)
def isCommand (w : Str) : Bool := SX.S (w.cps.toList.take 1) == ("@" : Str) && (decide (1 ≤ (w.cps.toList.drop 1).length) && decide ((w.cps.toList.drop 1).length ≤ 8)) && (w.cps.toList.drop 1).all fun c => decide (c ∈ cLETTERS.cps.toList)
def isSymbol (w : Str) : Bool := if w.cps.toList.length = 1 then w.cps.toList.all fun c => decide (c ∈ cSIGNS.cps.toList) else isCommand w && !(cRESERVED.any fun r => r == w)
section
variable {P : Program} {w : World} {K : PySem.W.Frag} {mg : Str → Option Value} {base : Heap} {aR : Addr}
def spIsCommand : Sp := fun vs H Q _ => ∃ z : Str, vs = [.str z] ∧ z.length ≤ 1000 ∧ ∀ H', Same H H' → Q (.bl (isCommand z)) H'
theorem scIsCommand : FnScope ["word", "letters", "letter"] ["word"] (defScope sIsCommand) := ⟨rfl, rfl, rfl, by decide +kernel, rfl, by decide +kernel, by decide +kernel⟩
theorem dec_not {p : Prop} [Decidable p] (h : (!decide p) = true) : ¬ p := by simpa using h
theorem ok_is_command {f : Addr} {fd : FuncData} (F : Fun K "is_command" "is_command" sIsCommand f fd) (T : TxtS K mg aR) : FnOk P w K mg base CX0 1 f fd ["word"] spIsCommand := by
  have sc := scIsCommand
  refine F.ok scIsCommand (fun vs H Q E h => ?_) (fun cdv A outer s H vs Q E hr h => ?_)
  · obtain ⟨z, rfl, _⟩ := h
    rfl
  · obtain ⟨z, rfl, hz, k⟩ := h
    have big : z.length ≤ sizeLine := Nat.le_of_lt (small1000 hz)
    refine ⟨_, (pss_cons (ps_set (i := 1) sc.nd rfl (Or.inl rfl) (pe_slice sl_str (pv 0) (po_some pe_int) po_none))
  (pss_cons (ps_if (PW.pt (pw_or (pt_cmpR op_ne (pe_slice sl_str (pv 0) po_none (po_some pe_int)) pe_str (nomark _)) (pw_or1 (pt_not (pt_chain op_le op_le pe_int (pe_callB call_len_str (by rfl) T.b_len PySem.boot_len (pa_cons (pv 1) pa_nil)) (pe_gint rfl T.c_MOST_LETTERS))))))
  (pss_one (ps_ret pe_bl))
  pss_nil)
  (pss_one (ps_ret (pe_callB (cr_all rfl) (by rfl) T.b_all (by decide +kernel) (pa_cons (pe_lc (own := [("letter", 2)]) rfl sc.nd (pi_str (pv 1)) (blkOk_by (own := [("letter", 2)]) (N := ["word", "letters", "letter"]) (sc := defScope sIsCommand) (by decide +kernel)) (fun _ _ _ _ _ => (pg_name (i := 2) sc.nd rfl (Or.inl rfl))) (fun _ _ _ _ _ => pts_nil) (fun _ _ _ _ _ => (pe_cmpR op_in_sign (pv 2) (pe_gstr rfl T.c_LETTERS) (by rfl)))) pa_nil)))))), ?_⟩
    obtain ⟨l, hl⟩ : ∃ l, l = z.cps.toList := ⟨_, rfl⟩
    have zl : z.length = l.length := by rw [hl, str_len]
    have dl : (l.drop 1).length ≤ 1000 := by rw [List.length_drop]; omega
    refine ⟨_, rfl, 1, rfl, z, rfl, big, ?_⟩
    rw [show cutS z (some 1) none = SX.S (l.drop 1) by rw [hl]; exact cut_from z 1]
    refine ⟨_, rfl, 1, rfl, z, rfl, big, rfl, ?_⟩
    rw [show cutS z none (some 1) = SX.S (l.take 1) by rw [hl]; exact cut_to z 1]
    refine ⟨_, rfl, ?_⟩
    have kk : ∀ b : Bool, isCommand z = b → ∀ H', Same H H' → Q (.bl b) H' := fun b e H' s => e ▸ k H' s
    unfold isCommand at kk
    rw [← hl] at kk
    by_cases c1 : SX.S (l.take 1) = ("@" : Str)
    · refine iteN (by simp [c1]) ?_
      refine ⟨_, rfl, _, rfl, (by rw [SX.S_len]; exact Nat.le_of_lt (small1000 dl)), ?_⟩
      rw [SX.S_len]
      refine ⟨_, _, rfl, rfl, _, rfl, ?_⟩
      by_cases c2 : 1 ≤ (l.drop 1).length
      · refine iteP (by walk_at "dec") ?_
        refine ⟨_, _, rfl, rfl, _, rfl, ?_⟩
        by_cases c3 : (l.drop 1).length ≤ 8
        · refine iteN (by walk_at "dec") ?_
          refine ⟨_, rfl, _, rfl, fun D hD => lc_pure (H1 := H) ((l.drop 1).map fun c => V.bl (decide (c ∈ cLETTERS.cps.toList))) hD (by rw [List.length_map]; exact Nat.le_of_lt (small1000 dl)) ?_ ?_ ?_ ?_⟩
          · intro i H' hi _
            rw [List.length_map] at hi
            show i < (SX.S (l.drop 1)).cps.size
            simpa using hi
          · intro H' _
            rw [List.length_map]
            show (SX.S (l.drop 1)).cps.size ≤ _
            simp
          · rintro i x H' H'' R Z hi s ⟨rfl, c, hc, rfl⟩ kR
            have hc' : (l.drop 1)[i]? = some c := by simpa using hc
            refine ⟨rfl, ?_⟩
            refine ⟨_, rfl, c, _, rfl, rfl, kR _ _ ?_ (Same.refl _)⟩
            rw [List.getElem?_map, hc']
            rfl
          · intro H' s e
            refine ⟨D, (l.drop 1).map (fun c => decide (c ∈ cLETTERS.cps.toList)), rfl, SqL.of (by rw [e, List.map_map]; rfl), kk _ ?_ H' s⟩
            rw [c1, decide_eq_true c2, decide_eq_true c3, List.all_map]
            rfl
        · refine iteP (by walk_at "dec") ?_
          refine kk _ ?_ H (Same.refl _)
          rw [decide_eq_false c3]
          simp
      · refine iteN (by walk_at "dec") ⟨_, rfl, ?_⟩
        refine iteP (by rfl) ?_
        refine kk _ ?_ H (Same.refl _)
        rw [decide_eq_false c2]
        simp
    · refine iteP (by simp [c1]) ?_
      refine iteP rfl ?_
      refine kk _ ?_ H (Same.refl _)
      rw [beq_false_of_ne c1]
      simp
def spIsSymbol : Sp := fun vs H Q _ => ∃ z : Str, vs = [.str z] ∧ z.length ≤ 1000 ∧ ∀ H', Same H H' → Q (.bl (isSymbol z)) H'
theorem scIsSymbol : FnScope ["word"] ["word"] (defScope sIsSymbol) := ⟨rfl, rfl, rfl, by decide +kernel, rfl, by decide +kernel, by decide +kernel⟩
theorem inV_strs (z : Str) (l : List Str) : inV (.str z) (l.map V.str) = l.any fun r => r == z := by
  unfold inV
  rw [List.any_map]
  rfl
theorem flat_strs (l : List Str) : (l.map V.str).all flatV = true := by
  rw [List.all_map]
  exact List.all_eq_true.mpr fun _ _ => rfl
theorem ok_is_symbol {f : Addr} {fd : FuncData} (F : Fun K "is_symbol" "is_symbol" sIsSymbol f fd) (T : TxtS K mg aR) (C_is_command : Cal P w K mg base CX0 1 "is_command" ["word"] spIsCommand) : FnOk P w K mg base CX0 2 f fd ["word"] spIsSymbol := by
  have sc := scIsSymbol
  refine F.ok scIsSymbol (fun vs H Q E h => ?_) (fun cdv A outer s H vs Q E hr h => ?_)
  · obtain ⟨z, rfl, _⟩ := h
    rfl
  · obtain ⟨z, rfl, hz, k⟩ := h
    have big : z.length ≤ sizeLine := Nat.le_of_lt (small1000 hz)
    have hris_command : Room 1 _ := hr.mono (by decide)
    refine ⟨_, (pss_cons (ps_if (pt_cmpR op_eq (pe_callB call_len_str (by rfl) T.b_len PySem.boot_len (pa_cons (pv 0) pa_nil)) pe_int (nomark _))
  (pss_one (ps_ret (pe_cmpR op_in_sign (pv 0) (pe_gstr rfl T.c_SIGNS) (by rfl))))
  pss_nil)
  (pss_one (ps_ret (pe_and (pe_cal C_is_command hris_command rfl pass0 (pa_cons (pv 0) pa_nil)) (pe_one (pe_cmpR op_notIn_seq (pv 0) (pe_gref rfl T.c_RESERVED) (by rfl))))))), ?_⟩
    unfold isSymbol at k
    rw [← str_len] at k
    refine ⟨_, rfl, z, rfl, big, rfl, _, rfl, ?_⟩
    by_cases c : z.length = 1
    · refine iteP (by simp [c]) ?_
      rw [if_pos c] at k
      have c' : z.cps.toList.length = 1 := by rw [← str_len]; exact c
      obtain ⟨x, hx⟩ := List.length_eq_one_iff.mp c'
      have ez : z = ⟨#[x]⟩ := by
        rw [← SX.S_tl z, hx]
      refine ⟨_, rfl, x, _, by rw [ez], rfl, ?_⟩
      have q := k H (Same.refl _)
      rw [hx, List.all_cons, List.all_nil, Bool.and_true] at q
      exact q
    · refine iteN (by simp only [decide_eq_true_eq]; intro e; injection e with e; omega) ?_
      rw [if_neg c] at k
      refine ⟨_, rfl, z, rfl, hz, fun H1 s1 => ⟨_, rfl, ?_⟩⟩
      by_cases d : isCommand z = true
      · rw [d] at k
        refine iteP d ?_
        refine ⟨_, rfl, aR, _, rfl, .inr (T.k_RESERVED _), rfl, flat_strs _, ?_⟩
        have q := k H1 s1
        rw [Bool.true_and] at q
        show Q (V.bl (!inV (.str z) (cRESERVED.map V.str))) H1
        rw [inV_strs]
        exact q
      · refine iteN d ?_
        have q := k H1 s1
        rw [Bool.not_eq_true] at d
        rw [d, Bool.false_and] at q
        exact q
end
end
end Mg
set_option Elab.async false
set_option linter.all false
set_option maxRecDepth 100000
set_option maxHeartbeats 4000000
namespace PySem
namespace MgU
open PySem.W PySem.Calls PyProof.Rows PySem.HandSPX
/-! an own error below ValueError: __init__(self, name): super().__init__(f'..{name}'); self.name = name -/
def iA (p1 p2 : Pos) : Arguments := { posonlyargs := [], args := [{ arg := "self", annotation := none, pos := p1 }, { arg := "name", annotation := none, pos := p2 }], vararg := none, kwonlyargs := [], kw_defaults := [], kwarg := none, defaults := [] }
def iB (pre : Str) (a1 a2 a3 a4 a5 a6 a7 a8 a9 b1 b2 b3 b4 : Pos) : List Stmt :=
  [.Expr (.Call (.Attribute (.Call (.Name "super" a1) [] [] a2) "__init__" a3) [.JoinedStr [.Constant (.str pre) 0 a4, .FormattedValue (.Name "name" a5) (-1) none a6] a7] [] a8) a9,
   .Assign [.Attribute (.Name "self" b1) "name" b2] (.Name "name" b3) b4]
def iS : Scope := { kind := .function, names := [(PySem.Str.ofString "self", .local), (PySem.Str.ofString "name", .local), (PySem.Str.ofString "__class__", .free), (PySem.Str.ofString "super", .globalImplicit)], isGenerator := false, isCoroutine := false, more := [] }
structure UTxt (prog : Program) (K : Frag) (mg : Str → Option Value) (nm qi pre : Str) (C fI cc : Addr) : Prop where
  gC : mg nm = some (.ref C)
  cls : ∃ nm q N bs bm sn sub ab col dd k0 k1 k2 k3 k5, K.lookup C = some (excClassObj nm q C N bs bm true sn sub ab col dd k0 k1 k2 k3 k5 "ValueError.__new__") ∧ refsVE bm = true
  sa : findIn K (.ref C) "__setattr__" = some (some (.builtin "object.__setattr__"))
  noN : findIn K (.ref C) "name" = some none
  iC : findIn K (.ref C) "__init__" = some (some (.ref fI))
  tC : typeIn K (.ref fI) = some (.type "function")
  kC : keepIn K (.ref C) = true
  exC : subIn K (.ref C) (.type "BaseException") = some true
  tyC : typeIn K (.ref C) = some (.type "type")
  hC : subIn K (.ref C) (.type "ValueError") = some true
  alg : ks_superIn K C C "__init__" = some (some (.builtin "ValueError.__init__"))
  op : nsIn K cStatics "thirdparty.any" = some none
  cell : ∃ cl cld csl, K.lookup cc = some ⟨cl, cld, .cell (some (.ref C)), csl⟩
  sup : mg "super" = none
  own : mroIn K C (.ref C) = some true
  htop : (prog.main.scope.names.lookup ("super" : Str)).isSome = false
  fn : ∃ (oc : Value) (od : Option Addr) (doc pm : Value) (an : Option Addr) (cda : Addr) (ct : Value) (osl : Array (Option Value)) (p1 p2 a1 a2 a3 a4 a5 a6 a7 a8 a9 b1 b2 b3 b4 : Pos),
    K.lookup fI = some ⟨oc, od, .func (ksFn "__init__" qi (iA p1 p2) (iB pre a1 a2 a3 a4 a5 a6 a7 a8 a9 b1 b2 b3 b4) iS .none .none doc pm an (.ref cda) ct cc), osl⟩ ∧ codeIn K (.ref cda) qi = true ∧ (a3.endLine == a8.line) = true ∧
    ∃ ccl cdd vs ccs file tf, K.lookup cda = some ⟨ccl, cdd, .fields vs, ccs⟩ ∧ vs[2]? = some (.str file tf) ∧ ((prog.main.file : Str) == file) = true
theorem kept_but {K : Frag} {h h' : Heap} {x : Addr} (X : K.In h) (hx : K.lookup x = none) (k : ∀ b o, b ≠ x → h.get? b = some o → h'.get? b = some o) : K.In h' := fun a o e =>
  k a o (fun z => by rw [z, hx] at e; cases e) (X a o e)
theorem one_size (v : Value) : [v].length ≤ sizeLine := by
  rw [sizeLine_eq]
  exact (by decide : 1 ≤ 16777216)
structure InitEnd (h h' : Heap) (x C dx : Addr) (v : Value) : Prop where
  keep : ∀ b o, b ≠ x → h.get? b = some o → h'.get? b = some o
  obj : ∃ t1, h'.get? x = some { cls := .ref C, dict := some dx, data := .fields #[.ref t1, .none, .none, .none, .bool false, .none] }
  dbig : h.objs.size ≤ dx
  dne : dx ≠ x
  ns : h'.Ns1 dx (fun y => if y = "name" then some v else none)
structure OwnMade (h h' : Heap) (e C d : Addr) (v : Value) : Prop where
  keep : ∀ b o, h.get? b = some o → h'.get? b = some o
  new : h.objs.size ≤ e
  obj : ∃ oe vs, h'.get? e = some oe ∧ oe.cls = .ref C ∧ oe.dict = some d ∧ oe.data = .fields vs ∧ vs[1]? = some .none
  dbig : h.objs.size ≤ d
  dne : d ≠ e
  ns : h'.Ns1 d (fun y => if y = "name" then some v else none)
theorem call_eq {env : Env} {pre : Str} {a1 a2 a3 a4 a5 a6 a7 a8 : Pos} (h : (a3.endLine == a8.line) = true) :
    eval (.Call (.Attribute (.Call (.Name "super" a1) [] [] a2) "__init__" a3) [.JoinedStr [.Constant (.str pre) 0 a4, .FormattedValue (.Name "name" a5) (-1) none a6] a7] [] a8) env = (do
      let ov ← attributeBase (.Call (.Name "super" a1) [] [] a2) "__init__" env (eval (.Call (.Name "super" a1) [] [] a2) env)
      standAt a3.atName
      let (f, first) ← holding [ov] (getMethod ov "__init__" (do return (← importBound (.Call (.Name "super" a1) [] [] a2) env).getD true))
      callWith a8 f first (backTo a8 (starEach [.JoinedStr [.Constant (.str pre) 0 a4, .FormattedValue (.Name "name" a5) (-1) none a6] a7] env)) []) := by
  have e : methodCallPos true (.Call (.Name "super" a1) [] [] a2) env a3 a8 = pure a8 := by
    unfold methodCallPos
    rw [h]
    rfl
  show (do
      let ov ← attributeBase (.Call (.Name "super" a1) [] [] a2) "__init__" env (eval (.Call (.Name "super" a1) [] [] a2) env)
      standAt a3.atName
      let (f, first) ← holding [ov] (getMethod ov "__init__" (do return (← importBound (.Call (.Name "super" a1) [] [] a2) env).getD true))
      let callPos ← methodCallPos true (.Call (.Name "super" a1) [] [] a2) env a3 a8
      callWith callPos f first (backTo a8 (starEach [.JoinedStr [.Constant (.str pre) 0 a4, .FormattedValue (.Name "name" a5) (-1) none a6] a7] env)) []) = _
  rw [e]
  rfl
section
variable {prog : Program} {w : World} {A : Around} {E : Value → Shared → Prop} {R : Result → Shared → Prop} {s : Shared} {K : Frag} {mg : Str → Option Value} {C fI cc : Addr} {nm qi pre : Str}
/-- the bound __init__ of ValueError called -/
theorem call_bwV {h : Heap} {g : Array GenState} {d : Drawn} {t : Nat} {os : OsState} {u e t0 : Addr} {rest : List Value} {Q : Value → Shared → Prop} {nm q : Str} {C N : Addr} {bs bm : List Value} {hdct : Bool} {sn : List Str} {sub : List Value} {ab : Bool} {col : Option Bool} {dd : Option Addr} {k0 k1 k2 k3 k5 : Option Value}
    (hC : h.get? C = some (excClassObj nm q C N bs bm hdct sn sub ab col dd k0 k1 k2 k3 k5 "ValueError.__new__")) (he : h.get? e = some (excO C t0)) (hu : h.get? u = some (kxs_mw "ValueError.__init__" e)) (hrest : rest.length ≤ sizeLine)
    (hq : ∀ h' t1, (∀ b o, b ≠ e → h.get? b = some o → h'.get? b = some o) → h'.get? e = some (excO C t1) → h.objs.size ≤ h'.objs.size → Q .none ⟨h', g, d, t, os⟩) :
    wpAny (model prog w) A (call (.ref u) rest) Q E ⟨h, g, d, t, os⟩ := by
  refine wpAny_call (codeAny_of_tree ?_)
  show wpAny _ A.in1 (callAny (.ref u) ⟨rest, []⟩) _ _ _
  simp only [callAny]
  refine wpAny_bind (wpAny_load hu ?_)
  simp only [kxs_mw, show (Value.type "method-wrapper" == Value.type "method" || Value.type "method-wrapper" == Value.type "builtin_function_or_method" || Value.type "method-wrapper" == Value.type "method-wrapper") = true by decide, if_true]
  refine KFB.if_so (by decide) ?_
  refine wpAny_bind (check_bound_init F.excBase_ValueError.toExcCallFacts hC he rfl ?_)
  refine wpAny_bind (wpAny_pure (wpAny_pure ?_))
  refine ⟨plainId_quiet F.excBase_ValueError.init.plain _, codeAny_builtin F.excBase_ValueError.initEntry ?_⟩
  rw [Around.under_plainId F.excBase_ValueError.init.plain _]
  refine exc_init_tree (cls := .ref C) (t0 := t0) (dv := none) (c2 := .none) (c3 := .none) (b4 := .bool false) he hrest fun h' k e' t' => ?_
  exact hq h' h.objs.size k e' (Nat.le_of_lt (Heap.lt_size t'))
theorem u_init (T : UTxt prog K mg nm qi pre C fI cc) {x t0 : Addr} {y : Str} {ty : Tok} (X : K.In s.heap) (hlim : s.heap.NoLimit) (hx : s.heap.get? x = some (excO C t0)) (hnx : K.lookup x = none) (hroom : A.depth < recursionLimit)
    (hG : s.heap.Ns mainGlobals mg) (hB : ∃ mb, s.heap.Ns builtinsNs mb ∧ ∀ x : Str, x ≠ "__name__" → mb x = bootBuiltins x) (hp : (Str.empty ++ pre).length ≤ sizeLine) (hy : (Str.empty ++ pre ++ y).length ≤ sizeLine) (hz : y.length ≤ sizeLine)
    (hq : ∀ h' tk dx, InitEnd s.heap h' x C dx (.str y ty) → R (.ok (.ret .none)) { s with heap := h', toks := tk }) :
    codeAny (model prog w) A (.call (.ref fI) ⟨[.ref x, .str y ty], []⟩) R s := by
  obtain ⟨oc, od, doc, pm, an, cda, ct, osl, p1, p2, a1, a2, a3, a4, a5, a6, a7, a8, a9, b1, b2, b3, b4, ho, hcd, hpos, ccl, cdd, vs, ccs, file, tf, hcda, hvs, hfile⟩ := T.fn
  obtain ⟨nm', q, N, bs, bm, sn, sub, ab, col, dd, k0, k1, k2, k3, k5, hC, hbm⟩ := T.cls
  obtain ⟨cl, cld, csl, hcell⟩ := T.cell
  have hcl : clsIn K C = some { name := nm', bases := bs, mro := .ref C :: bm, ns := N, qualname := q, hasDict := true, slotNames := sn, subclasses := sub, abstract := ab, collection := col, hasDel := false } := by unfold clsIn; rw [hC] <;> rfl
  obtain ⟨hp0, g, dr, tk, os⟩ := s
  refine ks_codeAny_call_defAt (fd := ksFn "__init__" qi (iA p1 p2) (iB pre a1 a2 a3 a4 a5 a6 a7 a8 a9 b1 b2 b3 b4) iS .none .none doc pm an (.ref cda) ct cc) (body := iB pre a1 a2 a3 a4 a5 a6 a7 a8 a9 b1 b2 b3 b4) (binds := [("self", .ref x), ("name", .str y ty)])
    hroom (X _ _ ho) rfl hlim (codeRec_of X hcd) rfl (BindsTo.of_eq (by first | rfl | with_unfolding_all rfl)) (show ∀ z ∈ iS.names, z.2 ≠ .cell by decide) (fun (z : Str × Value) hz => ?_) fun h₁ hn k => ?_
  · have hz' : z = (("self" : Str), Value.ref x) ∨ z = (("name" : Str), Value.str y ty) := by simpa using hz
    rcases hz' with rfl | rfl <;> first | rfl | decide
  have X₁ : K.In h₁ := X.keeps k
  have hx₁ := k _ _ hx
  have hself : ([("self", Value.ref x), ("name", .str y ty)] : List (Str × Value)).reverse.lookup ("self" : Str) = some (Value.ref x) := by first | rfl | kernel_rfl
  have hname : ([("self", Value.ref x), ("name", .str y ty)] : List (Str × Value)).reverse.lookup ("name" : Str) = some (Value.str y ty) := by first | rfl | kernel_rfl
  have hG₁ : h₁.Ns mainGlobals mg := hG.keeps k
  obtain ⟨mb, hB1, hB2⟩ := hB
  have hB₁ : h₁.Ns builtinsNs mb := hB1.keeps k
  have hD₁ := X₁ _ _ hC
  refine ks_wpAt_execs_cons (ks_wpAt_Expr_any (ks_wpAt_MethodCall ?_ (call_eq hpos)))
  refine ks_wpAt_super_base (by rfl) (by rfl) (by rfl) rfl (X₁ _ _ ho) rfl (by rfl) rfl (X₁ _ _ hcda) rfl hvs hfile T.htop ?_
  refine ks_loadName_global (by rfl) (by rfl) (loadGlobal_builtin hG₁ T.sup hB₁ ((hB2 _ (by decide)).trans (by first | rfl | decide)) ⟨rfl, ?_⟩)
  refine wpAny_loadName_free (by rfl) (by rfl) (by rfl) ⟨_, X₁ _ _ hcell, rfl⟩ ?_
  refine wpAny_loadName_local (by rfl) (by rfl) hn hself ?_
  refine ks_wpAny_isType_cls hD₁ rfl ⟨rfl, ?_⟩
  refine ks_wpAny_call_super hD₁ rfl hx₁ rfl (fun c e => by cases e) (looks_mroIn X₁ T.own) fun h₂ e₂ k₂ => ?_
  have X₂ : K.In h₂ := X₁.keeps k₂
  have hx₂ := k₂ _ _ hx₁
  have hn₂ := hn.keeps k₂
  have I₂ : W.InstAt h₂ x (excO C t0) C none := ⟨hx₂, rfl, rfl, trivial⟩
  have hI : Looks (model prog w) h₂ (isInstance (.ref x) (.type "ValueError")) true := I₂.type.andThen (looks_subIn X₂ T.hC)
  have halg := T.alg
  unfold ks_superIn at halg
  rw [hcl] at halg
  refine kxs_getMethod kxs_ValueError e₂ (looks_opaque X₂ T.op) (l₀ := .ref C :: bm) (fun A Q E s k q => wpAny_bind ((looks_clsIn X₂ hcl) A _ E s k (wpAny_pure q))) rfl X₂ halg hI (ks_ne X₂ I₂ hcl) (by rfl) ?_
  have k₃ : ∀ b o, h₂.get? b = some o → (h₂.push (kxs_mw "ValueError.__init__" x)).get? b = some o := fun b o e => Heap.get?_push_of_some _ e
  have hu₃ : (h₂.push (kxs_mw "ValueError.__init__" x)).get? h₂.objs.size = some (kxs_mw "ValueError.__init__" x) := Heap.get?_push_at rfl rfl
  have hn₃ := hn₂.keeps k₃
  have hx₃ := k₃ _ _ hx₂
  have X₃ := X₂.keeps k₃
  refine kxs_callWith (i := "ValueError.__init__") (x := x) (by rfl) (evalArgs_plain ?_)
  refine spliced_cons ?_
  rw [if_neg Bool.false_ne_true]
  refine wpAny_JoinedStr ?_
  have ev0 : ∀ (env : Env), evalEach [Expr.Constant (Const.str pre) 0 a4, (Expr.Name (PySem.Str.ofString "name") a5).FormattedValue (-1) none a6] env = [eval (Expr.Constant (Const.str pre) 0 a4) env, eval ((Expr.Name (PySem.Str.ofString "name") a5).FormattedValue (-1) none a6) env] := fun env => by first | rfl | simp [evalEach]
  rw [ev0]
  show wpAny _ _ (eval (Expr.Constant (Const.str pre) 0 a4) _) _ _ _
  refine wpAny_Constant_str ⟨pre, _, rfl, hp, ?_⟩
  show wpAny _ _ (eval ((Expr.Name (PySem.Str.ofString "name") a5).FormattedValue (-1) none a6) _) _ _ _
  refine FormattedValue_plain (wpAny_Name (wpAny_loadName_local (by rfl) (by rfl) hn₃ hname ?_) (by decide))
  refine formatField_str (fun t' tk' => ⟨y, _, rfl, hy, ?_⟩) hz
  refine ⟨hy, ?_⟩
  refine spliced_nil ⟨hu₃, ?_⟩
  refine call_bwV (X₃ _ _ hC) hx₃ hu₃ (one_size _) fun h₄ t1 k₄ hx₄ hs₄ => ?_
  show wpAt _ _ _ (execs _ _) _ _ _
  have hxL : hp0.objs.size ≠ x := Nat.ne_of_gt (Heap.lt_size hx)
  have X₄ : K.In h₄ := kept_but X₃ hnx k₄
  have hn₄ : h₄.Ns hp0.objs.size (fun z => ([("self", Value.ref x), ("name", .str y ty)] : List (Str × Value)).reverse.lookup z) := by
    obtain ⟨oL, es, ep, hL, r⟩ := hn₃
    exact ⟨oL, es, ep, k₄ _ _ hxL hL, r⟩
  refine wpAt_of_wpAny (wpAny_execs_cons (plainObj_wpAny_Assign_Attribute ?_))
  refine wpAny_Name (wpAny_loadName_local (by rfl) (by rfl) hn₄ hname ?_) (by decide)
  refine wpAny_Name (wpAny_loadName_local (by rfl) (by rfl) hn₄ hself ?_) (by decide)
  refine set_plain X₄ (ox := excO C t1) (od := none) ⟨hx₄, rfl, rfl, trivial⟩ T.sa ?_
  refine exc_osa X₄ hx₄ hcl (show refsVE (.ref C :: bm) = true from hbm) rfl T.noN (fun h₅ tk₅ dx k₅ dn dne hx₅ hn₅ => ?_)
  show wpAny _ _ (execs _ _) _ _ _
  refine wpAny_execs_nil (hq h₅ tk₅ dx ⟨fun b o hb e => k₅ b o hb (k₄ b o hb (k₃ b o (k₂ b o (k b o e)))), ⟨t1, hx₅⟩, ?_, dne, hn₅⟩)
  exact Nat.le_of_lt (Nat.lt_of_lt_of_le hn₄.lt dn)
theorem u_made (T : UTxt prog K mg nm qi pre C fI cc) {y : Str} {ty : Tok} (X : K.In s.heap) (hlim : s.heap.NoLimit) (hroom : A.depth + 1 < recursionLimit)
    (hG : s.heap.Ns mainGlobals mg) (hB : ∃ mb, s.heap.Ns builtinsNs mb ∧ ∀ x : Str, x ≠ "__name__" → mb x = bootBuiltins x) (hp : (Str.empty ++ pre).length ≤ sizeLine) (hy : (Str.empty ++ pre ++ y).length ≤ sizeLine) (hz : y.length ≤ sizeLine)
    (hq : ∀ h' tk e d, OwnMade s.heap h' e C d (.str y ty) → R (.ok (.ret (.ref e))) { s with heap := h', toks := tk }) :
    codeAny (model prog w) A (.call (.ref C) ⟨[.str y ty], []⟩) R s := by
  obtain ⟨nm, q, N, bs, bm, sn, sub, ab, col, dd, k0, k1, k2, k3, k5, hC, hbm⟩ := T.cls
  obtain ⟨hp0, g, dr, tk, os⟩ := s
  have k : ∀ b o, hp0.get? b = some o → ((hp0.push (kdv_tup [Value.str y ty])).push (excO C hp0.objs.size)).get? b = some o := fun b o e => Heap.get?_push_of_some _ (Heap.get?_push_of_some _ e)
  have hget : ((hp0.push (kdv_tup [Value.str y ty])).push (excO C hp0.objs.size)).get? (hp0.objs.size + 1) = some (excO C hp0.objs.size) := by heap_get
  have hnx : K.lookup (hp0.objs.size + 1) = none := by
    cases e : K.lookup (hp0.objs.size + 1) with
    | none => rfl
    | some o =>
      have z : hp0.get? (hp0.objs.size + 1) = some o := X _ _ e
      exact absurd (Nat.lt_of_succ_lt (Heap.lt_size z)) (Nat.lt_irrefl _)
  refine call_own F.excBase_ValueError (fun X => refsVE_contains X bm hbm) (X _ _ hC) (looks_findIn X T.iC) (fun self => bind_fn X self T.tC) (one_size (.str y ty)) ?_
  obtain ⟨mb, hB1, hB2⟩ := hB
  refine u_init (s := ⟨(hp0.push (kdv_tup [Value.str y ty])).push (excO C hp0.objs.size), g, dr, tk, os⟩) T (X.keeps k) (hlim.keeps k) hget hnx ?_ (hG.keeps k) ⟨mb, hB1.keeps k, hB2⟩ hp hy hz fun h' tk' dx ⟨k', ⟨t1, hx⟩, dn, dne, hns⟩ => ?_
  · show A.depth + 1 < recursionLimit
    exact hroom
  · have old : ∀ b o, hp0.get? b = some o → h'.get? b = some o := fun b o e => k' b o (Nat.ne_of_lt (Nat.lt_succ_of_lt (Heap.lt_size e))) (k b o e)
    have z : hp0.objs.size + 1 + 1 ≤ dx := by
      first
        | (simpa only [Heap.size_push] using dn)
        | exact dn
        | (have q := dn; rw [Heap.size_push, Heap.size_push] at q; exact q)
    exact ⟨rfl, hq h' tk' (hp0.objs.size + 1) dx ⟨old, Nat.le_succ _, ⟨_, _, hx, rfl, rfl, rfl, rfl⟩, Nat.le_trans (Nat.le_trans (Nat.le_succ _) (Nat.le_succ _)) z, dne, hns⟩⟩
end
end MgU
end PySem
set_option Elab.async false
set_option linter.all false
set_option maxRecDepth 100000
set_option maxHeartbeats 4000000
namespace PySem
namespace MrU
open PySem.W PySem.Calls PyProof.Rows PySem.HandSPX
/-! an own error below ValueError: __init__(self, name): super().__init__(f'..{name}'); self.name = name -/
def iA (p1 p2 : Pos) : Arguments := { posonlyargs := [], args := [{ arg := "self", annotation := none, pos := p1 }, { arg := "place", annotation := none, pos := p2 }], vararg := none, kwonlyargs := [], kw_defaults := [], kwarg := none, defaults := [] }
def iB (pre : Str) (a1 a2 a3 a4 a5 a6 a7 a8 a9 b1 b2 b3 b4 : Pos) : List Stmt :=
  [.Expr (.Call (.Attribute (.Call (.Name "super" a1) [] [] a2) "__init__" a3) [.JoinedStr [.Constant (.str pre) 0 a4, .FormattedValue (.Name "place" a5) (-1) none a6] a7] [] a8) a9,
   .Assign [.Attribute (.Name "self" b1) "place" b2] (.Name "place" b3) b4]
def iS : Scope := { kind := .function, names := [(PySem.Str.ofString "self", .local), (PySem.Str.ofString "place", .local), (PySem.Str.ofString "__class__", .free), (PySem.Str.ofString "super", .globalImplicit)], isGenerator := false, isCoroutine := false, more := [] }
structure UTxt (prog : Program) (K : Frag) (mg : Str → Option Value) (nm qi pre : Str) (C fI cc : Addr) : Prop where
  gC : mg nm = some (.ref C)
  cls : ∃ nm q N bs bm sn sub ab col dd k0 k1 k2 k3 k5, K.lookup C = some (excClassObj nm q C N bs bm true sn sub ab col dd k0 k1 k2 k3 k5 "ValueError.__new__") ∧ refsVE bm = true
  sa : findIn K (.ref C) "__setattr__" = some (some (.builtin "object.__setattr__"))
  noN : findIn K (.ref C) "place" = some none
  iC : findIn K (.ref C) "__init__" = some (some (.ref fI))
  tC : typeIn K (.ref fI) = some (.type "function")
  kC : keepIn K (.ref C) = true
  exC : subIn K (.ref C) (.type "BaseException") = some true
  tyC : typeIn K (.ref C) = some (.type "type")
  hC : subIn K (.ref C) (.type "ValueError") = some true
  alg : ks_superIn K C C "__init__" = some (some (.builtin "ValueError.__init__"))
  op : nsIn K cStatics "thirdparty.any" = some none
  cell : ∃ cl cld csl, K.lookup cc = some ⟨cl, cld, .cell (some (.ref C)), csl⟩
  sup : mg "super" = none
  own : mroIn K C (.ref C) = some true
  htop : (prog.main.scope.names.lookup ("super" : Str)).isSome = false
  fn : ∃ (oc : Value) (od : Option Addr) (doc pm : Value) (an : Option Addr) (cda : Addr) (ct : Value) (osl : Array (Option Value)) (p1 p2 a1 a2 a3 a4 a5 a6 a7 a8 a9 b1 b2 b3 b4 : Pos),
    K.lookup fI = some ⟨oc, od, .func (ksFn "__init__" qi (iA p1 p2) (iB pre a1 a2 a3 a4 a5 a6 a7 a8 a9 b1 b2 b3 b4) iS .none .none doc pm an (.ref cda) ct cc), osl⟩ ∧ codeIn K (.ref cda) qi = true ∧ (a3.endLine == a8.line) = true ∧
    ∃ ccl cdd vs ccs file tf, K.lookup cda = some ⟨ccl, cdd, .fields vs, ccs⟩ ∧ vs[2]? = some (.str file tf) ∧ ((prog.main.file : Str) == file) = true
theorem kept_but {K : Frag} {h h' : Heap} {x : Addr} (X : K.In h) (hx : K.lookup x = none) (k : ∀ b o, b ≠ x → h.get? b = some o → h'.get? b = some o) : K.In h' := fun a o e =>
  k a o (fun z => by rw [z, hx] at e; cases e) (X a o e)
theorem one_size (v : Value) : [v].length ≤ sizeLine := by
  rw [sizeLine_eq]
  exact (by decide : 1 ≤ 16777216)
structure InitEnd (h h' : Heap) (x C dx : Addr) (v : Value) : Prop where
  keep : ∀ b o, b ≠ x → h.get? b = some o → h'.get? b = some o
  obj : ∃ t1, h'.get? x = some { cls := .ref C, dict := some dx, data := .fields #[.ref t1, .none, .none, .none, .bool false, .none] }
  dbig : h.objs.size ≤ dx
  dne : dx ≠ x
  ns : h'.Ns1 dx (fun y => if y = "place" then some v else none)
structure OwnMade (h h' : Heap) (e C d : Addr) (v : Value) : Prop where
  keep : ∀ b o, h.get? b = some o → h'.get? b = some o
  new : h.objs.size ≤ e
  obj : ∃ oe vs, h'.get? e = some oe ∧ oe.cls = .ref C ∧ oe.dict = some d ∧ oe.data = .fields vs ∧ vs[1]? = some .none
  dbig : h.objs.size ≤ d
  dne : d ≠ e
  ns : h'.Ns1 d (fun y => if y = "place" then some v else none)
theorem call_eq {env : Env} {pre : Str} {a1 a2 a3 a4 a5 a6 a7 a8 : Pos} (h : (a3.endLine == a8.line) = true) :
    eval (.Call (.Attribute (.Call (.Name "super" a1) [] [] a2) "__init__" a3) [.JoinedStr [.Constant (.str pre) 0 a4, .FormattedValue (.Name "place" a5) (-1) none a6] a7] [] a8) env = (do
      let ov ← attributeBase (.Call (.Name "super" a1) [] [] a2) "__init__" env (eval (.Call (.Name "super" a1) [] [] a2) env)
      standAt a3.atName
      let (f, first) ← holding [ov] (getMethod ov "__init__" (do return (← importBound (.Call (.Name "super" a1) [] [] a2) env).getD true))
      callWith a8 f first (backTo a8 (starEach [.JoinedStr [.Constant (.str pre) 0 a4, .FormattedValue (.Name "place" a5) (-1) none a6] a7] env)) []) := by
  have e : methodCallPos true (.Call (.Name "super" a1) [] [] a2) env a3 a8 = pure a8 := by
    unfold methodCallPos
    rw [h]
    rfl
  show (do
      let ov ← attributeBase (.Call (.Name "super" a1) [] [] a2) "__init__" env (eval (.Call (.Name "super" a1) [] [] a2) env)
      standAt a3.atName
      let (f, first) ← holding [ov] (getMethod ov "__init__" (do return (← importBound (.Call (.Name "super" a1) [] [] a2) env).getD true))
      let callPos ← methodCallPos true (.Call (.Name "super" a1) [] [] a2) env a3 a8
      callWith callPos f first (backTo a8 (starEach [.JoinedStr [.Constant (.str pre) 0 a4, .FormattedValue (.Name "place" a5) (-1) none a6] a7] env)) []) = _
  rw [e]
  rfl
section
variable {prog : Program} {w : World} {A : Around} {E : Value → Shared → Prop} {R : Result → Shared → Prop} {s : Shared} {K : Frag} {mg : Str → Option Value} {C fI cc : Addr} {nm qi pre : Str}
/-- the bound __init__ of ValueError called -/
theorem call_bwV {h : Heap} {g : Array GenState} {d : Drawn} {t : Nat} {os : OsState} {u e t0 : Addr} {rest : List Value} {Q : Value → Shared → Prop} {nm q : Str} {C N : Addr} {bs bm : List Value} {hdct : Bool} {sn : List Str} {sub : List Value} {ab : Bool} {col : Option Bool} {dd : Option Addr} {k0 k1 k2 k3 k5 : Option Value}
    (hC : h.get? C = some (excClassObj nm q C N bs bm hdct sn sub ab col dd k0 k1 k2 k3 k5 "ValueError.__new__")) (he : h.get? e = some (excO C t0)) (hu : h.get? u = some (kxs_mw "ValueError.__init__" e)) (hrest : rest.length ≤ sizeLine)
    (hq : ∀ h' t1, (∀ b o, b ≠ e → h.get? b = some o → h'.get? b = some o) → h'.get? e = some (excO C t1) → h.objs.size ≤ h'.objs.size → Q .none ⟨h', g, d, t, os⟩) :
    wpAny (model prog w) A (call (.ref u) rest) Q E ⟨h, g, d, t, os⟩ := by
  refine wpAny_call (codeAny_of_tree ?_)
  show wpAny _ A.in1 (callAny (.ref u) ⟨rest, []⟩) _ _ _
  simp only [callAny]
  refine wpAny_bind (wpAny_load hu ?_)
  simp only [kxs_mw, show (Value.type "method-wrapper" == Value.type "method" || Value.type "method-wrapper" == Value.type "builtin_function_or_method" || Value.type "method-wrapper" == Value.type "method-wrapper") = true by decide, if_true]
  refine KFB.if_so (by decide) ?_
  refine wpAny_bind (check_bound_init F.excBase_ValueError.toExcCallFacts hC he rfl ?_)
  refine wpAny_bind (wpAny_pure (wpAny_pure ?_))
  refine ⟨plainId_quiet F.excBase_ValueError.init.plain _, codeAny_builtin F.excBase_ValueError.initEntry ?_⟩
  rw [Around.under_plainId F.excBase_ValueError.init.plain _]
  refine exc_init_tree (cls := .ref C) (t0 := t0) (dv := none) (c2 := .none) (c3 := .none) (b4 := .bool false) he hrest fun h' k e' t' => ?_
  exact hq h' h.objs.size k e' (Nat.le_of_lt (Heap.lt_size t'))
theorem u_init (T : UTxt prog K mg nm qi pre C fI cc) {x t0 : Addr} {y : Int} {ty : Tok} (X : K.In s.heap) (hlim : s.heap.NoLimit) (hx : s.heap.get? x = some (excO C t0)) (hnx : K.lookup x = none) (hroom : A.depth < recursionLimit)
    (hG : s.heap.Ns mainGlobals mg) (hB : ∃ mb, s.heap.Ns builtinsNs mb ∧ ∀ x : Str, x ≠ "__name__" → mb x = bootBuiltins x) (hp : (Str.empty ++ pre).length ≤ sizeLine) (hy : (Str.empty ++ pre ++ (toString y : String)).length ≤ sizeLine) (hz : y.natAbs.log2 < 1920)
    (hq : ∀ h' tk dx, InitEnd s.heap h' x C dx (.int y ty) → R (.ok (.ret .none)) { s with heap := h', toks := tk }) :
    codeAny (model prog w) A (.call (.ref fI) ⟨[.ref x, .int y ty], []⟩) R s := by
  obtain ⟨oc, od, doc, pm, an, cda, ct, osl, p1, p2, a1, a2, a3, a4, a5, a6, a7, a8, a9, b1, b2, b3, b4, ho, hcd, hpos, ccl, cdd, vs, ccs, file, tf, hcda, hvs, hfile⟩ := T.fn
  obtain ⟨nm', q, N, bs, bm, sn, sub, ab, col, dd, k0, k1, k2, k3, k5, hC, hbm⟩ := T.cls
  obtain ⟨cl, cld, csl, hcell⟩ := T.cell
  have hcl : clsIn K C = some { name := nm', bases := bs, mro := .ref C :: bm, ns := N, qualname := q, hasDict := true, slotNames := sn, subclasses := sub, abstract := ab, collection := col, hasDel := false } := by unfold clsIn; rw [hC] <;> rfl
  obtain ⟨hp0, g, dr, tk, os⟩ := s
  refine ks_codeAny_call_defAt (fd := ksFn "__init__" qi (iA p1 p2) (iB pre a1 a2 a3 a4 a5 a6 a7 a8 a9 b1 b2 b3 b4) iS .none .none doc pm an (.ref cda) ct cc) (body := iB pre a1 a2 a3 a4 a5 a6 a7 a8 a9 b1 b2 b3 b4) (binds := [("self", .ref x), ("place", .int y ty)])
    hroom (X _ _ ho) rfl hlim (codeRec_of X hcd) rfl (BindsTo.of_eq (by first | rfl | with_unfolding_all rfl)) (show ∀ z ∈ iS.names, z.2 ≠ .cell by decide) (fun (z : Str × Value) hz => ?_) fun h₁ hn k => ?_
  · have hz' : z = (("self" : Str), Value.ref x) ∨ z = (("place" : Str), Value.int y ty) := by simpa using hz
    rcases hz' with rfl | rfl <;> first | rfl | decide
  have X₁ : K.In h₁ := X.keeps k
  have hx₁ := k _ _ hx
  have hself : ([("self", Value.ref x), ("place", .int y ty)] : List (Str × Value)).reverse.lookup ("self" : Str) = some (Value.ref x) := by first | rfl | kernel_rfl
  have hname : ([("self", Value.ref x), ("place", .int y ty)] : List (Str × Value)).reverse.lookup ("place" : Str) = some (Value.int y ty) := by first | rfl | kernel_rfl
  have hG₁ : h₁.Ns mainGlobals mg := hG.keeps k
  obtain ⟨mb, hB1, hB2⟩ := hB
  have hB₁ : h₁.Ns builtinsNs mb := hB1.keeps k
  have hD₁ := X₁ _ _ hC
  refine ks_wpAt_execs_cons (ks_wpAt_Expr_any (ks_wpAt_MethodCall ?_ (call_eq hpos)))
  refine ks_wpAt_super_base (by rfl) (by rfl) (by rfl) rfl (X₁ _ _ ho) rfl (by rfl) rfl (X₁ _ _ hcda) rfl hvs hfile T.htop ?_
  refine ks_loadName_global (by rfl) (by rfl) (loadGlobal_builtin hG₁ T.sup hB₁ ((hB2 _ (by decide)).trans (by first | rfl | decide)) ⟨rfl, ?_⟩)
  refine wpAny_loadName_free (by rfl) (by rfl) (by rfl) ⟨_, X₁ _ _ hcell, rfl⟩ ?_
  refine wpAny_loadName_local (by rfl) (by rfl) hn hself ?_
  refine ks_wpAny_isType_cls hD₁ rfl ⟨rfl, ?_⟩
  refine ks_wpAny_call_super hD₁ rfl hx₁ rfl (fun c e => by cases e) (looks_mroIn X₁ T.own) fun h₂ e₂ k₂ => ?_
  have X₂ : K.In h₂ := X₁.keeps k₂
  have hx₂ := k₂ _ _ hx₁
  have hn₂ := hn.keeps k₂
  have I₂ : W.InstAt h₂ x (excO C t0) C none := ⟨hx₂, rfl, rfl, trivial⟩
  have hI : Looks (model prog w) h₂ (isInstance (.ref x) (.type "ValueError")) true := I₂.type.andThen (looks_subIn X₂ T.hC)
  have halg := T.alg
  unfold ks_superIn at halg
  rw [hcl] at halg
  refine kxs_getMethod kxs_ValueError e₂ (looks_opaque X₂ T.op) (l₀ := .ref C :: bm) (fun A Q E s k q => wpAny_bind ((looks_clsIn X₂ hcl) A _ E s k (wpAny_pure q))) rfl X₂ halg hI (ks_ne X₂ I₂ hcl) (by rfl) ?_
  have k₃ : ∀ b o, h₂.get? b = some o → (h₂.push (kxs_mw "ValueError.__init__" x)).get? b = some o := fun b o e => Heap.get?_push_of_some _ e
  have hu₃ : (h₂.push (kxs_mw "ValueError.__init__" x)).get? h₂.objs.size = some (kxs_mw "ValueError.__init__" x) := Heap.get?_push_at rfl rfl
  have hn₃ := hn₂.keeps k₃
  have hx₃ := k₃ _ _ hx₂
  have X₃ := X₂.keeps k₃
  refine kxs_callWith (i := "ValueError.__init__") (x := x) (by rfl) (evalArgs_plain ?_)
  refine spliced_cons ?_
  rw [if_neg Bool.false_ne_true]
  refine wpAny_JoinedStr ?_
  have ev0 : ∀ (env : Env), evalEach [Expr.Constant (Const.str pre) 0 a4, (Expr.Name (PySem.Str.ofString "place") a5).FormattedValue (-1) none a6] env = [eval (Expr.Constant (Const.str pre) 0 a4) env, eval ((Expr.Name (PySem.Str.ofString "place") a5).FormattedValue (-1) none a6) env] := fun env => by first | rfl | simp [evalEach]
  rw [ev0]
  show wpAny _ _ (eval (Expr.Constant (Const.str pre) 0 a4) _) _ _ _
  refine wpAny_Constant_str ⟨pre, _, rfl, hp, ?_⟩
  show wpAny _ _ (eval ((Expr.Name (PySem.Str.ofString "place") a5).FormattedValue (-1) none a6) _) _ _ _
  refine FormattedValue_plain (wpAny_Name (wpAny_loadName_local (by rfl) (by rfl) hn₃ hname ?_) (by decide))
  refine formatField_int_small hz ⟨_, _, rfl, hy, ?_⟩
  refine ⟨hy, ?_⟩
  refine spliced_nil ⟨hu₃, ?_⟩
  refine call_bwV (X₃ _ _ hC) hx₃ hu₃ (one_size _) fun h₄ t1 k₄ hx₄ hs₄ => ?_
  show wpAt _ _ _ (execs _ _) _ _ _
  have hxL : hp0.objs.size ≠ x := Nat.ne_of_gt (Heap.lt_size hx)
  have X₄ : K.In h₄ := kept_but X₃ hnx k₄
  have hn₄ : h₄.Ns hp0.objs.size (fun z => ([("self", Value.ref x), ("place", .int y ty)] : List (Str × Value)).reverse.lookup z) := by
    obtain ⟨oL, es, ep, hL, r⟩ := hn₃
    exact ⟨oL, es, ep, k₄ _ _ hxL hL, r⟩
  refine wpAt_of_wpAny (wpAny_execs_cons (plainObj_wpAny_Assign_Attribute ?_))
  refine wpAny_Name (wpAny_loadName_local (by rfl) (by rfl) hn₄ hname ?_) (by decide)
  refine wpAny_Name (wpAny_loadName_local (by rfl) (by rfl) hn₄ hself ?_) (by decide)
  refine set_plain X₄ (ox := excO C t1) (od := none) ⟨hx₄, rfl, rfl, trivial⟩ T.sa ?_
  refine exc_osa X₄ hx₄ hcl (show refsVE (.ref C :: bm) = true from hbm) rfl T.noN (fun h₅ tk₅ dx k₅ dn dne hx₅ hn₅ => ?_)
  show wpAny _ _ (execs _ _) _ _ _
  refine wpAny_execs_nil (hq h₅ tk₅ dx ⟨fun b o hb e => k₅ b o hb (k₄ b o hb (k₃ b o (k₂ b o (k b o e)))), ⟨t1, hx₅⟩, ?_, dne, hn₅⟩)
  exact Nat.le_of_lt (Nat.lt_of_lt_of_le hn₄.lt dn)
theorem u_made (T : UTxt prog K mg nm qi pre C fI cc) {y : Int} {ty : Tok} (X : K.In s.heap) (hlim : s.heap.NoLimit) (hroom : A.depth + 1 < recursionLimit)
    (hG : s.heap.Ns mainGlobals mg) (hB : ∃ mb, s.heap.Ns builtinsNs mb ∧ ∀ x : Str, x ≠ "__name__" → mb x = bootBuiltins x) (hp : (Str.empty ++ pre).length ≤ sizeLine) (hy : (Str.empty ++ pre ++ (toString y : String)).length ≤ sizeLine) (hz : y.natAbs.log2 < 1920)
    (hq : ∀ h' tk e d, OwnMade s.heap h' e C d (.int y ty) → R (.ok (.ret (.ref e))) { s with heap := h', toks := tk }) :
    codeAny (model prog w) A (.call (.ref C) ⟨[.int y ty], []⟩) R s := by
  obtain ⟨nm, q, N, bs, bm, sn, sub, ab, col, dd, k0, k1, k2, k3, k5, hC, hbm⟩ := T.cls
  obtain ⟨hp0, g, dr, tk, os⟩ := s
  have k : ∀ b o, hp0.get? b = some o → ((hp0.push (kdv_tup [Value.int y ty])).push (excO C hp0.objs.size)).get? b = some o := fun b o e => Heap.get?_push_of_some _ (Heap.get?_push_of_some _ e)
  have hget : ((hp0.push (kdv_tup [Value.int y ty])).push (excO C hp0.objs.size)).get? (hp0.objs.size + 1) = some (excO C hp0.objs.size) := by heap_get
  have hnx : K.lookup (hp0.objs.size + 1) = none := by
    cases e : K.lookup (hp0.objs.size + 1) with
    | none => rfl
    | some o =>
      have z : hp0.get? (hp0.objs.size + 1) = some o := X _ _ e
      exact absurd (Nat.lt_of_succ_lt (Heap.lt_size z)) (Nat.lt_irrefl _)
  refine call_own F.excBase_ValueError (fun X => refsVE_contains X bm hbm) (X _ _ hC) (looks_findIn X T.iC) (fun self => bind_fn X self T.tC) (one_size (.int y ty)) ?_
  obtain ⟨mb, hB1, hB2⟩ := hB
  refine u_init (s := ⟨(hp0.push (kdv_tup [Value.int y ty])).push (excO C hp0.objs.size), g, dr, tk, os⟩) T (X.keeps k) (hlim.keeps k) hget hnx ?_ (hG.keeps k) ⟨mb, hB1.keeps k, hB2⟩ hp hy hz fun h' tk' dx ⟨k', ⟨t1, hx⟩, dn, dne, hns⟩ => ?_
  · show A.depth + 1 < recursionLimit
    exact hroom
  · have old : ∀ b o, hp0.get? b = some o → h'.get? b = some o := fun b o e => k' b o (Nat.ne_of_lt (Nat.lt_succ_of_lt (Heap.lt_size e))) (k b o e)
    have z : hp0.objs.size + 1 + 1 ≤ dx := by
      first
        | (simpa only [Heap.size_push] using dn)
        | exact dn
        | (have q := dn; rw [Heap.size_push, Heap.size_push] at q; exact q)
    exact ⟨rfl, hq h' tk' (hp0.objs.size + 1) dx ⟨old, Nat.le_succ _, ⟨_, _, hx, rfl, rfl, rfl, rfl⟩, Nat.le_trans (Nat.le_trans (Nat.le_succ _) (Nat.le_succ _)) z, dne, hns⟩⟩
end
end MrU
end PySem

namespace Mg
open PySem PySem.Spec PyProof.Rows L2
theorem relO_place {v : V} {v' : Value} (r : RelV v v') (f : Str) : RelO (List.lookup f [(("place" : Str), v)]) (if f = "place" then some v' else none) := by
  by_cases hw : f = "place"
  · subst hw
    rw [if_pos rfl]
    have q : List.lookup ("place" : Str) [(("place" : Str), v)] = some v := by simp [List.lookup]
    rw [q]
    exact r
  · rw [if_neg hw]
    have qw : (f == ("place" : Str)) = false := by simpa using hw
    have q2 : List.lookup f [(("place" : Str), v)] = none := by simp [List.lookup, qw]
    rw [q2]
    trivial
theorem pmk_p {X : Cx} {nm qi pre : Str} {C fI cc : Addr} {ta : TE} {p pa pos : Pos} {k : Nat} (T : PySem.MrU.UTxt X.prog X.K X.mg nm qi pre C fI cc) (hpre : pre.length ≤ 1000) (hr : Room k X.A) (ha : PE X (.Name "place" pa) ta) (hg : Gl X nm) (hd : (nm == ("__debug__" : Str)) = false) (hk : 1 ≤ k) :
    PMk X (.Call (.Name nm p) [.Name "place" pa] [] pos) (fun σ H Q => tCons ta tNil σ H fun vs H1 => ∃ z : Int, vs = [.int z] ∧ z.natAbs < 100000 ∧ ∀ d, H1 d = none → Q (.ref C) (some d) (upd H1 d (.xd [("place", .int z)]))) := by
  intro pins s σ H Q I h
  refine wpAny_Call_Name_kw (ld_glob I hg T.gC ?_ hd)
  refine PySem.W.callWith_K (h₀ := X.base) I.ok.mod.kin T.kC (thn ((pa_cons ha pa_nil).run pos pins s σ H (fun vs H1 => ∃ z : Int, vs = [.int z] ∧ z.natAbs < 100000 ∧ ∀ d, H1 d = none → Q (.ref C) (some d) (upd H1 d (.xd [("place", .int z)]))) I h) fun us s1 hh => ?_) (by rfl) (by rfl)
  · obtain ⟨vs, H1, I1, r1, z, ev, hz, q1⟩ := hh
    subst ev
    refine ⟨I1.kIn, ?_⟩
    cases r1 with
    | cons rv rn =>
      rename_i v' us'
      cases rn
      show wpAny _ _ (call (.ref C) [v']) _ _ _
      have rv0 := rv
      obtain ⟨ty, rfl⟩ := rv
      have hlim := I1.nolimit
      have hG : s1.heap.Ns mainGlobals X.mg := by have q := I1.mod.glob.keeps I1.bk; exact q
      have hB : ∃ mb, s1.heap.Ns builtinsNs mb ∧ ∀ x : Str, x ≠ "__name__" → mb x = bootBuiltins x := by
        obtain ⟨mb, h1, h2⟩ := I1.mod.blt
        exact ⟨mb, h1.keeps I1.bk, h2⟩
      have e0 : (Str.empty ++ pre).length = pre.length := by rw [PySem.strLen_append]; simp [Str.length, Str.empty]
      have hs := sizeLine_eq
      obtain ⟨hp, g, dr, tk, os⟩ := s1
      refine wpAny_call (PySem.MrU.u_made T I1.kIn hlim (by have := hr.dp; omega) hG hB (by rw [e0]; omega) (by
        have el := int_text_length_le10 (a := z) (k := 5) (by decide) (by simpa using hz)
        rw [PySem.strLen_append, e0, PySem.ofString_length]; omega) (by
        by_cases c : z.natAbs = 0
        · rw [c]; decide
        · exact (Nat.log2_lt c).mpr (Nat.lt_of_lt_of_le (show z.natAbs < 2 ^ 17 by omega) (Nat.pow_le_pow_right (by decide) (by decide)))) fun h' tk' e d M => ?_)
      show MkP X pins σ Q (.ref e) ⟨h', g, dr, tk', os⟩
      obtain ⟨oe, fv, hoe, hc, hd', hdat, h1⟩ := M.obj
      have hns := M.ns
      obtain ⟨G', g1, g2⟩ := restrict h' fun b => decide (b ≠ e)
      have gk : ∀ b, b ≠ e → G'.get? b = h'.get? b := fun b hb => g1 b (decide_eq_true hb)
      have ge : G'.get? e = none := g2 e (by simp)
      have old : ∀ b o, hp.get? b = some o → G'.get? b = some o := fun b o q => (gk b (Nat.ne_of_lt (Nat.lt_of_lt_of_le (Heap.lt_size q) M.new))).trans (M.keep b o q)
      have ob : ObjOk X.prog X.w (upd H1 d (.xd [(("place" : Str), .int z)])) G' d (.xd [(("place" : Str), .int z)]) :=
        ⟨_, hns.at (fun o q => (gk d M.dne).trans q), fun f => relO_place rv0 f⟩
      have J : Inv X pins σ (upd H1 d (.xd [(("place" : Str), .int z)])) ⟨G', g, dr, tk', os⟩ := I1.laid (t' := tk') old M.dbig ob
      refine ⟨e, oe, fv, ⟨G', g, dr, tk', os⟩, _, .ref C, some d, rfl, J, fun b o q => ?_, ge, hoe, ⟨hc, hd'⟩, hdat, h1, ?_, rfl, I1.bare, raises_own T.exC T.tyC, q1 d (I1.hok.fresh M.dbig)⟩
      · by_cases hb : b = e
        · have q' : G'.get? b = some o := q
          rw [hb, ge] at q'; cases q'
        · exact (gk b hb).symm.trans q
      · rw [upd_ne (Ne.symm M.dne)]
        exact I1.hok.fresh M.new
/-- SyntaxFault(place) is made: its own dict has the place -/
def MkF (P : Program) (K : PySem.W.Frag) (mg : Str → Option Value) (CF : Addr) : Prop := ∀ {X : Cx} {ta : TE} {p pa pos : Pos} {k : Nat}, X.prog = P → X.K = K → X.mg = mg → Room k X.A → 1 ≤ k → PE X (.Name "place" pa) ta → Gl X "SyntaxFault" →
  PMk X (.Call (.Name "SyntaxFault" p) [.Name "place" pa] [] pos) (fun σ H Q => tCons ta tNil σ H fun vs H1 => ∃ z : Int, vs = [.int z] ∧ z.natAbs < 100000 ∧ ∀ d, H1 d = none → Q (.ref CF) (some d) (upd H1 d (.xd [("place", .int z)])))
theorem mkF {P : Program} {K : PySem.W.Frag} {mg : Str → Option Value} {qi pre : Str} {C fI cc : Addr} (T : PySem.MrU.UTxt P K mg "SyntaxFault" qi pre C fI cc) (hpre : pre.length ≤ 1000) : MkF P K mg C := by
  intro X ta p pa pos k hP hK hm hr hk ha hg
  subst hP
  subst hK
  subst hm
  exact pmk_p T hpre hr ha hg (by decide) hk
end Mg
set_option Elab.async false
set_option linter.all false
set_option maxRecDepth 100000
set_option maxHeartbeats 4000000
namespace Hk
open PySem PySem.Spec PyProof.Rows L2 He
/-! the head by one run of the kernel: facts by names, by Bools of what is reached -/
abbrev Fg := PySem.W.Frag
def nsA (K : Fg) (d : Addr) (k : Str) : Addr := match PySem.W.nsIn K d k with
  | some (some (.ref a)) => a
  | _ => 0
def itA (K : Fg) (a : Addr) (i : Nat) : Addr := match K.lookup a with
  | some ⟨_, _, .seq its _, _⟩ => (match its.toList[i]? with
    | some (.ref b) => b
    | _ => 0)
  | _ => 0
def seqB (K : Fg) (a : Addr) (vs : List V) : Bool := match K.lookup a with
  | some ⟨.type c, _, .seq its _, _⟩ => decide (c = "tuple") && (decide (its.size ≤ sizeLine) && relAll vs its.toList)
  | _ => false
theorem seqB_ok {K : Fg} {a : Addr} {vs : List V} (h : seqB K a vs = true) (H : Hp) : SqT K H a vs := by
  unfold seqB at h
  cases q : K.lookup a with
  | none =>
    rw [q] at h
    cases h
  | some o =>
    obtain ⟨oc, od, dt, osl⟩ := o
    rw [q] at h
    cases oc with
    | type c =>
      cases dt with
      | seq its n =>
        obtain ⟨h1, h2⟩ := ba (show (decide (c = "tuple") && (decide (its.size ≤ sizeLine) && relAll vs its.toList)) = true from h)
        obtain ⟨h3, h4⟩ := ba h2
        exact .inr ⟨_, its, n, q, congrArg Value.type (of_decide_eq_true h1), rfl, of_decide_eq_true h3, relAll_ok h4⟩
      | _ => cases h
    | _ => cases dt <;> cases h
def tupO (K : Fg) (a : Addr) : Bool := match K.lookup a with
  | some ⟨.type c, none, _, _⟩ => decide (c = "tuple")
  | _ => false
theorem tupO_ok {K : Fg} {a : Addr} (h : tupO K a = true) : ∃ o, K.lookup a = some o ∧ o.cls = .type "tuple" ∧ o.dict = none := by
  unfold tupO at h
  cases q : K.lookup a with
  | none =>
    rw [q] at h
    cases h
  | some o =>
    obtain ⟨oc, od, dt, osl⟩ := o
    rw [q] at h
    cases oc with
    | type c =>
      cases od with
      | none => exact ⟨_, rfl, congrArg Value.type (of_decide_eq_true h), rfl⟩
      | some d => cases h
    | _ => cases od <;> cases h
def intB (K : Fg) (x : Str) (i : Int) : Bool := match PySem.W.nsIn K mainGlobals x with
  | some (some (.int j _)) => decide (j = i)
  | _ => false
def strB (K : Fg) (x z : Str) : Bool := match PySem.W.nsIn K mainGlobals x with
  | some (some (.str y _)) => decide (y = z)
  | _ => false
theorem intN {K : Fg} {x : Str} {i : Int} (h : intB K x i = true) : ∃ t, PySem.W.nsIn K mainGlobals x = some (some (.int i t)) := by
  unfold intB at h
  split at h
  · rename_i j t e
    exact ⟨t, by rw [e, of_decide_eq_true h]⟩
  · cases h
theorem strN {K : Fg} {x z : Str} (h : strB K x z = true) : ∃ t, PySem.W.nsIn K mainGlobals x = some (some (.str z t)) := by
  unfold strB at h
  split at h
  · rename_i j t e
    exact ⟨t, by rw [e, of_decide_eq_true h]⟩
  · cases h
theorem fun_of {K : Fg} {x q : Str} {s : Stmt} {f : Addr} (h : ∃ fd, FunD K x q (defArgs s) (defBody s) (defScope s) [] [] f fd) : ∃ fd, L2.Fun K x q s f fd := by
  obtain ⟨fd, F⟩ := h
  obtain ⟨oc, od, dV, kV, doc, pm, an, cdv, ct, osl, e, l, c, d, _⟩ := F.ex
  have : dV = .none := d.elim (fun z => z.2) fun z => absurd rfl z.1
  subst this
  exact ⟨fd, ⟨oc, od, kV, doc, pm, an, cdv, ct, osl, e, l, c⟩, F.kp⟩
/-! a def with a closure of one cell; a class under ValueError; its file -/
abbrev FnC : Type := Option (Str × Str × Arguments × FuncBody × Scope × Addr × List Str × Addr)
def fnC (K : Fg) (a : Addr) : FnC := match K.lookup a with
  | some ⟨_, _, .func fd, _⟩ => some (fd.name, fd.qualname, fd.params, fd.body, fd.scope, fd.globals, fd.closure.map (·.1), fd.builtins)
  | _ => none
def cdF (K : Fg) (a : Addr) : Addr := match K.lookup a with
  | some ⟨_, _, .func fd, _⟩ => (match fd.code with
    | .ref c => c
    | _ => 0)
  | _ => 0
def clF (K : Fg) (a : Addr) : Addr := match K.lookup a with
  | some ⟨_, _, .func fd, _⟩ => (match fd.closure with
    | (_, c) :: _ => c
    | _ => 0)
  | _ => 0
def fnB (K : Fg) (a : Addr) : Bool := match K.lookup a with
  | some ⟨_, _, .func fd, _⟩ => (match fd.code, fd.defaults, fd.kwdefaults with
    | .ref _, .none, .none => true
    | _, _, _ => false)
  | _ => false
theorem fnC_ok {K : Fg} {a : Addr} {x q : Str} {ps : Arguments} {b : List Stmt} {sc : Scope} (e : fnC K a = some (x, q, ps, FuncBody.stmts b, sc, mainGlobals, [("__class__" : Str)], builtinsNs)) (c : fnB K a = true) :
    ∃ (oc : Value) (od : Option Addr) (doc pm : Value) (an : Option Addr) (ct : Value) (osl : Array (Option Value)), K.lookup a = some ⟨oc, od, .func (PySem.W.ksFn x q ps b sc .none .none doc pm an (.ref (cdF K a)) ct (clF K a)), osl⟩ := by
  unfold fnC at e
  unfold fnB at c
  unfold cdF clF
  cases z : K.lookup a with
  | none =>
    rw [z] at c
    cases c
  | some o =>
    obtain ⟨oc, od, dt, osl⟩ := o
    rw [z] at c e
    cases dt with
    | func fd =>
      obtain ⟨n1, n2, n3, n4, n5, n6, n7, n8, n9, n10, n11, n12, n13, n14, n15⟩ := fd
      have e2 : (some (n1, n2, n3, n4, n5, n6, n7.map (·.1), n15) : FnC) = some (x, q, ps, FuncBody.stmts b, sc, mainGlobals, [("__class__" : Str)], builtinsNs) := e
      simp only [Option.some.injEq, Prod.mk.injEq] at e2
      obtain ⟨h1, h2, h3, h4, h5, h6, h7, h8⟩ := e2
      subst h1 h2 h3 h4 h5 h6 h8
      dsimp only at c ⊢
      split at c
      · rename_i k1 k2 k3
        obtain ⟨nm, cc, rfl, rfl⟩ : ∃ nm cc, n7 = [(nm, cc)] ∧ nm = ("__class__" : Str) := by
          cases n7 with
          | nil => cases h7
          | cons p r =>
            cases r with
            | nil =>
              rw [List.map_cons, List.map_nil, List.cons.injEq] at h7
              exact ⟨p.1, p.2, rfl, h7.1⟩
            | cons p2 r => simp at h7
        exact ⟨oc, od, n10, n11, n12, n14, osl, rfl⟩
      · cases c
    | _ => cases c
def uClsB (K : Fg) (C : Addr) : Bool := match K.lookup C with
  | some ⟨.type "type", _, .cls cd, sl⟩ => (match cd.mro, sl.toList with
    | .ref C' :: bm, [_, _, _, _, some (.builtin n), _] => C' == C && n == "ValueError.__new__" && !cd.hasDel && cd.hasDict && PySem.HandSPX.refsVE bm
    | _, _ => false)
  | _ => false
theorem uCls_ok {K : Fg} {C : Addr} (q : uClsB K C = true) : ∃ nm q N bs bm sn sub ab col dd k0 k1 k2 k3 k5, K.lookup C = some (excClassObj nm q C N bs bm true sn sub ab col dd k0 k1 k2 k3 k5 "ValueError.__new__") ∧ PySem.HandSPX.refsVE bm = true := by
  unfold uClsB at q
  split at q
  · rename_i dd cd sl ho
    split at q
    · rename_i C' bm k0 k1 k2 k3 n k5 hm hs
      simp only [Bool.and_eq_true, beq_iff_eq, Bool.not_eq_true'] at q
      obtain ⟨⟨⟨⟨rfl, rfl⟩, hdel⟩, hdc⟩, ht⟩ := q
      obtain ⟨nm, bs, mro, ns, qn, hd, sn, sub, ab, col, del⟩ := cd
      dsimp only at hm hdel hdc
      subst hm hdel hdc
      have hsl : sl = #[k0, k1, k2, k3, some (.builtin "ValueError.__new__"), k5] := by
        obtain ⟨l⟩ := sl
        simp only at hs
        rw [hs]
      subst hsl
      exact ⟨nm, qn, ns, bs, bm, sn, sub, ab, col, dd, k0, k1, k2, k3, k5, ho, ht⟩
    · cases q
  · cases q
def cellB (K : Fg) (a C : Addr) : Bool := match K.lookup a with
  | some ⟨_, _, .cell (some (.ref c)), _⟩ => c == C
  | _ => false
theorem cell_ok {K : Fg} {a C : Addr} (h : cellB K a C = true) : ∃ cl cld csl, K.lookup a = some ⟨cl, cld, .cell (some (.ref C)), csl⟩ := by
  unfold cellB at h
  split at h
  · rename_i oc od c sl e
    exact ⟨oc, od, sl, by rw [e, beq_iff_eq.mp h]⟩
  · cases h
def fileB (K : Fg) (F : Str) (a : Addr) : Bool := match K.lookup a with
  | some ⟨_, _, .fields vs, _⟩ => (match (vs[2]? : Option Value) with
    | some (Value.str file _) => F == file
    | _ => false)
  | _ => false
theorem file_ok {K : Fg} {F : Str} {a : Addr} (h : fileB K F a = true) : ∃ ccl cdd vs ccs file tf, K.lookup a = some ⟨ccl, cdd, .fields vs, ccs⟩ ∧ vs[2]? = some (.str file tf) ∧ (F == file) = true := by
  unfold fileB at h
  split at h
  · rename_i oc od vs sl e
    split at h
    · rename_i file t e2
      exact ⟨oc, od, vs, sl, file, t, e, e2, h⟩
    · cases h
  · cases h
/-! the Hook -/
abbrev Fu : Type := (Fg → Addr) × FnC
abbrev AlU : Type := (Bool × List FnW) × List (Option (List (Option (Str × Int)))) × List FnC
def obsU (ex : Fg → Bool) (fn : List DefD) (ts : List Tab) (us : List Fu) (K : Fg) : AlU := ((ex K && fn.all fun d => d.ok K, fn.map fun d => fnW K d.at_), ts.map fun t => dicW K (t.1 K), us.map fun u => fnC K (u.1 K))
def valU (fn : List DefD) (ts : List Tab) (us : List Fu) (w : World) : AlU := ((true, fn.map DefD.val), ts.map fun t => some (keysIn w.params t.2), us.map fun u => u.2)
def SaysU (ex : Fg → Bool) (fn : List DefD) (ts : List Tab) (us : List Fu) (w : World) (K : Fg) : Prop := obsU ex fn ts us K = valU fn ts us w
def grF (g : Addr → Option Obj) (as : List Addr) : List Addr := (as.flatMap fun a => match g a with
  | some o => refsD o
  | none => []).filter fun a => !(a == mainGlobals)
/-- what four steps reach, each step once -/
def asS (g : Addr → Option Obj) : List Addr := cStatics :: mainGlobals :: (grF g [mainGlobals] ++ (grF g (grF g [mainGlobals]) ++ (grF g (grF g (grF g [mainGlobals])) ++ grF g (grF g (grF g (grF g [mainGlobals]))))))
def obsUG (ex : Fg → Bool) (fn : List DefD) (ts : List Tab) (us : List Fu) (g : Addr → Option Obj) : AlU := obsU ex fn ts us (frG g (asS g))
def hookU (ex : Fg → Bool) (fn : List DefD) (ts : List Tab) (us : List Fu) : PySem.W.Hook where
  α := AlU
  obs := fun s => obsUG ex fn ts us s.heap.get?
  val := fun w => valU fn ts us w
  says := fun w h => ∃ K : Fg, K.In h ∧ SaysU ex fn ts us w K
  of := fun _ _ e => ⟨_, frG_in, e⟩
  keeps := fun _ _ _ ⟨K, hK, c⟩ k => ⟨K, PySem.W.Frag.In.keeps hK k, c⟩
theorem obsUG_eq {ex : Fg → Bool} {fn : List DefD} {ts : List Tab} {us : List Fu} {g : Addr → Option Obj} {s : Shared} (h : ∀ a, g a = s.heap.get? a) : obsUG ex fn ts us g = (hookU ex fn ts us).obs s := by
  have e : g = s.heap.get? := funext h
  rw [e] <;> rfl
section
variable {xe : Fg → Bool} {fn : List DefD} {ts : List Tab} {us : List Fu} {w : World} {K : Fg}
theorem SaysU.ex (c : SaysU xe fn ts us w K) : xe K = true := (ba (show (xe K && fn.all fun d => d.ok K) = true from congrArg (fun z : AlU => z.1.1) c)).1
theorem SaysU.def_ (c : SaysU xe fn ts us w K) (i : Nat) {d : DefD} (h : fn[i]? = some d := by rfl) : ∃ fd, FunD K d.name d.qual d.params d.body d.scope (d.dvs K) (d.kws K) (fAd K d.at_) fd := by
  have c2 := (ba (show (xe K && fn.all fun d => d.ok K) = true from congrArg (fun z : AlU => z.1.1) c)).2
  have e : fn.map (fun d => fnW K d.at_) = fn.map DefD.val := congrArg (fun z : AlU => z.1.2) c
  have e2 : (fn.map fun d => fnW K d.at_)[i]? = (fn.map DefD.val)[i]? := by rw [e]
  rw [List.getElem?_map, List.getElem?_map, h] at e2
  exact DefD.funD (Option.some.inj e2) (List.all_eq_true.mp c2 d (List.mem_of_getElem? h))
theorem SaysU.tab (c : SaysU xe fn ts us w K) (i : Nat) {t : Tab} (h : ts[i]? = some t := by rfl) : ∃ es n, KDict K w (t.1 K) es n := by
  have e : ts.map (fun t => dicW K (t.1 K)) = ts.map fun t => some (keysIn w.params t.2) := congrArg (fun z : AlU => z.2.1) c
  have e2 : (ts.map fun t => dicW K (t.1 K))[i]? = (ts.map fun t => some (keysIn w.params t.2))[i]? := by rw [e]
  rw [List.getElem?_map, List.getElem?_map, h] at e2
  exact dicW_ok (Option.some.inj e2)
theorem SaysU.fnc (c : SaysU xe fn ts us w K) (i : Nat) {u : Fu} (h : us[i]? = some u := by rfl) : fnC K (u.1 K) = u.2 := by
  have e : us.map (fun u => fnC K (u.1 K)) = us.map fun u => u.2 := congrArg (fun z : AlU => z.2.2) c
  have e2 : (us.map fun u => fnC K (u.1 K))[i]? = (us.map fun u => u.2)[i]? := by rw [e]
  rw [List.getElem?_map, List.getElem?_map, h] at e2
  exact Option.some.inj e2
end
theorem chk_at {bs : List Bool} (h : bs.all id = true) (i : Nat) {b : Bool} (e : bs[i]? = some b) : b = true := List.all_eq_true.mp h b (List.mem_of_getElem? e)
end Hk
namespace Hk
open PySem PySem.Spec PyProof.Rows L2 He
theorem mg_ex {K : Fg} {h : Heap} {mg : Str → Option Value} {x : Str} {f : Tok → Value} (X : K.In h) (G : h.Ns mainGlobals mg) (c : ∃ t, PySem.W.nsIn K mainGlobals x = some (some (f t))) : ∃ t, mg x = some (f t) := by
  obtain ⟨t, e⟩ := c
  exact ⟨t, PySem.W.mg_of X G e⟩
theorem kd_of {K : Fg} {w : World} {a : Addr} (h : ∃ es n, KDict K w a es n) : ∃ es n, K.lookup a = some ⟨.type "dict", none, .dict es n, #[]⟩ ∧ PySem.W.KeysLit w.params es.toList ∧ (a == sysModules) = false := by
  obtain ⟨es, n, k⟩ := h
  exact ⟨es, n, k.1, k.2, k.3⟩
/-! two runs, each of some of the facts -/
theorem opt_and {S A B C1 C2 C3 : Type} {z : Option S} {f : S → A} {g : S → B} {o1 : S → C1} {o2 : S → C2} {o3 : S → C3} {x : A} {y : B} {v1 : C1} {v2 : C2} {v3 : C3} (h : ∀ s, o1 s = v1 → o2 s = v2 → o3 s = v3)
    (a : z.map (fun s => (f s, g s, o1 s)) = some (x, y, v1)) (b : z.map (fun s => (f s, g s, o2 s)) = some (x, y, v2)) : z.map (fun s => (f s, g s, o3 s)) = some (x, y, v3) := by
  cases z with
  | none => cases a
  | some s =>
    simp only [Option.map_some, Option.some.injEq, Prod.mk.injEq] at a b ⊢
    exact ⟨a.1, a.2.1, h s a.2.2 b.2.2⟩
theorem run_and {r : PySem.W.OpenRow} {q : Program} {ex1 ex2 : Fg → Bool} {fn1 fn2 : List DefD} {ts : List Tab} {us : List Fu} {M : Nat} {loose : List PySem.Str} {w : World}
    (h1 : HandSHeadRun.RunEq r q (hookU ex1 fn1 ts us) (fun s => obsUG ex1 fn1 ts us (HandSHeadRun.getT s)) M loose w) (h2 : HandSHeadRun.RunEq r q (hookU ex2 fn2 [] []) (fun s => obsUG ex2 fn2 [] [] (HandSHeadRun.getT s)) M loose w) :
    HandSHeadRun.RunEq r q (hookU (fun K => ex1 K && ex2 K) (fn1 ++ fn2) ts us) (fun s => obsUG (fun K => ex1 K && ex2 K) (fn1 ++ fn2) ts us (HandSHeadRun.getT s)) M loose w := fun os => by
  refine opt_and (fun s a b => ?_) (h1 os) (h2 os)
  generalize HandSHeadRun.getT s = g at a b
  have a : obsU ex1 fn1 ts us (frG g (asS g)) = valU fn1 ts us w := a
  have b : obsU ex2 fn2 [] [] (frG g (asS g)) = valU fn2 [] [] w := b
  show obsU (fun K => ex1 K && ex2 K) (fn1 ++ fn2) ts us (frG g (asS g)) = valU (fn1 ++ fn2) ts us w
  generalize frG g (asS g) = K at a b
  unfold obsU valU at a b ⊢
  simp only [Prod.mk.injEq, Bool.and_eq_true] at a b
  obtain ⟨⟨⟨a1, a2⟩, a3⟩, a4, a5⟩ := a
  obtain ⟨⟨⟨b1, b2⟩, b3⟩, _⟩ := b
  refine Prod.ext (Prod.ext ?_ ?_) (Prod.ext a4 a5)
  · show ((ex1 K && ex2 K) && (fn1 ++ fn2).all fun d => d.ok K) = true
    rw [a1, b1, List.all_append, a2, b2]
    rfl
  · show (fn1 ++ fn2).map (fun d => fnW K d.at_) = (fn1 ++ fn2).map DefD.val
    rw [List.map_append, List.map_append, a3, b3]
end Hk
namespace Mg.Nw
section
set_option Elab.async false
set_option linter.all false
set_option maxRecDepth 100000
set_option maxHeartbeats 0
open PySem PySem.Spec PyProof.Rows L2 He Hk
abbrev RW : PySem.W.OpenRow := PySem.W.OpenLaw.row PySem.Challenge.rw_mathgalley_k02_limits_of_formulas
def chks (K : Fg) : List Bool := [
  decide (PySem.W.nsIn K mainGlobals "law" = some (some (.ref (ga K "law")))),
  PySem.W.keepIn K (.ref (ga K "law")),
  decide (PySem.W.nsIn K mainGlobals "TooLong" = some (some (.ref (ga K "TooLong")))),
  PySem.W.excIn K (ga K "TooLong") [.type "ValueError", .type "Exception", .type "BaseException", .type "object"] "ValueError.__new__",
  PySem.W.keepIn K (.ref (ga K "TooLong")),
  decide (PySem.W.subIn K (.ref (ga K "TooLong")) (.type "BaseException") = some true),
  decide (PySem.W.typeIn K (.ref (ga K "TooLong")) = some (.type "type")),
  decide (PySem.W.nsIn K mainGlobals "TooDeep" = some (some (.ref (ga K "TooDeep")))),
  PySem.W.excIn K (ga K "TooDeep") [.type "ValueError", .type "Exception", .type "BaseException", .type "object"] "ValueError.__new__",
  PySem.W.keepIn K (.ref (ga K "TooDeep")),
  decide (PySem.W.subIn K (.ref (ga K "TooDeep")) (.type "BaseException") = some true),
  decide (PySem.W.typeIn K (.ref (ga K "TooDeep")) = some (.type "type")),
  decide (PySem.W.nsIn K mainGlobals "TooLarge" = some (some (.ref (ga K "TooLarge")))),
  PySem.W.excIn K (ga K "TooLarge") [.type "ValueError", .type "Exception", .type "BaseException", .type "object"] "ValueError.__new__",
  PySem.W.keepIn K (.ref (ga K "TooLarge")),
  decide (PySem.W.subIn K (.ref (ga K "TooLarge")) (.type "BaseException") = some true),
  decide (PySem.W.typeIn K (.ref (ga K "TooLarge")) = some (.type "type")),
  decide (PySem.W.nsIn K mainGlobals "SyntaxFault" = some (some (.ref (ga K "SyntaxFault")))),
  uClsB K (ga K "SyntaxFault"),
  decide (PySem.W.findIn K (.ref (ga K "SyntaxFault")) "__setattr__" = some (some (.builtin "object.__setattr__"))),
  decide (PySem.W.findIn K (.ref (ga K "SyntaxFault")) "place" = some none),
  decide (PySem.W.findIn K (.ref (ga K "SyntaxFault")) "__init__" = some (some (.ref (ma K (ga K "SyntaxFault") "__init__")))),
  decide (PySem.W.typeIn K (.ref (ma K (ga K "SyntaxFault") "__init__")) = some (.type "function")),
  PySem.W.keepIn K (.ref (ga K "SyntaxFault")),
  decide (PySem.W.subIn K (.ref (ga K "SyntaxFault")) (.type "BaseException") = some true),
  decide (PySem.W.typeIn K (.ref (ga K "SyntaxFault")) = some (.type "type")),
  decide (PySem.W.subIn K (.ref (ga K "SyntaxFault")) (.type "ValueError") = some true),
  decide (PySem.W.mroIn K (ga K "SyntaxFault") (.ref (ga K "SyntaxFault")) = some true),
  decide (PySem.W.ks_superIn K (ga K "SyntaxFault") (ga K "SyntaxFault") "__init__" = some (some (.builtin "ValueError.__init__"))),
  decide (PySem.W.nsIn K cStatics "thirdparty.any" = some none),
  fnB K (ma K (ga K "SyntaxFault") "__init__"),
  PySem.W.codeIn K (.ref (cdF K (ma K (ga K "SyntaxFault") "__init__"))) "SyntaxFault.__init__",
  cellB K (clF K (ma K (ga K "SyntaxFault") "__init__")) (ga K "SyntaxFault"),
  fileB K RW.prog.main.file (cdF K (ma K (ga K "SyntaxFault") "__init__")),
  decide (PySem.W.nsIn K mainGlobals "super" = some none),
  decide (PySem.W.nsIn K mainGlobals "SetError" = some (some (.ref (ga K "SetError")))),
  decide (PySem.W.nsIn K mainGlobals "nucleus_rows" = some (some (.ref (ga K "nucleus_rows")))),
  PySem.W.keepIn K (.ref (ga K "nucleus_rows")),
  decide (PySem.W.nsIn K mainGlobals "rows_in" = some (some (.ref (ga K "rows_in")))),
  PySem.W.keepIn K (.ref (ga K "rows_in")),
  decide (PySem.W.nsIn K mainGlobals "rows_of" = some (some (.ref (ga K "rows_of")))),
  PySem.W.keepIn K (.ref (ga K "rows_of")),
  decide (PySem.W.nsIn K mainGlobals "row_words" = some (some (.ref (ga K "row_words")))),
  PySem.W.keepIn K (.ref (ga K "row_words")),
  decide (PySem.W.nsIn K mainGlobals "braced_words" = some (some (.ref (ga K "braced_words")))),
  PySem.W.keepIn K (.ref (ga K "braced_words")),
  decide (PySem.W.nsIn K mainGlobals "nucleus_words" = some (some (.ref (ga K "nucleus_words")))),
  PySem.W.keepIn K (.ref (ga K "nucleus_words")),
  decide (PySem.W.nsIn K mainGlobals "fence_words" = some (some (.ref (ga K "fence_words")))),
  PySem.W.keepIn K (.ref (ga K "fence_words")),
  decide (PySem.W.nsIn K mainGlobals "grid_words" = some (some (.ref (ga K "grid_words")))),
  PySem.W.keepIn K (.ref (ga K "grid_words")),
  decide (PySem.W.nsIn K mainGlobals "len" = some none),
  decide (PySem.W.nsIn K mainGlobals "max" = some none),
  decide (PySem.W.nsIn K mainGlobals "sum" = some none),
  decide (PySem.W.nsIn K mainGlobals "enumerate" = some none),
  strB K "LETTERS" Mg.cLETTERS,
  intB K "DEEPEST" 7,
  intB K "MOST_ITEMS" 80,
  intB K "LONGEST" 400,
  decide (PySem.W.nsIn K mainGlobals "depth_of" = some (some (.ref (ga K "depth_of")))),
  PySem.W.keepIn K (.ref (ga K "depth_of")),
  decide (PySem.W.nsIn K mainGlobals "Reader" = some (some (.ref (ga K "Reader")))),
  PySem.W.plainGet K (ga K "Reader") Str.empty,
  PySem.W.hasDictIn K (ga K "Reader"),
  PySem.W.plainOver K (ga K "Reader"),
  decide (PySem.W.findIn K (.ref (ga K "Reader")) "__setattr__" = some (some (.builtin "object.__setattr__"))),
  PySem.W.makesIn K (ga K "Reader"),
  PySem.W.keepIn K (.ref (ga K "Reader")),
  decide (PySem.W.nsIn K mainGlobals "is_command" = some (some (.ref (ga K "is_command")))),
  PySem.W.keepIn K (.ref (ga K "is_command")),
  decide (PySem.W.nsIn K mainGlobals "all" = some none),
  strB K "SIGNS" Mg.cSIGNS,
  intB K "MOST_LETTERS" 8,
  decide (PySem.W.nsIn K mainGlobals "RESERVED" = some (some (.ref (ga K "RESERVED")))),
  seqB K (ga K "RESERVED") ([V.str "@frac", V.str "@root", V.str "@left", V.str "@right", V.str "@grid"] : List V),
  decide (PySem.W.nsIn K mainGlobals "is_symbol" = some (some (.ref (ga K "is_symbol")))),
  PySem.W.keepIn K (.ref (ga K "is_symbol")),
  decide (PySem.W.nsIn K mainGlobals "_command_at" = some (some (.ref (ga K "_command_at")))),
  PySem.W.keepIn K (.ref (ga K "_command_at")),
  strB K "MARKS" "{}^_&~",
  strB K "BAD" "bad",
  strB K "END" "end",
  decide (PySem.W.nsIn K mainGlobals "_token_at" = some (some (.ref (ga K "_token_at")))),
  PySem.W.keepIn K (.ref (ga K "_token_at")),
  decide (PySem.W.nsIn K mainGlobals "tokens_of" = some (some (.ref (ga K "tokens_of")))),
  PySem.W.keepIn K (.ref (ga K "tokens_of")),
  decide (PySem.W.nsIn K mainGlobals "check_depth" = some (some (.ref (ga K "check_depth")))),
  PySem.W.keepIn K (.ref (ga K "check_depth")),
  decide (PySem.W.nsIn K mainGlobals "cell_stops" = some (some (.ref (ga K "cell_stops")))),
  PySem.W.keepIn K (.ref (ga K "cell_stops")),
  decide (PySem.W.findIn K (.ref (ga K "Reader")) "_tokens" = some none),
  decide (PySem.W.findIn K (.ref (ga K "Reader")) "_at" = some none),
  decide (PySem.W.nsIn K mainGlobals "tuple" = some none),
  intB K "MOST_CELLS" 6,
  decide (PySem.W.findIn K (.ref (ga K "Reader")) "_peek" = some (some (.ref (ma K (ga K "Reader") "_peek")))),
  PySem.W.isFn K (.ref (ma K (ga K "Reader") "_peek")),
  PySem.W.keepIn K (.ref (ma K (ga K "Reader") "_peek")),
  decide (PySem.W.findIn K (.ref (ga K "Reader")) "_accept" = some (some (.ref (ma K (ga K "Reader") "_accept")))),
  PySem.W.isFn K (.ref (ma K (ga K "Reader") "_accept")),
  PySem.W.keepIn K (.ref (ma K (ga K "Reader") "_accept")),
  decide (PySem.W.findIn K (.ref (ga K "Reader")) "_symbol" = some (some (.ref (ma K (ga K "Reader") "_symbol")))),
  PySem.W.isFn K (.ref (ma K (ga K "Reader") "_symbol")),
  PySem.W.keepIn K (.ref (ma K (ga K "Reader") "_symbol")),
  decide (PySem.W.findIn K (.ref (ga K "Reader")) "_delimiter" = some (some (.ref (ma K (ga K "Reader") "_delimiter")))),
  PySem.W.isFn K (.ref (ma K (ga K "Reader") "_delimiter")),
  PySem.W.keepIn K (.ref (ma K (ga K "Reader") "_delimiter")),
  decide (PySem.W.findIn K (.ref (ga K "Reader")) "_row" = some (some (.ref (ma K (ga K "Reader") "_row")))),
  PySem.W.isFn K (.ref (ma K (ga K "Reader") "_row")),
  PySem.W.keepIn K (.ref (ma K (ga K "Reader") "_row")),
  decide (PySem.W.findIn K (.ref (ga K "Reader")) "_item" = some (some (.ref (ma K (ga K "Reader") "_item")))),
  PySem.W.isFn K (.ref (ma K (ga K "Reader") "_item")),
  PySem.W.keepIn K (.ref (ma K (ga K "Reader") "_item")),
  decide (PySem.W.findIn K (.ref (ga K "Reader")) "_nucleus" = some (some (.ref (ma K (ga K "Reader") "_nucleus")))),
  PySem.W.isFn K (.ref (ma K (ga K "Reader") "_nucleus")),
  PySem.W.keepIn K (.ref (ma K (ga K "Reader") "_nucleus")),
  decide (PySem.W.findIn K (.ref (ga K "Reader")) "_braced" = some (some (.ref (ma K (ga K "Reader") "_braced")))),
  PySem.W.isFn K (.ref (ma K (ga K "Reader") "_braced")),
  PySem.W.keepIn K (.ref (ma K (ga K "Reader") "_braced")),
  decide (PySem.W.findIn K (.ref (ga K "Reader")) "_argument" = some (some (.ref (ma K (ga K "Reader") "_argument")))),
  PySem.W.isFn K (.ref (ma K (ga K "Reader") "_argument")),
  PySem.W.keepIn K (.ref (ma K (ga K "Reader") "_argument")),
  decide (PySem.W.findIn K (.ref (ga K "Reader")) "_fence" = some (some (.ref (ma K (ga K "Reader") "_fence")))),
  PySem.W.isFn K (.ref (ma K (ga K "Reader") "_fence")),
  PySem.W.keepIn K (.ref (ma K (ga K "Reader") "_fence")),
  decide (PySem.W.findIn K (.ref (ga K "Reader")) "_grid" = some (some (.ref (ma K (ga K "Reader") "_grid")))),
  PySem.W.isFn K (.ref (ma K (ga K "Reader") "_grid")),
  PySem.W.keepIn K (.ref (ma K (ga K "Reader") "_grid")),
  decide (PySem.W.findIn K (.ref (ga K "Reader")) "_cells" = some (some (.ref (ma K (ga K "Reader") "_cells")))),
  PySem.W.isFn K (.ref (ma K (ga K "Reader") "_cells")),
  PySem.W.keepIn K (.ref (ma K (ga K "Reader") "_cells")),
  decide (PySem.W.findIn K (.ref (ga K "Reader")) "read" = some (some (.ref (ma K (ga K "Reader") "read")))),
  PySem.W.isFn K (.ref (ma K (ga K "Reader") "read")),
  PySem.W.keepIn K (.ref (ma K (ga K "Reader") "read")),
  decide (PySem.W.findIn K (.ref (ga K "Reader")) "__init__" = some (some (.ref (ma K (ga K "Reader") "__init__")))),
  PySem.W.isFn K (.ref (ma K (ga K "Reader") "__init__")),
  PySem.W.keepIn K (.ref (ma K (ga K "Reader") "__init__")),
  decide (PySem.W.nsIn K mainGlobals "text_of" = some (some (.ref (ga K "text_of")))),
  PySem.W.keepIn K (.ref (ga K "text_of")),
  decide (PySem.W.nsIn K mainGlobals "check_formula" = some (some (.ref (ga K "check_formula")))),
  PySem.W.keepIn K (.ref (ga K "check_formula")),
  decide (PySem.W.nsIn K mainGlobals "parse" = some (some (.ref (ga K "parse")))),
  PySem.W.keepIn K (.ref (ga K "parse")),
  decide (PySem.W.exmOne K (.ref (ga K "TooLong")) (.ref (ga K "TooLong")) = some true),
  decide (PySem.W.exmOne K (.ref (ga K "TooDeep")) (.ref (ga K "TooLong")) = some false),
  decide (PySem.W.exmOne K (.ref (ga K "TooDeep")) (.ref (ga K "TooDeep")) = some true),
  decide (PySem.W.exmOne K (.ref (ga K "TooLarge")) (.ref (ga K "TooLong")) = some false),
  decide (PySem.W.exmOne K (.ref (ga K "TooLarge")) (.ref (ga K "TooDeep")) = some false),
  decide (PySem.W.exmOne K (.ref (ga K "TooLarge")) (.ref (ga K "TooLarge")) = some true),
  decide (PySem.W.exmOne K (.ref (ga K "SyntaxFault")) (.ref (ga K "TooLong")) = some false),
  decide (PySem.W.exmOne K (.ref (ga K "SyntaxFault")) (.ref (ga K "TooDeep")) = some false),
  decide (PySem.W.exmOne K (.ref (ga K "SyntaxFault")) (.ref (ga K "TooLarge")) = some false),
  decide (PySem.W.exmOne K (.ref (ga K "SyntaxFault")) (.ref (ga K "SyntaxFault")) = some true),
  decide (PySem.W.findIn K (.ref (ga K "TooLong")) "__getattribute__" = some (some (.builtin "BaseException.__getattribute__"))),
  decide (PySem.W.findIn K (.ref (ga K "TooLong")) "__getattr__" = some none),
  PySem.W.hasDictIn K (ga K "TooLong"),
  decide (PySem.W.findIn K (.ref (ga K "TooLong")) "__class__" = some (some (.builtin "object.__class__"))),
  decide (PySem.W.specialIn K (.builtin "object.__class__") "__get__" = some (some (.builtin "getset_descriptor.__get__"))),
  decide (PySem.W.takesIn K (.builtin "object.__class__") = some true),
  decide (PySem.W.mroIn K (ga K "TooLong") (.type "object") = some true),
  decide (PySem.W.kitOne K (.ref (ga K "TooLong")) (.ref (ga K "SetError")) = some true),
  decide (PySem.W.findIn K (.ref (ga K "TooDeep")) "__getattribute__" = some (some (.builtin "BaseException.__getattribute__"))),
  decide (PySem.W.findIn K (.ref (ga K "TooDeep")) "__getattr__" = some none),
  PySem.W.hasDictIn K (ga K "TooDeep"),
  decide (PySem.W.findIn K (.ref (ga K "TooDeep")) "__class__" = some (some (.builtin "object.__class__"))),
  decide (PySem.W.specialIn K (.builtin "object.__class__") "__get__" = some (some (.builtin "getset_descriptor.__get__"))),
  decide (PySem.W.takesIn K (.builtin "object.__class__") = some true),
  decide (PySem.W.mroIn K (ga K "TooDeep") (.type "object") = some true),
  decide (PySem.W.kitOne K (.ref (ga K "TooDeep")) (.ref (ga K "SetError")) = some true),
  decide (PySem.W.findIn K (.ref (ga K "TooLarge")) "__getattribute__" = some (some (.builtin "BaseException.__getattribute__"))),
  decide (PySem.W.findIn K (.ref (ga K "TooLarge")) "__getattr__" = some none),
  PySem.W.hasDictIn K (ga K "TooLarge"),
  decide (PySem.W.findIn K (.ref (ga K "TooLarge")) "__class__" = some (some (.builtin "object.__class__"))),
  decide (PySem.W.specialIn K (.builtin "object.__class__") "__get__" = some (some (.builtin "getset_descriptor.__get__"))),
  decide (PySem.W.takesIn K (.builtin "object.__class__") = some true),
  decide (PySem.W.mroIn K (ga K "TooLarge") (.type "object") = some true),
  decide (PySem.W.kitOne K (.ref (ga K "TooLarge")) (.ref (ga K "SetError")) = some true),
  decide (PySem.W.nsIn K mainGlobals "isinstance" = some none),
  decide (PySem.W.nsIn K mainGlobals "int" = some none),
  decide (PySem.W.nsIn K mainGlobals "_law_kind" = some (some (.ref (ga K "_law_kind")))),
  PySem.W.keepIn K (.ref (ga K "_law_kind")),
  decide (PySem.W.nsIn K mainGlobals "_law_checked" = some (some (.ref (ga K "_law_checked")))),
  PySem.W.keepIn K (.ref (ga K "_law_checked")),
  decide (PySem.W.nsIn K mainGlobals "_law_one" = some (some (.ref (ga K "_law_one")))),
  PySem.W.keepIn K (.ref (ga K "_law_one")),
  decide (PySem.W.nsIn K mainGlobals "_law_nested" = some (some (.ref (ga K "_law_nested")))),
  PySem.W.keepIn K (.ref (ga K "_law_nested")),
  decide (PySem.W.nsIn K mainGlobals "reversed" = some none),
  decide (PySem.W.nsIn K mainGlobals "_law_cell" = some (some (.ref (ga K "_law_cell")))),
  PySem.W.keepIn K (.ref (ga K "_law_cell")),
  decide (PySem.W.nsIn K mainGlobals "abs" = some none),
  decide (PySem.W.nsIn K mainGlobals "range" = some none),
  decide (PySem.W.nsIn K mainGlobals "list" = some none)]
def chk (K : Fg) : Bool := (chks K).all id
def fnl : List DefD := [
  ⟨("law", none), "law", "law", defArgs (top 46), defBody (top 46), defScope (top 46), [], []⟩,
  ⟨("nucleus_rows", none), "nucleus_rows", "nucleus_rows", defArgs (top 32), defBody (top 32), defScope (top 32), [], []⟩,
  ⟨("rows_in", none), "rows_in", "rows_in", defArgs (top 31), defBody (top 31), defScope (top 31), [], []⟩,
  ⟨("rows_of", none), "rows_of", "rows_of", defArgs (top 30), defBody (top 30), defScope (top 30), [], []⟩,
  ⟨("row_words", none), "row_words", "row_words", defArgs (top 35), defBody (top 35), defScope (top 35), [], []⟩,
  ⟨("braced_words", none), "braced_words", "braced_words", defArgs (top 37), defBody (top 37), defScope (top 37), [], []⟩,
  ⟨("nucleus_words", none), "nucleus_words", "nucleus_words", defArgs (top 36), defBody (top 36), defScope (top 36), [], []⟩,
  ⟨("fence_words", none), "fence_words", "fence_words", defArgs (top 38), defBody (top 38), defScope (top 38), [], []⟩,
  ⟨("grid_words", none), "grid_words", "grid_words", defArgs (top 39), defBody (top 39), defScope (top 39), [], []⟩,
  ⟨("depth_of", none), "depth_of", "depth_of", defArgs (top 33), defBody (top 33), defScope (top 33), [], []⟩,
  ⟨("is_command", none), "is_command", "is_command", defArgs (top 14), defBody (top 14), defScope (top 14), [], []⟩,
  ⟨("is_symbol", none), "is_symbol", "is_symbol", defArgs (top 15), defBody (top 15), defScope (top 15), [], []⟩,
  ⟨("_command_at", none), "_command_at", "_command_at", defArgs (top 18), defBody (top 18), defScope (top 18), [], []⟩,
  ⟨("_token_at", none), "_token_at", "_token_at", defArgs (top 17), defBody (top 17), defScope (top 17), [], []⟩,
  ⟨("tokens_of", none), "tokens_of", "tokens_of", defArgs (top 16), defBody (top 16), defScope (top 16), [], []⟩,
  ⟨("check_depth", none), "check_depth", "check_depth", defArgs (top 23), defBody (top 23), defScope (top 23), [], []⟩,
  ⟨("cell_stops", none), "cell_stops", "cell_stops", defArgs (top 24), defBody (top 24), defScope (top 24), [], []⟩,
  ⟨("Reader", some "_peek"), "_peek", "Reader._peek", defArgs (inClass (top 22) 2), defBody (inClass (top 22) 2), defScope (inClass (top 22) 2), [], []⟩,
  ⟨("Reader", some "_accept"), "_accept", "Reader._accept", defArgs (inClass (top 22) 3), defBody (inClass (top 22) 3), defScope (inClass (top 22) 3), [], []⟩,
  ⟨("Reader", some "_symbol"), "_symbol", "Reader._symbol", defArgs (inClass (top 22) 4), defBody (inClass (top 22) 4), defScope (inClass (top 22) 4), [], []⟩,
  ⟨("Reader", some "_delimiter"), "_delimiter", "Reader._delimiter", defArgs (inClass (top 22) 11), defBody (inClass (top 22) 11), defScope (inClass (top 22) 11), [], []⟩,
  ⟨("Reader", some "_row"), "_row", "Reader._row", defArgs (inClass (top 22) 5), defBody (inClass (top 22) 5), defScope (inClass (top 22) 5), [], []⟩,
  ⟨("Reader", some "_item"), "_item", "Reader._item", defArgs (inClass (top 22) 6), defBody (inClass (top 22) 6), defScope (inClass (top 22) 6), [], []⟩,
  ⟨("Reader", some "_nucleus"), "_nucleus", "Reader._nucleus", defArgs (inClass (top 22) 7), defBody (inClass (top 22) 7), defScope (inClass (top 22) 7), [], []⟩,
  ⟨("Reader", some "_braced"), "_braced", "Reader._braced", defArgs (inClass (top 22) 8), defBody (inClass (top 22) 8), defScope (inClass (top 22) 8), [], []⟩,
  ⟨("Reader", some "_argument"), "_argument", "Reader._argument", defArgs (inClass (top 22) 9), defBody (inClass (top 22) 9), defScope (inClass (top 22) 9), [], []⟩,
  ⟨("Reader", some "_fence"), "_fence", "Reader._fence", defArgs (inClass (top 22) 10), defBody (inClass (top 22) 10), defScope (inClass (top 22) 10), [], []⟩,
  ⟨("Reader", some "_grid"), "_grid", "Reader._grid", defArgs (inClass (top 22) 12), defBody (inClass (top 22) 12), defScope (inClass (top 22) 12), [], []⟩,
  ⟨("Reader", some "_cells"), "_cells", "Reader._cells", defArgs (inClass (top 22) 13), defBody (inClass (top 22) 13), defScope (inClass (top 22) 13), [], []⟩,
  ⟨("Reader", some "read"), "read", "Reader.read", defArgs (inClass (top 22) 1), defBody (inClass (top 22) 1), defScope (inClass (top 22) 1), [], []⟩,
  ⟨("Reader", some "__init__"), "__init__", "Reader.__init__", defArgs (inClass (top 22) 0), defBody (inClass (top 22) 0), defScope (inClass (top 22) 0), [], []⟩,
  ⟨("text_of", none), "text_of", "text_of", defArgs (top 34), defBody (top 34), defScope (top 34), [], []⟩,
  ⟨("check_formula", none), "check_formula", "check_formula", defArgs (top 29), defBody (top 29), defScope (top 29), [], []⟩,
  ⟨("parse", none), "parse", "parse", defArgs (top 28), defBody (top 28), defScope (top 28), [], []⟩,
  ⟨("_law_kind", none), "_law_kind", "_law_kind", defArgs (top 43), defBody (top 43), defScope (top 43), [], []⟩,
  ⟨("_law_checked", none), "_law_checked", "_law_checked", defArgs (top 44), defBody (top 44), defScope (top 44), [], []⟩,
  ⟨("_law_one", none), "_law_one", "_law_one", defArgs (top 42), defBody (top 42), defScope (top 42), [], []⟩,
  ⟨("_law_nested", none), "_law_nested", "_law_nested", defArgs (top 45), defBody (top 45), defScope (top 45), [], []⟩,
  ⟨("_law_cell", none), "_law_cell", "_law_cell", defArgs (top 41), defBody (top 41), defScope (top 41), [], []⟩]
def tbl : List Tab := []
def usl : List Fu := [(fun K => (ma K (ga K "SyntaxFault") "__init__"), some ("__init__", "SyntaxFault.__init__", (PySem.MrU.iA ⟨6, 17, 6, 21⟩ ⟨6, 23, 6, 28⟩), .stmts (PySem.MrU.iB "the text cannot go on at place " ⟨7, 8, 7, 13⟩ ⟨7, 8, 7, 15⟩ ⟨7, 8, 7, 24⟩ ⟨7, 27, 7, 58⟩ ⟨7, 59, 7, 64⟩ ⟨7, 58, 7, 65⟩ ⟨7, 25, 7, 66⟩ ⟨7, 8, 7, 67⟩ ⟨7, 8, 7, 67⟩ ⟨8, 8, 8, 12⟩ ⟨8, 8, 8, 18⟩ ⟨8, 21, 8, 26⟩ ⟨8, 8, 8, 26⟩), PySem.MrU.iS, mainGlobals, ["__class__"], builtinsNs))]
def ls0 : List Str := [("__name__" : Str), ("SetError" : Str), ("SyntaxFault" : Str), ("TooLong" : Str), ("TooDeep" : Str), ("TooLarge" : Str), ("LETTERS" : Str), ("SIGNS" : Str), ("MARKS" : Str), ("RESERVED" : Str), ("MOST_LETTERS" : Str), ("END" : Str), ("BAD" : Str), ("is_command" : Str), ("is_symbol" : Str), ("tokens_of" : Str), ("_token_at" : Str), ("_command_at" : Str), ("DEEPEST" : Str), ("MOST_CELLS" : Str), ("Reader" : Str), ("check_depth" : Str), ("cell_stops" : Str), ("LONGEST" : Str), ("MOST_ITEMS" : Str), ("parse" : Str), ("check_formula" : Str), ("rows_of" : Str), ("rows_in" : Str), ("nucleus_rows" : Str), ("depth_of" : Str), ("text_of" : Str), ("row_words" : Str), ("nucleus_words" : Str), ("braced_words" : Str)]
def ls1 : List Str := [("fence_words" : Str), ("grid_words" : Str), ("_law_cell" : Str), ("_law_one" : Str), ("_law_kind" : Str), ("_law_checked" : Str), ("_law_nested" : Str)]
def lsl : List Str := ls0 ++ ls1
abbrev hk : PySem.W.Hook := hookU chk fnl tbl usl
def obk (s : PySem.W.SharedT) : AlU := obsUG chk fnl tbl usl (HandSHeadRun.getT s)
theorem ob_eq (s : PySem.W.SharedT) : obk s = hk.obs s.abs := obsUG_eq (HandSHeadRun.getT_eq s)
theorem runHeadF (w : World) : HandSHeadRun.RunEq RW (PySem.W.view RW.prog [46]) hk obk 8000 lsl (w.withFollow "special-get-raises" false) := by intro os; kernel_rfl
theorem runHeadT (w : World) : HandSHeadRun.RunEq RW (PySem.W.view RW.prog [46]) hk obk 8000 lsl (w.withFollow "special-get-raises" true) := by intro os; kernel_rfl
theorem runHead (w : World) : HandSHeadRun.RunEq RW (PySem.W.view RW.prog [46]) hk obk 8000 lsl w :=
  PySem.W.byRow2 "special-get-raises" (P := fun w => HandSHeadRun.RunEq RW (PySem.W.view RW.prog [46]) hk obk 8000 lsl w) runHeadF runHeadT w
end
end Mg.Nw
namespace Mg
section
set_option Elab.async false
set_option linter.all false
set_option maxRecDepth 100000
set_option maxHeartbeats 1000000
open PySem PySem.Spec PyProof.Rows L2
/-! values that are data made of tuples -/
inductive TpL (K : PySem.W.Frag) (H : Hp) : List V → List PyData → Prop
  | nil : TpL K H [] []
  | cons {v : V} {d : PyData} {vs : List V} {ds : List PyData} : Tp K H v d → TpL K H vs ds → TpL K H (v :: vs) (d :: ds)
section
variable {K : PySem.W.Frag} {H H' : Hp}
theorem TpL.stay (s : TupK H H') : ∀ {vs : List V} {ds : List PyData}, TpL K H vs ds → TpL K H' vs ds
  | _, _, .nil => .nil
  | _, _, .cons a b => .cons (a.stay s) (TpL.stay s b)
theorem TpL.len : ∀ {vs : List V} {ds : List PyData}, TpL K H vs ds → vs.length = ds.length
  | _, _, .nil => rfl
  | _, _, .cons _ b => by rw [List.length_cons, List.length_cons, TpL.len b]
theorem TpL.get : ∀ {vs : List V} {ds : List PyData} {i : Nat} {d : PyData}, TpL K H vs ds → ds[i]? = some d → ∃ v, vs[i]? = some v ∧ Tp K H v d
  | _, _, _, _, .nil, e => by simp at e
  | _, _, 0, _, .cons a _, e => by
    cases Option.some.inj e
    exact ⟨_, rfl, a⟩
  | _, _, i + 1, _, .cons _ b, e => by
    obtain ⟨v, h1, h2⟩ := TpL.get (i := i) b e
    exact ⟨v, h1, h2⟩
theorem TpL.get' : ∀ {vs : List V} {ds : List PyData} {i : Nat} {v : V}, TpL K H vs ds → vs[i]? = some v → ∃ d, ds[i]? = some d ∧ Tp K H v d
  | _, _, _, _, .nil, e => by simp at e
  | _, _, 0, _, .cons a _, e => by
    cases Option.some.inj e
    exact ⟨_, rfl, a⟩
  | _, _, i + 1, _, .cons _ b, e => by
    obtain ⟨v, h1, h2⟩ := TpL.get' (i := i) b e
    exact ⟨v, h1, h2⟩
theorem TpL.app : ∀ {vs us : List V} {ds es : List PyData}, TpL K H vs ds → TpL K H us es → TpL K H (vs ++ us) (ds ++ es)
  | _, _, _, _, .nil, g => g
  | _, _, _, _, .cons a b, g => .cons a (TpL.app b g)
theorem TpL.one {v : V} {d : PyData} (h : Tp K H v d) : TpL K H [v] [d] := .cons h .nil
theorem TpL.of : ∀ {ds : List PyData} {xs : List V}, xs.length = ds.length → (∀ (i : Nat) (x : V) (d : PyData), xs[i]? = some x → ds[i]? = some d → Tp K H x d) → TpL K H xs ds
  | [], [], _, _ => .nil
  | [], _ :: _, e, _ => by simp at e
  | _ :: _, [], e, _ => by simp at e
  | d :: ds, x :: xs, e, h => .cons (h 0 x d rfl rfl) (TpL.of (by simpa using e) fun i y z h1 h2 => h (i + 1) y z h1 h2)
theorem TpL.at {vs : List V} {ds : List PyData} {i : Nat} {x : V} {d : PyData} (h : TpL K H vs ds) (h1 : vs[i]? = some x) (h2 : ds[i]? = some d) : Tp K H x d := by
  obtain ⟨v, a, b⟩ := h.get h2
  rw [h1] at a
  cases a
  exact b
theorem TpL.drop : ∀ {vs : List V} {ds : List PyData} (n : Nat), TpL K H vs ds → TpL K H (vs.drop n) (ds.drop n)
  | _, _, 0, h => h
  | _, _, n + 1, .nil => .nil
  | _, _, n + 1, .cons _ b => TpL.drop n b
theorem TpL.take : ∀ {vs : List V} {ds : List PyData} (n : Nat), TpL K H vs ds → TpL K H (vs.take n) (ds.take n)
  | _, _, 0, h => .nil
  | _, _, n + 1, .nil => .nil
  | _, _, n + 1, .cons a b => .cons a (TpL.take n b)
theorem Tp.mk {a : Addr} {xs : List V} {ds : List PyData} (s : SqT K H a xs) (h : TpL K H xs ds) : Tp K H (.ref a) (.tuple ds) := .tup s h.len fun i x d h1 h2 => h.at h1 h2
theorem Tp.inv {v : V} {ds : List PyData} (h : Tp K H v (.tuple ds)) : ∃ a xs, v = .ref a ∧ SqT K H a xs ∧ TpL K H xs ds := by
  cases h with
  | tup s l g => exact ⟨_, _, rfl, s, TpL.of l g⟩
theorem tp_int {v : V} {i : Int} (h : Tp K H v (.int i)) : v = .int i := by cases h; rfl
theorem tp_str {v : V} {i : Str} (h : Tp K H v (.str i)) : v = .str i := by cases h; rfl
theorem tp_bool {v : V} {i : Bool} (h : Tp K H v (.bool i)) : v = .bl i := by cases h; rfl
theorem tp_non {v : V} (h : Tp K H v .none) : v = .non := by cases h; rfl
theorem TpL.dp : ∀ {vs : List V} {ds : List PyData}, TpL K H vs ds → DpAll K H vs ds
  | _, _, .nil => .nil
  | _, _, .cons a b => .cons a.dp (TpL.dp b)
theorem TpL.strs : ∀ {vs : List V} {ws : List Str}, TpL K H vs (ws.map PyData.str) → vs = ws.map V.str
  | _, [], h => by cases h; rfl
  | _, w :: ws, h => by
    cases h with
    | cons a b => rw [List.map_cons, tp_str a, TpL.strs b]
theorem TpL.ints : ∀ {vs : List V} {ws : List Int}, TpL K H vs (ws.map PyData.int) → vs = ws.map V.int
  | _, [], h => by cases h; rfl
  | _, w :: ws, h => by
    cases h with
    | cons a b => rw [List.map_cons, tp_int a, TpL.ints b]
theorem TpL.of_strs : ∀ (ws : List Str), TpL K H (ws.map V.str) (ws.map PyData.str)
  | [] => .nil
  | w :: ws => .cons (.str w) (TpL.of_strs ws)
theorem TpL.of_ints : ∀ (ws : List Int), TpL K H (ws.map V.int) (ws.map PyData.int)
  | [] => .nil
  | w :: ws => .cons (.int w) (TpL.of_ints ws)
end
theorem sz5 {n : Nat} (h : n ≤ 1000000) : n ≤ sizeLine := by
  rw [sizeLine_eq]
  omega
theorem sz6 {n : Nat} (h : n < 1000000) : n < sizeLine := by
  rw [sizeLine_eq]
  omega
/-! what an expression makes -/
def EvD (K : PySem.W.Frag) (te : TE) (σ : L2.St) (H : Hp) (d : PyData) : Prop := ∀ H1, Same H H1 → ∀ Q : VK, (∀ v H2, Same H1 H2 → Tp K H2 v d → Q v H2) → te σ H1 Q
/-- a new list -/
def EvDL (K : PySem.W.Frag) (te : TE) (σ : L2.St) (H : Hp) (ds : List PyData) : Prop := ∀ H1, Same H H1 → ∀ Q : VK, (∀ p xs H2, H1 p = none → Same H1 H2 → H2 p = some (.lst xs) → TpL K H2 xs ds → Q (.ref p) H2) → te σ H1 Q
def EvDT (K : PySem.W.Frag) (tt : TT) (σ : L2.St) (H : Hp) (b : Bool) : Prop := ∀ H1, Same H H1 → ∀ Q : Bool → Hp → Prop, (∀ H2, Same H1 H2 → Q b H2) → tt σ H1 Q
def EvDA (K : PySem.W.Frag) (ta : TA) (σ : L2.St) (H : Hp) (ds : List PyData) : Prop := ∀ H1, Same H H1 → ∀ Q : List V → Hp → Prop, (∀ vs H2, Same H1 H2 → TpL K H2 vs ds → Q vs H2) → ta σ H1 Q
/-- a value as it is -/
def EvV (te : TE) (σ : L2.St) (H : Hp) (v : V) : Prop := ∀ H1, Same H H1 → ∀ Q : VK, (∀ H2, Same H1 H2 → Q v H2) → te σ H1 Q
/-- promises of data -/
def spR (K : PySem.W.Frag) (R : List PyData → PyData → Prop) : Sp := fun vs H Q _ => ∃ ds d, TpL K H vs ds ∧ R ds d ∧ ∀ v H', Same H H' → Tp K H' v d → Q v H'
def spRL (K : PySem.W.Frag) (R : List PyData → List PyData → Prop) : Sp := fun vs H Q _ => ∃ ds es, TpL K H vs ds ∧ R ds es ∧ ∀ p xs H', H p = none → Same H H' → H' p = some (.lst xs) → TpL K H' xs es → Q (.ref p) H'
section
variable {K : PySem.W.Frag} {σ : L2.St} {H H' : Hp} {ta tb te tx tl : TE} {tas : TA} {t u : TT} {d d1 d2 : PyData} {ds es : List PyData} {b : Bool} {v : V}
theorem fresh_of {H H' : Hp} {p : Addr} (e : Same H H') (h : H' p = none) : H p = none := e.free h
theorem EvD.mono (h : EvD K te σ H d) (s : Same H H') : EvD K te σ H' d := fun H1 s1 Q q => h H1 (s.trans s1) Q q
theorem EvDL.mono (h : EvDL K te σ H ds) (s : Same H H') : EvDL K te σ H' ds := fun H1 s1 Q q => h H1 (s.trans s1) Q q
theorem EvDT.mono (h : EvDT K t σ H b) (s : Same H H') : EvDT K t σ H' b := fun H1 s1 Q q => h H1 (s.trans s1) Q q
theorem EvDA.mono (h : EvDA K tas σ H ds) (s : Same H H') : EvDA K tas σ H' ds := fun H1 s1 Q q => h H1 (s.trans s1) Q q
theorem e_var {i : Nat} (h : σ[i]? = some (some v)) (t : Tp K H v d) : EvD K (tVar i) σ H d := fun H1 s Q q => ⟨v, h, q v H1 (Same.refl _) (t.stay (.of s))⟩
theorem e_c (t : Tp K H v d) : EvD K (tC v) σ H d := fun H1 s Q q => q v H1 (Same.refl _) (t.stay (.of s))
theorem e_int {i : Int} : EvD K (tC (.int i)) σ H (.int i) := e_c (.int i)
theorem e_str {i : Str} : EvD K (tC (.str i)) σ H (.str i) := e_c (.str i)
theorem e_bl {i : Bool} : EvD K (tC (.bl i)) σ H (.bool i) := e_c (.bl i)
theorem e_non : EvD K (tC .non) σ H .none := e_c .non
theorem e_ofV (h : EvV te σ H v) (t : Tp K H v d) : EvD K te σ H d := fun H1 s Q q => h H1 s Q fun H2 s2 => q v H2 s2 (t.stay (.of (s.trans s2)))
theorem v_var {i : Nat} (h : σ[i]? = some (some v)) : EvV (tVar i) σ H v := fun H1 s Q q => ⟨v, h, q H1 (Same.refl _)⟩
theorem v_c : EvV (tC v) σ H v := fun H1 s Q q => q H1 (Same.refl _)
/-- a two-place operation upon data -/
def RD (K : PySem.W.Frag) (r : R2) (d1 d2 : PyData) (d : PyData) : Prop := ∀ v1 v2 H Q, Tp K H v1 d1 → Tp K H v2 d2 → (∀ v H', Same H H' → Tp K H' v d → Q v H') → r v1 v2 H Q
theorem e_op {r : R2} (ha : EvD K ta σ H d1) (hb : EvD K tb σ H d2) (hr : RD K r d1 d2 d) : EvD K (tOp r ta tb) σ H d := fun H1 s Q q =>
  ha H1 s _ fun v1 H2 s2 t1 => hb H2 (s.trans s2) _ fun v2 H3 s3 t2 => hr v1 v2 H3 Q (t1.stay (.of s3)) t2 fun v H4 s4 t4 => q v H4 ((s2.trans s3).trans s4) t4
theorem r_I0i {f : Int → Int → Int} {i j : Int} : RD K (rI0 fun i j => .int (f i j)) (.int i) (.int j) (.int (f i j)) := fun v1 v2 H Q t1 t2 q => by
  rw [tp_int t1, tp_int t2]
  exact ⟨i, j, rfl, rfl, q _ _ (Same.refl _) (.int _)⟩
theorem r_I0b {f : Int → Int → Bool} {i j : Int} : RD K (rI0 fun i j => .bl (f i j)) (.int i) (.int j) (.bool (f i j)) := fun v1 v2 H Q t1 t2 q => by
  rw [tp_int t1, tp_int t2]
  exact ⟨i, j, rfl, rfl, q _ _ (Same.refl _) (.bl _)⟩
theorem r_Ii {C : Int → Int → Prop} {f : Int → Int → Int} {i j : Int} (c : C i j) : RD K (rI C fun i j => .int (f i j)) (.int i) (.int j) (.int (f i j)) := fun v1 v2 H Q t1 t2 q => by
  rw [tp_int t1, tp_int t2]
  exact ⟨i, j, rfl, rfl, c, q _ _ (Same.refl _) (.int _)⟩
theorem r_eqS {x y : Str} : RD K rEq (.str x) (.str y) (.bool (decide (x = y))) := fun v1 v2 H Q t1 t2 q => by
  rw [tp_str t1, tp_str t2]
  refine ⟨rfl, ?_⟩
  rw [show decide (V.str x = V.str y) = decide (x = y) by simp]
  exact q _ _ (Same.refl _) (.bl _)
theorem r_neS {x y : Str} : RD K rNe (.str x) (.str y) (.bool (!decide (x = y))) := fun v1 v2 H Q t1 t2 q => by
  rw [tp_str t1, tp_str t2]
  refine ⟨rfl, ?_⟩
  rw [show decide (V.str x = V.str y) = decide (x = y) by simp]
  exact q _ _ (Same.refl _) (.bl _)
theorem r_eqI {x y : Int} : RD K rEq (.int x) (.int y) (.bool (decide (x = y))) := fun v1 v2 H Q t1 t2 q => by
  rw [tp_int t1, tp_int t2]
  refine ⟨rfl, ?_⟩
  rw [show decide (V.int x = V.int y) = decide (x = y) by simp]
  exact q _ _ (Same.refl _) (.bl _)
theorem r_neI {x y : Int} : RD K rNe (.int x) (.int y) (.bool (!decide (x = y))) := fun v1 v2 H Q t1 t2 q => by
  rw [tp_int t1, tp_int t2]
  refine ⟨rfl, ?_⟩
  rw [show decide (V.int x = V.int y) = decide (x = y) by simp]
  exact q _ _ (Same.refl _) (.bl _)
def noneD : PyData → Bool
  | .none => true
  | _ => false
theorem none_dec {v : V} {d : PyData} (t : Tp K H v d) : decide (v = .non) = noneD d := by
  cases t <;> simp [noneD]
theorem r_isN : RD K (fun x y H Q => y = .non ∧ Q (.bl (decide (x = .non))) H) d .none (.bool (noneD d)) := fun v1 v2 H Q t1 t2 q => by
  refine ⟨tp_non t2, ?_⟩
  rw [none_dec t1]
  exact q _ _ (Same.refl _) (.bl _)
theorem r_notN : RD K (fun x y H Q => y = .non ∧ Q (.bl (!decide (x = .non))) H) d .none (.bool (!noneD d)) := fun v1 v2 H Q t1 t2 q => by
  refine ⟨tp_non t2, ?_⟩
  rw [none_dec t1]
  exact q _ _ (Same.refl _) (.bl _)
theorem atI_get {α β : Type} {xs : List α} {ys : List β} {i : Int} {y : β} (hl : xs.length = ys.length) (h : atI ys i = some y) : ∃ n : Nat, ∃ x, atI xs i = some x ∧ xs[n]? = some x ∧ ys[n]? = some y := by
  unfold atI at h ⊢
  rw [hl]
  cases e : ixN ys.length i with
  | none =>
    rw [e] at h
    cases h
  | some n =>
    rw [e] at h
    have h : ys[n]? = some y := h
    have hn := (List.getElem?_eq_some_iff.mp h).1
    exact ⟨n, xs[n]'(by omega), List.getElem?_eq_getElem (by omega), List.getElem?_eq_getElem (by omega), h⟩
theorem r_ixT {i : Int} (h : atI ds i = some d) : RD K (rIxT K) (.tuple ds) (.int i) d := fun v1 v2 H Q t1 t2 q => by
  obtain ⟨a, xs, rfl, s, l⟩ := t1.inv
  rw [tp_int t2]
  obtain ⟨n, x, h1, h2, h3⟩ := atI_get l.len h
  exact ⟨a, xs, i, x, rfl, rfl, s, h1, q _ _ (Same.refl _) (l.at h2 h3)⟩
theorem r_ixQ {i : Int} (h : atI ds i = some d) : RD K (rIx K) (.tuple ds) (.int i) d := fun v1 v2 H Q t1 t2 q => .inr (.inl (r_ixT h v1 v2 H Q t1 t2 q))
theorem a_nil : EvDA K tNil σ H [] := fun H1 s Q q => q _ H1 (Same.refl _) .nil
theorem a_cons (h : EvD K te σ H d) (hs : EvDA K tas σ H ds) : EvDA K (tCons te tas) σ H (d :: ds) := fun H1 s Q q =>
  h H1 s _ fun v H2 s2 hd => hs H2 (s.trans s2) _ fun vs H3 s3 hds => q _ H3 (s2.trans s3) (.cons (hd.stay (.of s3)) hds)
theorem e_tup (h : EvDA K tas σ H ds) (hl : ds.length ≤ 1000) : EvD K (tTup tas) σ H (.tuple ds) := fun H1 s Q q => h H1 s _ fun vs H2 s2 hds =>
  ⟨by rw [hds.len]; exact sz5 (by omega), fun p hp => q _ _ (s2.trans (same_new hp)) (.mk (SqT.of upd_same) (hds.stay (.of (same_new hp))))⟩
theorem l_lst (h : EvDA K tas σ H ds) (hl : ds.length ≤ 1000) : EvDL K (tLst tas) σ H ds := fun H1 s Q q => h H1 s _ fun vs H2 s2 hds =>
  ⟨by rw [hds.len]; exact sz5 (by omega), fun p hp => q _ _ _ (s2.free hp) (s2.trans (same_new hp)) upd_same (hds.stay (.of (same_new hp)))⟩
theorem l_cat (ha : EvDL K ta σ H ds) (hb : EvDL K tb σ H es) (hl : ds.length + es.length ≤ 1000000) : EvDL K (tOp rCat ta tb) σ H (ds ++ es) := fun H1 s Q q =>
  ha H1 s _ fun l xs H2 _ s2 e1 t1 => hb H2 (s.trans s2) _ fun m ys H3 _ s3 e2 t2 =>
    ⟨l, m, xs, ys, rfl, rfl, s3 _ _ e1, e2, by rw [t1.len, t2.len]; exact sz5 hl, fun p hp => q p _ _ ((s2.trans s3).free hp) ((s2.trans s3).trans (same_new hp)) upd_same (((t1.stay (.of s3)).app t2).stay (.of (same_new hp)))⟩
theorem e_if (h : EvDT K t σ H b) (h1 : b = true → EvD K ta σ H d) (h2 : b = false → EvD K tb σ H d) : EvD K (tIf t ta tb) σ H d := fun H1 s Q q => h H1 s _ fun H2 s2 => by
  cases b with
  | true => exact iteT (h1 rfl H2 (s.trans s2) Q fun v H3 s3 => q v H3 (s2.trans s3))
  | false => exact iteF (h2 rfl H2 (s.trans s2) Q fun v H3 s3 => q v H3 (s2.trans s3))
theorem t_test (h : EvD K te σ H (.bool b)) : EvDT K (tTest te) σ H b := fun H1 s Q q => h H1 s _ fun v H2 s2 hv => ⟨b, tp_bool hv, q H2 s2⟩
theorem t_B (h : EvD K te σ H (.bool b)) : EvDT K (tB te) σ H b := fun H1 s Q q => h H1 s _ fun v H2 s2 hv => ⟨b, tp_bool hv, q H2 s2⟩
theorem t_not (h : EvDT K t σ H b) : EvDT K (tNot t) σ H (!b) := fun H1 s Q q => h H1 s _ fun H2 s2 => q H2 s2
theorem t_and {c : Bool} (h : EvDT K t σ H b) (h2 : b = true → EvDT K u σ H c) : EvDT K (tAnd t u) σ H (b && c) := fun H1 s Q q => h H1 s _ fun H2 s2 => by
  cases b with
  | true => exact iteT (h2 rfl H2 (s.trans s2) Q fun H3 s3 => q H3 (s2.trans s3))
  | false => exact iteF (q H2 s2)
theorem t_or {c : Bool} (h : EvDT K t σ H b) (h2 : b = false → EvDT K u σ H c) : EvDT K (tOr t u) σ H (b || c) := fun H1 s Q q => h H1 s _ fun H2 s2 => by
  cases b with
  | true => exact iteT (q H2 s2)
  | false => exact iteF (h2 rfl H2 (s.trans s2) Q fun H3 s3 => q H3 (s2.trans s3))
theorem t_is {c : Bool} (h : EvDT K t σ H b) (e : b = c) : EvDT K t σ H c := e ▸ h
theorem e_is (h : EvD K te σ H d1) (e : d1 = d2) : EvD K te σ H d2 := e ▸ h
theorem l_is (h : EvDL K te σ H ds) (e : ds = es) : EvDL K te σ H es := e ▸ h
theorem e_and {c : Bool} (h : EvD K ta σ H (.bool b)) (h2 : b = true → EvD K tb σ H (.bool c)) : EvD K (tAndV ta tb) σ H (.bool (b && c)) := fun H1 s Q q => h H1 s _ fun v H2 s2 hv => ⟨b, tp_bool hv, by
  cases b with
  | true => exact iteT (h2 rfl H2 (s.trans s2) Q fun v H3 s3 => q v H3 (s2.trans s3))
  | false => exact iteF (q _ H2 s2 (.bl _))⟩
theorem e_or {c : Bool} (h : EvD K ta σ H (.bool b)) (h2 : b = false → EvD K tb σ H (.bool c)) : EvD K (tOrV ta tb) σ H (.bool (b || c)) := fun H1 s Q q => h H1 s _ fun v H2 s2 hv => ⟨b, tp_bool hv, by
  cases b with
  | true => exact iteT (q _ H2 s2 (.bl _))
  | false => exact iteF (h2 rfl H2 (s.trans s2) Q fun v H3 s3 => q v H3 (s2.trans s3))⟩
theorem e_not (h : EvD K ta σ H (.bool b)) : EvD K (tNotV ta) σ H (.bool (!b)) := fun H1 s Q q => h H1 s _ fun v H2 s2 hv => ⟨b, tp_bool hv, q _ H2 s2 (.bl _)⟩
theorem e_call {R : List PyData → PyData → Prop} {E : XK} (h : EvDA K tas σ H ds) (r : R ds d) : EvD K (tCall (spR K R) [] E tas) σ H d := fun H1 s Q q => h H1 s _ fun vs H2 s2 hv =>
  ⟨ds, d, by rw [List.append_nil]; exact hv, r, fun v H3 s3 t3 => q v H3 (s2.trans s3) t3⟩
theorem l_call {R : List PyData → List PyData → Prop} {E : XK} (h : EvDA K tas σ H ds) (r : R ds es) : EvDL K (tCall (spRL K R) [] E tas) σ H es := fun H1 s Q q => h H1 s _ fun vs H2 s2 hv =>
  ⟨ds, es, by rw [List.append_nil]; exact hv, r, fun p xs H3 hp s3 e t3 => q p xs H3 (s2.free hp) (s2.trans s3) e t3⟩
/-- len of a new list, of a tuple -/
theorem e_lenL {r : List V → Hp → VK → Prop} (hr : ∀ p xs H Q, (SqL K H p xs ∨ SqT K H p xs) → Q (V.int xs.length) H → r [.ref p] H Q) (h : EvDL K te σ H ds) : EvD K (tCB r (tCons te tNil)) σ H (.int ds.length) := fun H1 s Q q => h H1 s _ fun p xs H2 _ s2 e t2 =>
  hr p xs H2 Q (.inl (SqL.of e)) (by rw [t2.len]; exact q _ H2 s2 (.int _))
theorem e_lenT {r : List V → Hp → VK → Prop} (hr : ∀ p xs H Q, (SqL K H p xs ∨ SqT K H p xs) → Q (V.int xs.length) H → r [.ref p] H Q) (h : EvD K te σ H (.tuple ds)) : EvD K (tCB r (tCons te tNil)) σ H (.int ds.length) := fun H1 s Q q => h H1 s _ fun v H2 s2 t2 => by
  obtain ⟨p, xs, rfl, sq, l⟩ := t2.inv
  exact hr p xs H2 Q (.inr sq) (by rw [l.len]; exact q _ H2 s2 (.int _))
/-- tuple(new list) -/
theorem e_tupOf {r : List V → Hp → VK → Prop} (hr : ∀ p xs H Q, SqL K H p xs → (∀ l, H l = none → Q (V.ref l) (upd H l (.tup xs))) → r [.ref p] H Q) (h : EvDL K te σ H ds) : EvD K (tCB r (tCons te tNil)) σ H (.tuple ds) := fun H1 s Q q => h H1 s _ fun p xs H2 _ s2 e t2 =>
  hr p xs H2 Q (SqL.of e) fun l hl => q _ _ (s2.trans (same_new hl)) (.mk (SqT.of upd_same) (t2.stay (.of (same_new hl))))
end
/-! a list that grows; what was known stays -/
structure Acc (K : PySem.W.Frag) (H0 : Hp) (p : Addr) (as : List PyData) (H : Hp) : Prop where
  new : H0 p = none
  same : Same H0 H
  lst : ∃ xs, H p = some (.lst xs) ∧ TpL K H xs as
section
variable {K : PySem.W.Frag} {σ : L2.St} {H0 H H' : Hp} {p q : Addr} {as ds : List PyData} {d : PyData} {ta tb te tl : TE} {tu tw tz : TS} {g : TG} {D : Ends} {t : TT} {b : Bool}
theorem Acc.ext (a : Acc K H0 p as H) (s : Same H H') : Acc K H0 p as H' := by
  obtain ⟨h1, h2, xs, e, tp⟩ := a
  exact ⟨h1, h2.trans s, xs, s _ _ e, tp.stay (.of s)⟩
theorem Acc.start {xs : List V} (h : H0 p = none) (s : Same H0 H) (e : H p = some (.lst xs)) (l : TpL K H xs as) : Acc K H0 p as H := ⟨h, s, xs, e, l⟩
theorem Acc.grow {xs ys : List V} (a : Acc K H0 p as H) (e : H p = some (.lst xs)) (l : TpL K H ys ds) : Acc K H0 p (as ++ ds) (upd H p (.lst (xs ++ ys))) := by
  obtain ⟨h1, h2, xs', e', tp⟩ := a
  rw [e] at e'
  cases e'
  exact ⟨h1, same_upd_new h2 h1, _, upd_same, (tp.app l).stay (.keep keep_upd e)⟩
theorem Acc.of_ne (a : Acc K H0 p as H) (kb : KeepB q H H') (tk : TupK H H') (s : Same H0 H') (n : p ≠ q) : Acc K H0 p as H' := by
  obtain ⟨h1, h2, xs, e, tp⟩ := a
  exact ⟨h1, s, xs, kb _ _ e n, tp.stay tk⟩
theorem Acc.tup (a : Acc K H0 p as H) : TupK H0 H := .of a.same
/-! statements -/
theorem q_set {i : Nat} (h : EvD K te σ H d) (k : ∀ v H1, Same H H1 → Tp K H1 v d → tz D (σ.set i (some v)) H1) : tSeq (tAsg te (gName i)) tz D σ H := h H (Same.refl _) _ fun v H1 s tp => k v H1 s tp
theorem q_setL {i : Nat} (h : EvDL K te σ H ds) (k : ∀ p xs H1, H p = none → Same H H1 → H1 p = some (.lst xs) → TpL K H1 xs ds → tz D (σ.set i (some (.ref p))) H1) : tSeq (tAsg te (gName i)) tz D σ H := h H (Same.refl _) _ fun p xs H1 n s e tp => k p xs H1 n s e tp
theorem q_ret (h : EvD K te σ H d) (k : ∀ v H1, Same H H1 → Tp K H1 v d → D.rt v H1) : tRet te D σ H := h H (Same.refl _) _ fun v H1 s tp => k v H1 s tp
theorem q_retL (h : EvDL K te σ H ds) (k : ∀ p xs H1, H p = none → Same H H1 → H1 p = some (.lst xs) → TpL K H1 xs ds → D.rt (.ref p) H1) : tRet te D σ H := h H (Same.refl _) _ fun p xs H1 n s e tp => k p xs H1 n s e tp
theorem q_if (h : EvDT K t σ H b) (h1 : b = true → ∀ H1, Same H H1 → tu { D with nx := tz D } σ H1) (h2 : b = false → ∀ H1, Same H H1 → tw { D with nx := tz D } σ H1) : tSeq (tIfS t tu tw) tz D σ H := h H (Same.refl _) _ fun H1 s => by
  cases b with
  | true => exact iteT (h1 rfl H1 s)
  | false => exact iteF (h2 rfl H1 s)
theorem s_if (h : EvDT K t σ H b) (h1 : b = true → ∀ H1, Same H H1 → tu D σ H1) (h2 : b = false → ∀ H1, Same H H1 → tw D σ H1) : tIfS t tu tw D σ H := h H (Same.refl _) _ fun H1 s => by
  cases b with
  | true => exact iteT (h1 rfl H1 s)
  | false => exact iteF (h2 rfl H1 s)
theorem q_when (h : EvDT K t σ H b) (h1 : b = true → ∀ H1, Same H H1 → tu { D with nx := tz D } σ H1) (h2 : b = false → ∀ H1, Same H H1 → tz D σ H1) : tSeq (tIfS t tu tNext) tz D σ H := q_if h h1 h2
theorem s_when (h : EvDT K t σ H b) (h1 : b = true → ∀ H1, Same H H1 → tu D σ H1) (h2 : b = false → ∀ H1, Same H H1 → D.nx σ H1) : tIfS t tu tNext D σ H := s_if h h1 h2
theorem s_app {i : Nat} {l : Nat} (hp : σ[i]? = some (some (.ref p))) (a : Acc K H0 p as H) (h : EvD K te σ H d) (hz : as.length < 1000000) (k : ∀ H1, TupK H H1 → KeepB p H H1 → Acc K H0 p (as ++ [d]) H1 → D.nx σ H1) :
    tDrop (tBM K "list" rAppend (tVar i) (tCons te tNil)) D σ H := by
  obtain ⟨xs, e, tp⟩ := a.lst
  refine ⟨_, hp, .inl ⟨rfl, _, SqL.of e⟩, h H (Same.refl _) _ fun v H1 s tv => ?_⟩
  have e1 := s _ _ e
  exact ⟨p, xs, v, rfl, rfl, e1, by rw [tp.len]; exact sz6 hz, k _ ((TupK.of s).trans (.keep keep_upd e1)) ((KeepB.of s).trans keep_upd) ((a.ext s).grow e1 (.one tv))⟩
theorem q_app {i : Nat} (hp : σ[i]? = some (some (.ref p))) (a : Acc K H0 p as H) (h : EvD K te σ H d) (hz : as.length < 1000000) (k : ∀ H1, TupK H H1 → KeepB p H H1 → Acc K H0 p (as ++ [d]) H1 → tz D σ H1) :
    tSeq (tDrop (tBM K "list" rAppend (tVar i) (tCons te tNil))) tz D σ H := s_app (D := { D with nx := tz D }) (l := 0) hp a h hz k
theorem s_ext {i : Nat} (hp : σ[i]? = some (some (.ref p))) (a : Acc K H0 p as H) (h : EvDL K te σ H ds) (hz : as.length + ds.length ≤ 1000000) (k : ∀ H1, TupK H H1 → KeepB p H H1 → Acc K H0 p (as ++ ds) H1 → D.nx σ H1) :
    tDrop (tBM K "list" rExtend (tVar i) (tCons te tNil)) D σ H := by
  obtain ⟨xs, e, tp⟩ := a.lst
  refine ⟨_, hp, .inl ⟨rfl, _, SqL.of e⟩, h H (Same.refl _) _ fun m ys H1 _ s em tv => ?_⟩
  have e1 := s _ _ e
  exact ⟨p, m, xs, ys, rfl, rfl, e1, em, by rw [tp.len, tv.len]; exact sz5 hz, k _ ((TupK.of s).trans (.keep keep_upd e1)) ((KeepB.of s).trans keep_upd) ((a.ext s).grow e1 tv)⟩
theorem q_ext {i : Nat} (hp : σ[i]? = some (some (.ref p))) (a : Acc K H0 p as H) (h : EvDL K te σ H ds) (hz : as.length + ds.length ≤ 1000000) (k : ∀ H1, TupK H H1 → KeepB p H H1 → Acc K H0 p (as ++ ds) H1 → tz D σ H1) :
    tSeq (tDrop (tBM K "list" rExtend (tVar i) (tCons te tNil))) tz D σ H := s_ext (D := { D with nx := tz D }) hp a h hz k
/-- a for by a word: n turns -/
theorem for_word {J : It} {n : Nat} {g : TG} {tb : TS} {D : Ends} {σ : L2.St} {H : Hp} (Pv : Nat → L2.St → Hp → Prop) (h0 : Pv 0 σ H) (hgo : ∀ i σ H, i < n → Pv i σ H → J.go i H) (hst : ∀ σ H, Pv n σ H → J.stop n H)
    (hs : ∀ i x σ H H', i < n → Pv i σ H → J.yld i H x H' → g x σ H' fun σ2 H2 => tb { D with nx := Pv (i + 1), ct := Pv (i + 1), bk := D.nx } σ2 H2) (hd : ∀ σ H, Pv n σ H → D.nx σ H) :
    ∃ W : Nat → Nat → L2.St → Hp → Prop, (∃ m, W 0 m σ H) ∧ ∀ i m σ H, W i m σ H →
      (J.stop i H ∧ D.nx σ H) ∨ (J.go i H ∧ ∃ N : L2.St → Hp → Prop, (∀ σ' H', N σ' H' → ∃ m', m' < m ∧ W (i + 1) m' σ' H') ∧ ∀ x H', J.yld i H x H' → g x σ H' fun σ2 H2 => tb { D with nx := N, ct := N, bk := D.nx } σ2 H2) := by
  refine ⟨fun i m σ H => m = n - i ∧ i ≤ n ∧ Pv i σ H, ⟨n, by simp, Nat.zero_le _, h0⟩, ?_⟩
  rintro i m σ H ⟨rfl, hi, p⟩
  by_cases hlt : i < n
  · refine .inr ⟨hgo i σ H hlt p, Pv (i + 1), fun σ' H' p' => ⟨n - (i + 1), by omega, rfl, hlt, p'⟩, fun x H' y => hs i x σ H H' hlt p y⟩
  · have e : i = n := by omega
    subst e
    exact .inl ⟨hst σ H p, hd σ H p⟩
/-- for over a tuple, over a new list, over a list enumerated; p: the list that grows meanwhile -/
theorem s_forT {xs0 : List V} (h : EvD K tl σ H (.tuple ds)) (hp : H p = some (.lst xs0)) (Pv : Nat → L2.St → Hp → Prop) (h0 : ∀ H1, Same H H1 → Pv 0 σ H1)
    (hs : ∀ H1, Same H H1 → ∀ i d x σ' H', ds[i]? = some d → Pv i σ' H' → KeepB p H1 H' → Tp K H' x d → g x σ' H' fun σ2 H2 => tu { D with nx := fun σ3 H3 => Pv (i + 1) σ3 H3 ∧ KeepB p H1 H3, ct := fun σ3 H3 => Pv (i + 1) σ3 H3 ∧ KeepB p H1 H3, bk := D.nx } σ2 H2)
    (hd : ∀ σ' H', Pv ds.length σ' H' → KeepB p H H' → D.nx σ' H') : tFor (iTup K tl) g tu D σ H := h H (Same.refl _) _ fun v H1 s tv => by
  obtain ⟨a, xs, rfl, sq, l⟩ := tv.inv
  have tk : ∀ {H'}, KeepB p H1 H' → TupK H1 H' := fun kb => .keep kb (s _ _ hp)
  refine ⟨a, rfl, ⟨xs, sq⟩, for_word (n := ds.length) (fun i σ' H' => Pv i σ' H' ∧ KeepB p H1 H') ⟨h0 H1 s, KeepB.refl _ _⟩ (fun i σ' H' hi q => ?_) (fun σ' H' q => ⟨xs, (tk q.2).seq sq, Nat.le_of_eq l.len⟩) (fun i x σ' H' H'' hi q y => ?_) (fun σ' H' q => hd σ' H' q.1 ((KeepB.of s).trans q.2))⟩
  · have hi2 : i < xs.length := by rw [l.len]; exact hi
    exact ⟨xs, xs[i], (tk q.2).seq sq, List.getElem?_eq_getElem hi2⟩
  · obtain ⟨rfl, y⟩ := y
    have hx := y xs ((tk q.2).seq sq)
    obtain ⟨d, e1, e2⟩ := l.get' hx
    exact hs H1 s i d x σ' H'' e1 q.1 q.2 (e2.stay (tk q.2))
theorem s_forL {xs0 : List V} (h : EvDL K tl σ H ds) (hp : H p = some (.lst xs0)) (Pv : Nat → L2.St → Hp → Prop) (h0 : ∀ H1, Same H H1 → Pv 0 σ H1)
    (hs : ∀ H1, Same H H1 → ∀ i d x σ' H', ds[i]? = some d → Pv i σ' H' → KeepB p H1 H' → Tp K H' x d → g x σ' H' fun σ2 H2 => tu { D with nx := fun σ3 H3 => Pv (i + 1) σ3 H3 ∧ KeepB p H1 H3, ct := fun σ3 H3 => Pv (i + 1) σ3 H3 ∧ KeepB p H1 H3, bk := D.nx } σ2 H2)
    (hd : ∀ σ' H', Pv ds.length σ' H' → KeepB p H H' → D.nx σ' H') : tFor (iList K tl) g tu D σ H := h H (Same.refl _) _ fun a xs H1 ha s ea l => by
  have tk : ∀ {H'}, KeepB p H1 H' → TupK H1 H' := fun kb => .keep kb (s _ _ hp)
  have ne : a ≠ p := fun e => by
    rw [e, hp] at ha
    cases ha
  have sq : ∀ {H'}, KeepB p H1 H' → SqL K H' a xs := fun kb => SqL.of (kb _ _ ea ne)
  refine ⟨a, rfl, ⟨xs, SqL.of ea⟩, for_word (n := ds.length) (fun i σ' H' => Pv i σ' H' ∧ KeepB p H1 H') ⟨h0 H1 s, KeepB.refl _ _⟩ (fun i σ' H' hi q => ?_) (fun σ' H' q => ⟨xs, sq q.2, Nat.le_of_eq l.len⟩) (fun i x σ' H' H'' hi q y => ?_) (fun σ' H' q => hd σ' H' q.1 ((KeepB.of s).trans q.2))⟩
  · have hi2 : i < xs.length := by rw [l.len]; exact hi
    exact ⟨xs, xs[i], sq q.2, List.getElem?_eq_getElem hi2⟩
  · obtain ⟨rfl, y⟩ := y
    have hx := y xs (sq q.2)
    obtain ⟨d, e1, e2⟩ := l.get' hx
    exact hs H1 s i d x σ' H'' e1 q.1 q.2 (e2.stay (tk q.2))
theorem s_enum {xs0 xs : List V} {j : Nat} {a : Addr} (hj : σ[j]? = some (some (.ref a))) (ha : H a = some (.lst xs)) (l : TpL K H xs ds) (ne : a ≠ p) (hp : H p = some (.lst xs0)) (Pv : Nat → L2.St → Hp → Prop) (h0 : Pv 0 σ H)
    (hs : ∀ i d x T σ' H', ds[i]? = some d → Pv i σ' H' → KeepB p H H' → Tp K H' x d → H' T = none → g (.ref T) σ' (upd H' T (.tup [.int (i : Nat), x])) fun σ2 H2 => tu { D with nx := fun σ3 H3 => Pv (i + 1) σ3 H3 ∧ KeepB p H H3, ct := fun σ3 H3 => Pv (i + 1) σ3 H3 ∧ KeepB p H H3, bk := D.nx } σ2 H2)
    (hd : ∀ σ' H', Pv ds.length σ' H' → KeepB p H H' → D.nx σ' H') : tFor (iEnum K (tCons (tVar j) tNil)) g tu D σ H := by
  have tk : ∀ {H'}, KeepB p H H' → TupK H H' := fun kb => .keep kb hp
  have sq : ∀ {H'}, KeepB p H H' → SqL K H' a xs := fun kb => SqL.of (kb _ _ ha ne)
  refine ⟨_, hj, a, xs, rfl, SqL.of ha, for_word (n := ds.length) (fun i σ' H' => Pv i σ' H' ∧ KeepB p H H') ⟨h0, KeepB.refl _ _⟩ (fun i σ' H' hi q => ?_) (fun σ' H' q => ⟨xs, sq q.2, Nat.le_of_eq l.len⟩) (fun i x σ' H' H'' hi q y => ?_) (fun σ' H' q => hd σ' H' q.1 q.2)⟩
  · have hi2 : i < xs.length := by rw [l.len]; exact hi
    exact ⟨xs, xs[i], sq q.2, List.getElem?_eq_getElem hi2⟩
  · obtain ⟨T, z, rfl, hT, rfl, y⟩ := y
    have hx := y xs (sq q.2)
    obtain ⟨d, e1, e2⟩ := l.get' hx
    exact hs i d z T σ' H' e1 q.1 q.2 (e2.stay (tk q.2)) hT
/-- targets -/
theorem g_tup2 {i j : Nat} {v : V} {a b : PyData} {Q : L2.St → Hp → Prop} (h : Tp K H v (.tuple [a, b])) (k : ∀ x y, Tp K H x a → Tp K H y b → Q ((σ.set i (some x)).set j (some y)) H) : gTup K 2 (gCons (gName i) (gCons (gName j) gNil)) v σ H Q := by
  obtain ⟨p, xs, rfl, sq, l⟩ := h.inv
  cases l with
  | cons h1 l => cases l with
  | cons h2 l => cases l with
  | nil => exact ⟨p, _, rfl, sq, rfl, _, _, rfl, _, _, rfl, rfl, k _ _ h1 h2⟩
theorem g_tup3 {i j m : Nat} {v : V} {a b c : PyData} {Q : L2.St → Hp → Prop} (h : Tp K H v (.tuple [a, b, c])) (k : ∀ x y z, Tp K H x a → Tp K H y b → Tp K H z c → Q (((σ.set i (some x)).set j (some y)).set m (some z)) H) : gTup K 3 (gCons (gName i) (gCons (gName j) (gCons (gName m) gNil))) v σ H Q := by
  obtain ⟨p, xs, rfl, sq, l⟩ := h.inv
  cases l with
  | cons h1 l => cases l with
  | cons h2 l => cases l with
  | cons h3 l => cases l with
  | nil => exact ⟨p, _, rfl, sq, rfl, _, _, rfl, _, _, rfl, _, _, rfl, rfl, k _ _ _ h1 h2 h3⟩
theorem q_asg {g : TG} (h : EvD K te σ H d) (k : ∀ v H1, Same H H1 → Tp K H1 v d → g v σ H1 (tz D)) : tSeq (tAsg te g) tz D σ H := h H (Same.refl _) _ fun v H1 s tp => k v H1 s tp
end
/-! comprehensions -/
section
variable {K : PySem.W.Frag} {σ : L2.St} {H : Hp} {te tl tl1 : TE} {ds es : List PyData} {vs vs1 : List Nat} {g g1 : TG}
theorem lc_data {J : It} {tt : TT} {H1 : Hp} {D : Addr} {Qd : Hp → Prop} (es : List PyData) (hD : H1 D = none) (hz : es.length ≤ 1000000)
    (hgo : ∀ i H, i < es.length → Same H1 H → J.go i H) (hst : ∀ H, Same H1 H → J.stop es.length H)
    (hs : ∀ i x H H' (R : VK) (Z : Hp → Prop), i < es.length → Same H1 H → J.yld i H x H' → (∀ y e H3, es[i]? = some e → Same H H3 → Tp K H3 y e → R y H3) →
      g x (wipe σ vs) H' fun σ2 H2 => wipe σ2 vs = wipe σ vs ∧ tt σ2 H2 fun b H3 => if b = true then te σ2 H3 R else Z H3)
    (hd : ∀ H acc, Same H1 H → H D = some (.lst acc) → TpL K H acc es → Qd H) :
    ∃ W : Nat → Nat → Hp → Prop, (∃ m, W 0 m (upd H1 D (.lst []))) ∧ ∀ i m H, W i m H → (J.stop i H ∧ Qd H) ∨ (J.go i H ∧ ∃ Nx : Hp → Prop, (∀ H', Nx H' → ∃ m', m' < m ∧ W (i + 1) m' H') ∧ ∀ x H', J.yld i H x H' →
      g x (wipe σ vs) H' fun σ2 H2 => wipe σ2 vs = wipe σ vs ∧ tt σ2 H2 fun b H3 => if b = true then te σ2 H3 fun y H4 => ∃ acc, H4 D = some (.lst acc) ∧ acc.length < sizeLine ∧ Nx (upd H4 D (.lst (acc ++ [y]))) else Nx H3) := by
  refine lc_word (n := es.length) (fun i acc H => TpL K H acc (es.take i) ∧ Same H1 H) ⟨by rw [List.take_zero]; exact .nil, same_new hD⟩ (fun i acc H hi p => hgo i H hi p.2) (fun acc H p => hst H p.2) ?_ (fun acc H p e => hd H acc p.2 e (by have q := p.1; rw [List.take_length] at q; exact q))
  rintro i acc x H H' R Z hi ⟨tp, s⟩ e y k
  refine hs i x H H' R Z hi s y fun v d H3 hv s3 tv => k v H3 (s3 _ _ e) (by rw [tp.len, List.length_take]; exact sz6 (by omega)) ⟨?_, same_upd_new (s.trans s3) hD⟩
  have e1 : es.take (i + 1) = es.take i ++ [d] := by
    rw [List.take_add_one, hv]
    rfl
  rw [e1]
  exact ((tp.stay (.of s3)).app (.one tv)).stay (.keep keep_upd (s3 _ _ e))
theorem l_lcT {j : Nat} (h : EvD K tl σ H (.tuple ds)) (hl : es.length = ds.length) (hz : ds.length ≤ 1000000) (hw : ∀ x, wipe ((wipe σ vs).set j (some x)) vs = wipe σ vs)
    (he : ∀ (i : Nat) d e x H1, ds[i]? = some d → es[i]? = some e → Same H H1 → Tp K H1 x d → EvD K te ((wipe σ vs).set j (some x)) H1 e) : EvDL K (tLc (iTup K tl) (gName j) tYes te vs) σ H es := fun H0 s Q q => h H0 s _ fun v H1 s1 tv => by
  obtain ⟨a, xs, rfl, sq, l⟩ := tv.inv
  refine ⟨a, rfl, ⟨xs, sq⟩, fun D hD => lc_data (K := K) es hD (by omega) (fun i H' hi s2 => ?_) (fun H' s2 => ⟨xs, same_sqt s2 sq, by rw [l.len, hl]; exact Nat.le_refl _⟩) ?_ fun H' acc s2 e ta => q D acc H' (s1.free hD) (s1.trans s2) e ta⟩
  · have hi2 : i < xs.length := by rw [l.len]; omega
    exact ⟨xs, xs[i], same_sqt s2 sq, List.getElem?_eq_getElem hi2⟩
  · rintro i x H' H'' R Z hi s2 ⟨rfl, y⟩ k
    have hx := y xs (same_sqt s2 sq)
    obtain ⟨d, e1, e2⟩ := l.get' hx
    have e3 : es[i]? = some es[i] := List.getElem?_eq_getElem hi
    exact ⟨hw x, iteT (B := Z H'') (he i d _ x H'' e1 e3 ((s.trans s1).trans s2) (e2.stay (.of s2)) H'' (Same.refl _) R fun v H3 s3 tv => k v _ H3 e3 s3 tv)⟩
theorem l_lcL {j : Nat} (h : EvDL K tl σ H ds) (hl : es.length = ds.length) (hz : ds.length ≤ 1000000) (hw : ∀ x, wipe ((wipe σ vs).set j (some x)) vs = wipe σ vs)
    (he : ∀ (i : Nat) d e x H1, ds[i]? = some d → es[i]? = some e → Same H H1 → Tp K H1 x d → EvD K te ((wipe σ vs).set j (some x)) H1 e) : EvDL K (tLc (iList K tl) (gName j) tYes te vs) σ H es := fun H0 s Q q => h H0 s _ fun a xs H1 ha s1 ea l => by
  refine ⟨a, rfl, ⟨xs, SqL.of ea⟩, fun D hD => lc_data (K := K) es hD (by omega) (fun i H' hi s2 => ?_) (fun H' s2 => ⟨xs, SqL.of (s2 _ _ ea), by rw [l.len, hl]; exact Nat.le_refl _⟩) ?_ fun H' acc s2 e ta => q D acc H' (s1.free hD) (s1.trans s2) e ta⟩
  · have hi2 : i < xs.length := by rw [l.len]; omega
    exact ⟨xs, xs[i], SqL.of (s2 _ _ ea), List.getElem?_eq_getElem hi2⟩
  · rintro i x H' H'' R Z hi s2 ⟨rfl, y⟩ k
    have hx := y xs (SqL.of (s2 _ _ ea))
    obtain ⟨d, e1, e2⟩ := l.get' hx
    have e3 : es[i]? = some es[i] := List.getElem?_eq_getElem hi
    exact ⟨hw x, iteT (B := Z H'') (he i d _ x H'' e1 e3 ((s.trans s1).trans s2) (e2.stay (.of s2)) H'' (Same.refl _) R fun v H3 s3 tv => k v _ H3 e3 s3 tv)⟩
/-- what an inner walk gives: a tuple or a new list of data -/
inductive Wk (K : PySem.W.Frag) : TI → L2.St → Hp → List PyData → Prop
  | tup {tl : TE} {σ : L2.St} {H : Hp} {ds : List PyData} : EvD K tl σ H (.tuple ds) → Wk K (iTup K tl) σ H ds
  | lst {tl : TE} {σ : L2.St} {H : Hp} {ds : List PyData} : EvDL K tl σ H ds → Wk K (iList K tl) σ H ds
theorem yes_then {A B : Hp → Prop} {σ : L2.St} {H : Hp} (h : A H) : tYes σ H (fun b H3 => if b = true then A H3 else B H3) := iteT (B := B H) h
/-- tuples stay, and what is new in H1 -/
def Stays (H H1 H' : Hp) : Prop := TupK H1 H' ∧ ∀ b o, H b = none → H1 b = some o → H' b = some o
theorem Stays.of {H H1 H' : Hp} (s : Same H1 H') : Stays H H1 H' := ⟨.of s, fun b o _ e => s b o e⟩
theorem Wk.go {wi : TI} (h : Wk K wi σ H ds) : ∀ (R : It → Hp → Prop), (∀ J H1, Same H H1 → (∀ i H', i < ds.length → Stays H H1 H' → J.go i H') → (∀ H', Stays H H1 H' → J.stop ds.length H') →
    (∀ i x H' H'', Stays H H1 H' → J.yld i H' x H'' → H'' = H' ∧ ∀ (hi : i < ds.length), ∃ d, ds[i]? = some d ∧ Tp K H' x d) → R J H1) → wi σ H R := by
  intro R k
  cases h with
  | tup h =>
    refine h _ (Same.refl _) _ fun v H1 s1 tv => ?_
    obtain ⟨a, xs, rfl, sq, l⟩ := tv.inv
    refine ⟨a, rfl, ⟨xs, sq⟩, k _ _ s1 (fun i H' hi s2 => ?_) (fun H' s2 => ⟨xs, s2.1.seq sq, Nat.le_of_eq l.len⟩) fun i x H' H'' s2 y => ⟨y.1, fun hi => ?_⟩⟩
    · have hi2 : i < xs.length := by rw [l.len]; omega
      exact ⟨xs, xs[i], s2.1.seq sq, List.getElem?_eq_getElem hi2⟩
    · obtain ⟨d, e1, e2⟩ := l.get' (y.2 xs (s2.1.seq sq))
      exact ⟨d, e1, e2.stay s2.1⟩
  | lst h =>
    refine h _ (Same.refl _) _ fun a xs H1 ha s1 ea l => ?_
    refine ⟨a, rfl, ⟨xs, SqL.of ea⟩, k _ _ s1 (fun i H' hi s2 => ?_) (fun H' s2 => ⟨xs, SqL.of (s2.2 _ _ ha ea), Nat.le_of_eq l.len⟩) fun i x H' H'' s2 y => ⟨y.1, fun hi => ?_⟩⟩
    · have hi2 : i < xs.length := by rw [l.len]; omega
      exact ⟨xs, xs[i], SqL.of (s2.2 _ _ ha ea), List.getElem?_eq_getElem hi2⟩
    · obtain ⟨d, e1, e2⟩ := l.get' (y.2 xs (SqL.of (s2.2 _ _ ha ea)))
      exact ⟨d, e1, e2.stay s2.1⟩
/-- [e for a in xs for b in f(a)]: fs gives the inner data, hs what e makes of each -/
theorem l_lc2 {wi wi1 : TI} {j j1 : Nat} (fs : List (List PyData)) (gs : List (List PyData)) (h : ∀ H1, Same H H1 → Wk K wi σ H1 ds) (hf : fs.length = ds.length) (hg : gs.length = ds.length) (hz : gs.flatten.length ≤ 1000000)
    (hw : ∀ x, wipe ((wipe σ vs).set j (some x)) vs = wipe σ vs) (hw1 : ∀ x y, wipe ((wipe ((wipe σ vs).set j (some x)) vs1).set j1 (some y)) vs1 = wipe ((wipe σ vs).set j (some x)) vs1)
    (hi : ∀ (i : Nat) d f x H1, ds[i]? = some d → fs[i]? = some f → Same H H1 → Tp K H1 x d → Wk K wi1 ((wipe σ vs).set j (some x)) H1 f)
    (hl : ∀ (i : Nat) f g, fs[i]? = some f → gs[i]? = some g → g.length = f.length)
    (he : ∀ (i m : Nat) d f g a e x y H1, ds[i]? = some d → fs[i]? = some f → gs[i]? = some g → f[m]? = some a → g[m]? = some e → Same H H1 → Tp K H1 x d → Tp K H1 y a → EvD K te ((wipe ((wipe σ vs).set j (some x)) vs1).set j1 (some y)) H1 e) :
    EvDL K (tLc2 wi (gName j) tYes wi1 (gName j1) tYes te vs vs1) σ H gs.flatten := fun H0 s Q q => by
  refine (h H0 s).go _ fun J H1 s1 hgo hst hy Dl hD => ?_
  refine ⟨fun i m H' => m = ds.length - i ∧ i ≤ ds.length ∧ Same H1 H' ∧ ∃ acc, H' Dl = some (.lst acc) ∧ TpL K H' acc (gs.take i).flatten, ⟨ds.length, by simp, Nat.zero_le _, same_new hD, [], upd_same, by simp; exact .nil⟩, ?_⟩
  rintro i m H' ⟨rfl, hle, s2, acc, ea, ta⟩
  by_cases hlt : i < ds.length
  · refine .inr ⟨hgo i H' hlt (.of s2), fun H3 => i + 1 ≤ ds.length ∧ Same H1 H3 ∧ ∃ acc, H3 Dl = some (.lst acc) ∧ TpL K H3 acc (gs.take (i + 1)).flatten, fun H3 p => ⟨ds.length - (i + 1), by omega, rfl, p⟩, fun x H'' y => ?_⟩
    obtain ⟨rfl, hd⟩ := hy i x H' H'' (.of s2) y
    obtain ⟨d, hd1, hd2⟩ := hd hlt
    have ef : fs[i]? = some (fs[i]'(by omega)) := List.getElem?_eq_getElem (by omega)
    have eg : gs[i]? = some (gs[i]'(by omega)) := List.getElem?_eq_getElem (by omega)
    have el := hl i _ _ ef eg
    obtain ⟨f, hfe⟩ : ∃ f, fs[i]'(by omega) = f := ⟨_, rfl⟩
    obtain ⟨gg, hge⟩ : ∃ f, gs[i]'(by omega) = f := ⟨_, rfl⟩
    rw [hfe] at ef el
    rw [hge] at eg el
    have ss : Same H H'' := (s.trans s1).trans s2
    have etk : (gs.take (i + 1)).flatten = (gs.take i).flatten ++ gg := by
      rw [List.take_add_one, eg]
      simp
    have bnd : (gs.take i).flatten.length + gg.length ≤ 1000000 := by
      have e4 : gs.flatten = (gs.take (i + 1)).flatten ++ (gs.drop (i + 1)).flatten := by
        rw [← List.flatten_append, List.take_append_drop]
      rw [e4, etk, List.length_append, List.length_append] at hz
      omega
    refine ⟨hw x, yes_then ?_⟩
    refine (hi i d f x H'' hd1 ef ss hd2).go _ fun J1 H4 s4 hgo1 hst1 hy1 => ?_
    refine ⟨fun a k H5 => k = f.length - a ∧ a ≤ f.length ∧ Same H1 H5 ∧ TupK H4 H5 ∧ KeepB Dl H4 H5 ∧ ∃ acc, H5 Dl = some (.lst acc) ∧ TpL K H5 acc ((gs.take i).flatten ++ gg.take a), ⟨f.length, by simp, Nat.zero_le _, s2.trans s4, .of (Same.refl _), KeepB.refl _ _, acc, s4 _ _ ea, by simpa using ta.stay (.of s4)⟩, ?_⟩
    rintro a k H5 ⟨rfl, ale, s5, tk5, kb5, acc5, ea5, ta5⟩
    have st5 : Stays H'' H4 H5 := ⟨tk5, fun b o hb e => kb5 b o e fun z => by
      rw [z, ea] at hb
      cases hb⟩
    by_cases alt : a < f.length
    · refine .inr ⟨hgo1 a H5 alt st5, fun H6 => a + 1 ≤ f.length ∧ Same H1 H6 ∧ TupK H4 H6 ∧ KeepB Dl H4 H6 ∧ ∃ acc, H6 Dl = some (.lst acc) ∧ TpL K H6 acc ((gs.take i).flatten ++ gg.take (a + 1)), fun H6 p => ⟨f.length - (a + 1), by omega, rfl, p⟩, fun y H6 yy => ?_⟩
      obtain ⟨rfl, hd'⟩ := hy1 a y H5 H6 st5 yy
      obtain ⟨e0, he1, he2⟩ := hd' alt
      have eg2 : gg[a]? = some (gg[a]'(by omega)) := List.getElem?_eq_getElem (by omega)
      refine ⟨hw1 x y, yes_then ?_⟩
      have sx : Same H H6 := (s.trans s1).trans s5
      refine he i a d f gg e0 _ x y H6 hd1 ef eg he1 eg2 sx (hd2.stay ((TupK.of s4).trans tk5)) he2 H6 (Same.refl _) _ fun v H7 s7 tv => ?_
      have e7 := s7 _ _ ea5
      refine ⟨acc5, e7, by rw [ta5.len, List.length_append, List.length_take]; exact sz6 (by omega), alt, same_upd_new (s5.trans s7) hD, (tk5.trans (.of s7)).trans (.keep keep_upd e7), (kb5.trans (KeepB.of s7)).trans keep_upd, _, upd_same, ?_⟩
      have et : gg.take (a + 1) = gg.take a ++ [gg[a]'(by omega)] := by
        rw [List.take_add_one, eg2]
        rfl
      rw [et, ← List.append_assoc]
      exact ((ta5.stay (.of s7)).app (.one tv)).stay (.keep keep_upd e7)
    · have e : a = f.length := by omega
      subst e
      refine .inl ⟨hst1 H5 st5, hlt, s5, acc5, ea5, ?_⟩
      rw [etk]
      rw [← el, List.take_length] at ta5
      exact ta5
  · have e : i = ds.length := by omega
    subst e
    refine .inl ⟨hst H' (.of s2), q Dl acc H' (s1.free hD) (s1.trans s2) ea ?_⟩
    rw [← hg, List.take_length] at ta
    exact ta
end
end
section
set_option Elab.async false
set_option linter.all false
set_option maxRecDepth 100000
set_option maxHeartbeats 1000000
open PySem PySem.Spec PyProof.Rows L2
/-! max(xs, default=d) of a list of whole numbers -/
def maxI (d : Int) : List Int → Int
  | [] => d
  | y :: ys => ys.foldl max y
def rMaxD (K : PySem.W.Frag) : List V → List V → Hp → VK → Prop := fun vs zs H Q => ∃ (a : Addr) (ns : List Int) (d : Int), vs = [V.ref a] ∧ zs = [.int d] ∧ SqL K H a (ns.map V.int) ∧ Q (.int (maxI d ns)) H
theorem reads_ints {h : Heap} : ∀ {vs : List Value} {ns : List Int}, IntsAre vs ns → ReadsAll h vs (ns.map PyData.int) []
  | [], [], _ => .nil
  | [], _ :: _, h => by cases h
  | _ :: _, [], h => by cases h
  | v :: vs, n :: ns, h => by
    cases h with
    | cons t r => exact .cons (.int n _) (reads_ints (by assumption))
theorem depth_ints : ∀ ns : List Int, PyData.depthAll (ns.map PyData.int) = 0
  | [] => rfl
  | n :: ns => by
    show max 0 (PyData.depthAll (ns.map PyData.int)) = 0
    rw [depth_ints ns]
    rfl
theorem alike_ints (ns : List Int) : PySem.W.AlikeAll (ns.map PyData.int) := by
  refine ⟨fun x hx y hy => ?_, fun x hx => ?_⟩
  · obtain ⟨a, _, rfl⟩ := List.mem_map.mp hx
    obtain ⟨b, _, rfl⟩ := List.mem_map.mp hy
    rfl
  · obtain ⟨a, _, rfl⟩ := List.mem_map.mp hx
    intro e
    cases e
theorem cr_maxD {X : Cx} (hc : X.calm = true) (hu : X.A.units + 1 < cLine) : CallRK X (.builtin "max") [Str.ofString "default"] (rMaxD X.K) := by
  intro pins s σ H vs zs us ws Q I r rz h
  obtain ⟨a, ns, d, rfl, rfl, hs, q⟩ := h
  obtain ⟨its, rv, hl, hz⟩ := I.list hs
  obtain rfl := Vals.ref1 r
  obtain ⟨w1, rfl, t0, rfl⟩ : ∃ w1, ws = [w1] ∧ ∃ t, w1 = Value.int d t := by
    cases rz with
    | cons a b =>
      cases b
      exact ⟨_, rfl, a⟩
  have hi := rv.ints
  refine PySem.W.max_list_default (as := []) (xs := ns.map PyData.int) (I.ok.hd hc) hl.isList (by rw [List.toList_toArray]; exact reads_ints hi) (alike_ints ns) (by rw [depth_ints]; exact hu) (fun e h' tk hk => ?_) fun y ys i v h' tk bs e hv rd hk => ?_
  · have e : ns = [] := List.map_eq_nil_iff.mp e
    subst e
    exact ⟨.int _, H, I.kept hk, ⟨_, rfl⟩, q⟩
  · cases ns with
    | nil => cases e
    | cons n ns =>
      rw [List.map_cons] at e
      cases e
      rw [PySem.W.maxD_ints] at rd
      cases rd with
      | int _ t => exact ⟨.int _, H, I.kept hk, ⟨_, rfl⟩, q⟩
theorem maxI_le {d : Int} : ∀ {ns : List Int} {m : Int}, (∀ n ∈ ns, n ≤ m) → d ≤ m → maxI d ns ≤ m
  | [], m, _, h => h
  | y :: ys, m, h, _ => by
    have : ∀ (ys : List Int) (y : Int), y ≤ m → (∀ n ∈ ys, n ≤ m) → ys.foldl max y ≤ m := by
      intro ys
      induction ys with
      | nil => intro y a _; exact a
      | cons z zs ih =>
        intro y a b
        exact ih _ (by have := b z (List.mem_cons_self ..); omega) fun n hn => b n (List.mem_cons_of_mem _ hn)
    exact this ys y (h y (List.mem_cons_self ..)) fun n hn => h n (List.mem_cons_of_mem _ hn)
theorem maxI_cons (d : Int) (y : Int) (ys : List Int) (h : ∀ n ∈ y :: ys, d ≤ n) : maxI d (y :: ys) = max y (maxI d ys) := by
  have key : ∀ (ys : List Int) (a b : Int), ys.foldl max (max a b) = max a (ys.foldl max b) := by
    intro ys
    induction ys with
    | nil => intro a b; rfl
    | cons z zs ih =>
      intro a b
      rw [List.foldl_cons, List.foldl_cons, show max (max a b) z = max a (max b z) by omega]
      exact ih _ _
  cases ys with
  | nil =>
    have := h y (List.mem_cons_self ..)
    show y = max y d
    omega
  | cons z zs =>
    show (z :: zs).foldl max y = max y (zs.foldl max z)
    exact key zs y z
end
section
set_option Elab.async false
set_option linter.all false
set_option maxRecDepth 100000
set_option maxHeartbeats 400000
open PySem L2
/-! formulas as they are meant; as data; what the program's walks find in them -/
mutual
inductive FRow where
  | nil | cons (i : FItem) (r : FRow)
inductive FItem where
  | mk (n : FNuc) (b a : FScr)
inductive FScr where
  | no | yes (r : FRow)
inductive FNuc where
  | sym (x : Str) | group (r : FRow) | frac (o u : FRow) | root (r : FRow) | fence (o c : Option Str) (r : FRow) | grid (g : FGrid)
inductive FGrid where
  | nil | cons (c : FCells) (g : FGrid)
inductive FCells where
  | nil | cons (r : FRow) (c : FCells)
end
def optD : Option Str → PyData
  | none => .none
  | some x => .str x
mutual
def FRow.ds : FRow → List PyData
  | .nil => []
  | .cons i r => i.d :: r.ds
def FItem.d : FItem → PyData
  | .mk n b a => .tuple [n.d, b.d, a.d]
def FScr.d : FScr → PyData
  | .no => .none
  | .yes r => .tuple r.ds
def FNuc.d : FNuc → PyData
  | .sym x => .tuple [.str "symbol", .str x]
  | .group r => .tuple [.str "group", .tuple r.ds]
  | .frac o u => .tuple [.str "frac", .tuple o.ds, .tuple u.ds]
  | .root r => .tuple [.str "root", .tuple r.ds]
  | .fence o c r => .tuple [.str "fence", optD o, optD c, .tuple r.ds]
  | .grid g => .tuple [.str "grid", .tuple g.ds]
def FGrid.ds : FGrid → List PyData
  | .nil => []
  | .cons c g => .tuple c.ds :: g.ds
def FCells.ds : FCells → List PyData
  | .nil => []
  | .cons r c => .tuple r.ds :: c.ds
end
def FRow.d (r : FRow) : PyData := .tuple r.ds
def FCells.d (c : FCells) : PyData := .tuple c.ds
/-! as lists -/
def FRow.items : FRow → List FItem
  | .nil => []
  | .cons i r => i :: r.items
def FRow.of : List FItem → FRow
  | [] => .nil
  | i :: r => .cons i (FRow.of r)
def FGrid.lines : FGrid → List FCells
  | .nil => []
  | .cons c g => c :: g.lines
def FGrid.of : List FCells → FGrid
  | [] => .nil
  | c :: g => .cons c (FGrid.of g)
def FCells.rows : FCells → List FRow
  | .nil => []
  | .cons r c => r :: c.rows
def FCells.of : List FRow → FCells
  | [] => .nil
  | r :: c => .cons r (FCells.of c)
theorem FRow.ds_eq : ∀ r : FRow, r.ds = r.items.map FItem.d
  | .nil => rfl
  | .cons i r => by rw [FRow.ds, FRow.items, List.map_cons, FRow.ds_eq r]
theorem FGrid.ds_eq : ∀ g : FGrid, g.ds = g.lines.map FCells.d
  | .nil => rfl
  | .cons c g => by rw [FGrid.ds, FGrid.lines, List.map_cons, FGrid.ds_eq g, FCells.d]
theorem FCells.ds_eq : ∀ c : FCells, c.ds = c.rows.map FRow.d
  | .nil => rfl
  | .cons r c => by rw [FCells.ds, FCells.rows, List.map_cons, FCells.ds_eq c, FRow.d]
theorem FRow.items_of : ∀ l : List FItem, (FRow.of l).items = l
  | [] => rfl
  | i :: l => by rw [FRow.of, FRow.items, FRow.items_of l]
theorem FGrid.lines_of : ∀ l : List FCells, (FGrid.of l).lines = l
  | [] => rfl
  | i :: l => by rw [FGrid.of, FGrid.lines, FGrid.lines_of l]
theorem FCells.rows_of : ∀ l : List FRow, (FCells.of l).rows = l
  | [] => rfl
  | i :: l => by rw [FCells.of, FCells.rows, FCells.rows_of l]
theorem FRow.of_items : ∀ r : FRow, FRow.of r.items = r
  | .nil => rfl
  | .cons i r => by rw [FRow.items, FRow.of, FRow.of_items r]
/-! the rows directly in -/
def FScr.rows : FScr → List FRow
  | .no => []
  | .yes r => [r]
def FGrid.all : FGrid → List FRow
  | .nil => []
  | .cons c g => c.rows ++ g.all
def FNuc.rows : FNuc → List FRow
  | .sym _ => []
  | .group r => [r]
  | .frac o u => [o, u]
  | .root r => [r]
  | .fence _ _ r => [r]
  | .grid g => g.all
def FItem.nuc : FItem → FNuc
  | .mk n _ _ => n
def FItem.bel : FItem → FScr
  | .mk _ b _ => b
def FItem.abv : FItem → FScr
  | .mk _ _ a => a
def FItem.rows : FItem → List FRow
  | .mk n b a => n.rows ++ (b.rows ++ a.rows)
theorem FGrid.all_eq : ∀ g : FGrid, g.all = g.lines.flatMap FCells.rows
  | .nil => rfl
  | .cons c g => by rw [FGrid.all, FGrid.lines, List.flatMap_cons, FGrid.all_eq g]
/-! all rows within, in preorder -/
mutual
def FRow.inn : FRow → List FRow
  | .nil => []
  | .cons i r => i.inn ++ r.inn
def FItem.inn : FItem → List FRow
  | .mk n b a => n.inn ++ (b.inn ++ a.inn)
def FScr.inn : FScr → List FRow
  | .no => []
  | .yes r => r :: r.inn
def FNuc.inn : FNuc → List FRow
  | .sym _ => []
  | .group r => r :: r.inn
  | .frac o u => (o :: o.inn) ++ (u :: u.inn)
  | .root r => r :: r.inn
  | .fence _ _ r => r :: r.inn
  | .grid g => g.inn
def FGrid.inn : FGrid → List FRow
  | .nil => []
  | .cons c g => c.inn ++ g.inn
def FCells.inn : FCells → List FRow
  | .nil => []
  | .cons r c => (r :: r.inn) ++ c.inn
end
def FRow.pre (r : FRow) : List FRow := r :: r.inn
theorem FRow.inn_eq : ∀ r : FRow, r.inn = r.items.flatMap FItem.inn
  | .nil => rfl
  | .cons i r => by rw [FRow.inn, FRow.items, List.flatMap_cons, FRow.inn_eq r]
theorem FCells.inn_eq : ∀ c : FCells, c.inn = c.rows.flatMap FRow.pre
  | .nil => rfl
  | .cons r c => by rw [FCells.inn, FCells.rows, List.flatMap_cons, FCells.inn_eq c, FRow.pre]
theorem FGrid.inn_eq : ∀ g : FGrid, g.inn = g.all.flatMap FRow.pre
  | .nil => rfl
  | .cons c g => by rw [FGrid.inn, FGrid.all, List.flatMap_append, FGrid.inn_eq g, FCells.inn_eq]
theorem FScr.inn_eq (s : FScr) : s.inn = s.rows.flatMap FRow.pre := by
  cases s <;> simp [FScr.inn, FScr.rows, FRow.pre]
theorem FNuc.inn_eq (n : FNuc) : n.inn = n.rows.flatMap FRow.pre := by
  cases n <;> simp [FNuc.inn, FNuc.rows, FRow.pre, FGrid.inn_eq]
theorem FItem.inn_eq (i : FItem) : i.inn = i.rows.flatMap FRow.pre := by
  cases i with
  | mk n b a => rw [FItem.inn, FItem.rows, FNuc.inn_eq, FScr.inn_eq, FScr.inn_eq, List.flatMap_append, List.flatMap_append]
/-! how deep -/
mutual
def FRow.dep : FRow → Nat
  | .nil => 0
  | .cons i r => max i.dep r.dep
def FItem.dep : FItem → Nat
  | .mk n b a => max n.dep (max b.dep a.dep)
def FScr.dep : FScr → Nat
  | .no => 0
  | .yes r => r.dep + 1
def FNuc.dep : FNuc → Nat
  | .sym _ => 0
  | .group r => r.dep + 1
  | .frac o u => max (o.dep + 1) (u.dep + 1)
  | .root r => r.dep + 1
  | .fence _ _ r => r.dep + 1
  | .grid g => g.dep
def FGrid.dep : FGrid → Nat
  | .nil => 0
  | .cons c g => max c.dep g.dep
def FCells.dep : FCells → Nat
  | .nil => 0
  | .cons r c => max (r.dep + 1) c.dep
end
theorem FRow.dep_le {n : Nat} : ∀ {r : FRow}, r.dep ≤ n ↔ ∀ i ∈ r.items, i.dep ≤ n
  | .nil => by simp [FRow.dep, FRow.items]
  | .cons i r => by
    rw [FRow.dep, FRow.items, List.forall_mem_cons, ← FRow.dep_le (r := r)]
    omega
theorem FCells.dep_le {n : Nat} : ∀ {c : FCells}, c.dep ≤ n ↔ ∀ r ∈ c.rows, r.dep + 1 ≤ n
  | .nil => by simp [FCells.dep, FCells.rows]
  | .cons r c => by
    rw [FCells.dep, FCells.rows, List.forall_mem_cons, ← FCells.dep_le (c := c)]
    omega
theorem FGrid.dep_le {n : Nat} : ∀ {g : FGrid}, g.dep ≤ n ↔ ∀ r ∈ g.all, r.dep + 1 ≤ n
  | .nil => by simp [FGrid.dep, FGrid.all]
  | .cons c g => by
    rw [FGrid.dep, FGrid.all, List.forall_mem_append, ← FGrid.dep_le (g := g), ← FCells.dep_le]
    omega
theorem FScr.dep_le {n : Nat} {s : FScr} : s.dep ≤ n ↔ ∀ r ∈ s.rows, r.dep + 1 ≤ n := by
  cases s <;> simp [FScr.dep, FScr.rows]
theorem FNuc.dep_le {n : Nat} {s : FNuc} : s.dep ≤ n ↔ ∀ r ∈ s.rows, r.dep + 1 ≤ n := by
  cases s with
  | grid g => exact FGrid.dep_le
  | frac o u => simp [FNuc.dep, FNuc.rows]; omega
  | _ => simp [FNuc.dep, FNuc.rows]
theorem FItem.dep_le {n : Nat} {i : FItem} : i.dep ≤ n ↔ ∀ r ∈ i.rows, r.dep + 1 ≤ n := by
  cases i with
  | mk m b a =>
    rw [FItem.dep, FItem.rows, List.forall_mem_append, List.forall_mem_append, ← FNuc.dep_le, ← FScr.dep_le, ← FScr.dep_le]
    omega
/-! the words of the normal text -/
def delimW : Option Str → Str
  | none => "."
  | some x => x
mutual
def FRow.words : FRow → List Str
  | .nil => []
  | .cons i r => i.words ++ r.words
def FItem.words : FItem → List Str
  | .mk n b a => n.words ++ (b.words "_" ++ a.words "^")
def FScr.words (s : Str) : FScr → List Str
  | .no => []
  | .yes r => s :: "{" :: (r.words ++ [("}" : Str)])
def FNuc.words : FNuc → List Str
  | .sym x => [x]
  | .group r => "{" :: (r.words ++ [("}" : Str)])
  | .frac o u => "@frac" :: "{" :: (o.words ++ (("}" : Str) :: "{" :: (u.words ++ [("}" : Str)])))
  | .root r => "@root" :: "{" :: (r.words ++ [("}" : Str)])
  | .fence o c r => "@left" :: delimW o :: (r.words ++ [("@right" : Str), delimW c])
  | .grid g => "@grid" :: (g.words "{" ++ [("}" : Str)])
def FGrid.words (s : Str) : FGrid → List Str
  | .nil => []
  | .cons c g => c.words s ++ g.words "~"
def FCells.words (s : Str) : FCells → List Str
  | .nil => []
  | .cons r c => s :: (r.words ++ c.words "&")
end
theorem FRow.words_eq : ∀ r : FRow, r.words = r.items.flatMap FItem.words
  | .nil => rfl
  | .cons i r => by rw [FRow.words, FRow.items, List.flatMap_cons, FRow.words_eq r]
def braceW (r : FRow) : List Str := "{" :: (r.words ++ [("}" : Str)])
/-! sizes: the number of words -/
theorem words_item : ∀ {r : FRow} {i : FItem}, i ∈ r.items → i.words.length ≤ r.words.length
  | .nil, _, h => nomatch h
  | .cons q r, i, h => by
    rw [FRow.words, List.length_append]
    rcases List.mem_cons.mp h with rfl | h
    · omega
    · have := words_item h
      omega
theorem words_cells : ∀ {c : FCells} {r : FRow} {s : Str}, r ∈ c.rows → r.words.length < (c.words s).length
  | .nil, _, _, h => nomatch h
  | .cons q c, r, s, h => by
    rw [FCells.words, List.length_cons, List.length_append]
    rcases List.mem_cons.mp h with rfl | h
    · omega
    · have := words_cells (s := "&") h
      omega
theorem words_grid : ∀ {g : FGrid} {r : FRow} {s : Str}, r ∈ g.all → r.words.length < (g.words s).length
  | .nil, _, _, h => nomatch h
  | .cons q c, r, s, h => by
    rw [FGrid.words, List.length_append]
    rcases List.mem_append.mp h with h | h
    · have := words_cells (s := s) h
      omega
    · have := words_grid (s := "~") h
      omega
theorem words_nuc {n : FNuc} {r : FRow} (h : r ∈ n.rows) : r.words.length < n.words.length := by
  cases n with
  | sym x => cases h
  | group q => cases List.mem_singleton.mp h; simp [FNuc.words]; omega
  | root q => cases List.mem_singleton.mp h; simp [FNuc.words]; omega
  | fence o c q => cases List.mem_singleton.mp h; simp [FNuc.words]; omega
  | frac o u =>
    rcases List.mem_cons.mp h with rfl | h
    · simp [FNuc.words]; omega
    · cases List.mem_singleton.mp h; simp [FNuc.words]; omega
  | grid g =>
    have := words_grid (s := "{") h
    simp [FNuc.words]; omega
theorem words_scr {n : FScr} {r : FRow} {s : Str} (h : r ∈ n.rows) : r.words.length < (n.words s).length := by
  cases n with
  | no => cases h
  | yes q => cases List.mem_singleton.mp h; simp [FScr.words]; omega
theorem words_rows {i : FItem} {r : FRow} (h : r ∈ i.rows) : r.words.length < i.words.length := by
  cases i with
  | mk n b a =>
    rw [FItem.words, List.length_append, List.length_append]
    rcases List.mem_append.mp h with h | h
    · have := words_nuc h
      omega
    rcases List.mem_append.mp h with h | h
    · have := words_scr (s := "_") h
      omega
    · have := words_scr (s := "^") h
      omega
end
section
set_option Elab.async false
set_option linter.all false
set_option maxRecDepth 100000
set_option maxHeartbeats 1000000
open PySem PySem.Spec PyProof.Rows L2
/-! more of the calculus: short words for bodies -/
def rLenQ (K : PySem.W.Frag) : List V → Hp → VK → Prop := fun xs H Q => ∃ p ys, xs = [.ref p] ∧ (SqL K H p ys ∨ SqT K H p ys) ∧ (ys.length ≤ sizeLine → Q (.int ys.length) H)
theorem call_lenK {X : Cx} : CallR X (.builtin "len") (rLenQ X.K) := call_len_sq
theorem FnOk.vac {P : Program} {w : World} {K : PySem.W.Frag} {mg : Str → Option Value} {base : Heap} {CX : CXT} {k : Nat} {f : Addr} {fd : FuncData} {ps : List Str} {sp : Sp} (h : ∀ vs H Q E, ¬ sp vs H Q E) : FnOk P w K mg base CX k f fd ps sp :=
  ⟨fun _ _ _ _ z => (h _ _ _ _ z).elim, fun _ _ _ _ _ _ _ _ _ _ _ _ _ z => (h _ _ _ _ z).elim⟩
section
variable {K : PySem.W.Frag} {σ : L2.St} {H0 H H1 H' : Hp} {p : Addr} {as ds es : List PyData} {d : PyData} {ta tb te tl : TE} {tu tw tz : TS} {g : TG} {D : Ends} {t : TT} {b : Bool} {v : V} {Q : VK}
theorem g_name {i : Nat} {Q : L2.St → Hp → Prop} (h : Q (σ.set i (some v)) H) : gName i v σ H Q := h
theorem retL (kk : ∀ p xs H', H p = none → Same H H' → H' p = some (.lst xs) → TpL K H' xs es → Q (.ref p) H') (s : Same H H1) (h : EvDL K te σ H1 es) (e : D.rt = Q) : tRet te D σ H1 := by
  show te σ H1 D.rt
  rw [e]
  exact h H1 (Same.refl _) _ fun p xs H2 n s2 e l => kk p xs H2 (s.free n) (s.trans s2) e l
theorem retD (kk : ∀ v H', Same H H' → Tp K H' v d → Q v H') (s : Same H H1) (h : EvD K te σ H1 d) (e : D.rt = Q) : tRet te D σ H1 := by
  show te σ H1 D.rt
  rw [e]
  exact h H1 (Same.refl _) _ fun v H2 s2 t => kk v H2 (s.trans s2) t
theorem retAcc {i : Nat} (kk : ∀ p xs H', H p = none → Same H H' → H' p = some (.lst xs) → TpL K H' xs es → Q (.ref p) H') (A : Acc K H p es H1) (hi : σ[i]? = some (some (.ref p))) (e : D.rt = Q) : tRet (tVar i) D σ H1 := by
  show tVar i σ H1 D.rt
  rw [e]
  obtain ⟨a, b, xs, c, l⟩ := A
  exact ⟨_, hi, kk p xs H1 a b c l⟩
theorem q_noS {i : Nat} {x y : Str} (hv : σ[i]? = some (some (.str x))) (ne : x ≠ y) (k : tz D σ H) : tSeq (tIfS (tTest (tOp rEq (tVar i) (tC (.str y)))) tu tNext) tz D σ H := by
  refine ⟨_, hv, rfl, _, rfl, iteN ?_ k⟩
  rw [decide_eq_true_eq]
  intro z
  injection z with z
  exact ne z
theorem q_yesS {i : Nat} {x : Str} (hv : σ[i]? = some (some (.str x))) (k : tu { D with nx := tz D } σ H) : tSeq (tIfS (tTest (tOp rEq (tVar i) (tC (.str x)))) tu tw) tz D σ H := ⟨_, hv, rfl, _, rfl, iteP (decide_eq_true rfl) k⟩
theorem q_no (h : EvDT K t σ H b) (e : b = false) (k : ∀ H1, Same H H1 → tz D σ H1) : tSeq (tIfS t tu tNext) tz D σ H := q_when h (fun z => by rw [e] at z; cases z) fun _ H1 s => k H1 s
theorem q_yes (h : EvDT K t σ H b) (e : b = true) (k : ∀ H1, Same H H1 → tu { D with nx := tz D } σ H1) : tSeq (tIfS t tu tw) tz D σ H := q_if h (fun _ H1 s => k H1 s) fun z => by rw [e] at z; cases z
theorem q_forT {xs0 : List V} (h : EvD K tl σ H (.tuple ds)) (hp : H p = some (.lst xs0)) (Pv : Nat → L2.St → Hp → Prop) (h0 : ∀ H1, Same H H1 → Pv 0 σ H1)
    (hs : ∀ H1, Same H H1 → ∀ i d x σ' H', ds[i]? = some d → Pv i σ' H' → KeepB p H1 H' → Tp K H' x d → g x σ' H' fun σ2 H2 => tu { D with nx := fun σ3 H3 => Pv (i + 1) σ3 H3 ∧ KeepB p H1 H3, ct := fun σ3 H3 => Pv (i + 1) σ3 H3 ∧ KeepB p H1 H3, bk := tz D } σ2 H2)
    (hd : ∀ σ' H', Pv ds.length σ' H' → KeepB p H H' → tz D σ' H') : tSeq (tFor (iTup K tl) g tu) tz D σ H := s_forT (D := { D with nx := tz D }) h hp Pv h0 hs hd
theorem q_forL {xs0 : List V} (h : EvDL K tl σ H ds) (hp : H p = some (.lst xs0)) (Pv : Nat → L2.St → Hp → Prop) (h0 : ∀ H1, Same H H1 → Pv 0 σ H1)
    (hs : ∀ H1, Same H H1 → ∀ i d x σ' H', ds[i]? = some d → Pv i σ' H' → KeepB p H1 H' → Tp K H' x d → g x σ' H' fun σ2 H2 => tu { D with nx := fun σ3 H3 => Pv (i + 1) σ3 H3 ∧ KeepB p H1 H3, ct := fun σ3 H3 => Pv (i + 1) σ3 H3 ∧ KeepB p H1 H3, bk := tz D } σ2 H2)
    (hd : ∀ σ' H', Pv ds.length σ' H' → KeepB p H H' → tz D σ' H') : tSeq (tFor (iList K tl) g tu) tz D σ H := s_forL (D := { D with nx := tz D }) h hp Pv h0 hs hd
theorem q_enum {xs0 xs : List V} {j : Nat} {a : Addr} (hj : σ[j]? = some (some (.ref a))) (ha : H a = some (.lst xs)) (l : TpL K H xs ds) (ne : a ≠ p) (hp : H p = some (.lst xs0)) (Pv : Nat → L2.St → Hp → Prop) (h0 : Pv 0 σ H)
    (hs : ∀ i d x T σ' H', ds[i]? = some d → Pv i σ' H' → KeepB p H H' → Tp K H' x d → H' T = none → g (.ref T) σ' (upd H' T (.tup [.int (i : Nat), x])) fun σ2 H2 => tu { D with nx := fun σ3 H3 => Pv (i + 1) σ3 H3 ∧ KeepB p H H3, ct := fun σ3 H3 => Pv (i + 1) σ3 H3 ∧ KeepB p H H3, bk := tz D } σ2 H2)
    (hd : ∀ σ' H', Pv ds.length σ' H' → KeepB p H H' → tz D σ' H') : tSeq (tFor (iEnum K (tCons (tVar j) tNil)) g tu) tz D σ H := s_enum (D := { D with nx := tz D }) hj ha l ne hp Pv h0 hs hd
/-- if x is not None: xs.append(x) | xs.extend([..] + f(x)) -/
theorem none_scr (s : FScr) : noneD s.d = (match s with | .no => true | .yes _ => false) := by cases s <;> rfl
theorem e_maxD {ns : List Int} {z : Int} (h : EvDL K te σ H (ns.map PyData.int)) : EvD K (tCKw (rMaxD K) (tCons te tNil) (tCons (tC (.int z)) tNil)) σ H (.int (maxI z ns)) := fun H1 s Q q => h H1 s _ fun p xs H2 _ s2 e l => by
  have el := l.ints
  subst el
  exact ⟨p, ns, z, rfl, rfl, SqL.of e, q _ H2 s2 (.int _)⟩
theorem e_sum {ns : List Int} (h : EvDL K te σ H (ns.map PyData.int)) : EvD K (tCB (rSum K) (tCons te tNil)) σ H (.int ns.sum) := fun H1 s Q q => h H1 s _ fun p xs H2 _ s2 e l => by
  have el := l.ints
  subst el
  exact ⟨p, ns, rfl, SqL.of e, q _ H2 s2 (.int _)⟩
end
theorem get_map {α β : Type} {f : α → β} {l : List α} {i : Nat} {y : β} (h : (l.map f)[i]? = some y) : ∃ x, l[i]? = some x ∧ y = f x := by
  rw [List.getElem?_map] at h
  cases e : l[i]? with
  | none => rw [e] at h; cases h
  | some x => rw [e] at h; exact ⟨x, rfl, (Option.some.inj h).symm⟩
theorem map_get {α β : Type} {f : α → β} {l : List α} {i : Nat} {x : α} (h : l[i]? = some x) : (l.map f)[i]? = some (f x) := by
  rw [List.getElem?_map, h]
  rfl
theorem flat_snoc {α β : Type} {f : α → List β} {l : List α} {i : Nat} {x : α} (h : l[i]? = some x) : (l.take (i + 1)).flatMap f = (l.take i).flatMap f ++ f x := by
  rw [List.take_add_one, h, List.flatMap_append]
  simp
theorem map_snoc {α β : Type} {f : α → β} {l : List α} {i : Nat} {x : α} (h : l[i]? = some x) : (l.take (i + 1)).map f = (l.take i).map f ++ [f x] := by
  rw [List.take_add_one, h, List.map_append]
  rfl
theorem flat_le {α β : Type} {f : α → List β} : ∀ {l : List α} {i : Nat} {x : α}, l[i]? = some x → ((l.take i).flatMap f).length + (f x).length ≤ (l.flatMap f).length
  | [], _, _, h => by simp at h
  | y :: l, 0, x, h => by
    cases Option.some.inj h
    simp
  | y :: l, i + 1, x, h => by
    have := flat_le (f := f) (l := l) (i := i) (x := x) h
    rw [List.take_succ_cons, List.flatMap_cons, List.flatMap_cons, List.length_append, List.length_append]
    omega
/-! numbers of rows -/
mutual
theorem inn_row : ∀ r : FRow, r.inn.length ≤ r.words.length
  | .nil => Nat.le_refl _
  | .cons i r => by
    rw [FRow.inn, FRow.words, List.length_append, List.length_append]
    have := inn_item i
    have := inn_row r
    omega
theorem inn_item : ∀ i : FItem, i.inn.length ≤ i.words.length
  | .mk n b a => by
    rw [FItem.inn, FItem.words, List.length_append, List.length_append, List.length_append, List.length_append]
    have := inn_nuc n
    have := inn_scr "_" b
    have := inn_scr "^" a
    omega
theorem inn_scr (s : Str) : ∀ c : FScr, c.inn.length ≤ (c.words s).length
  | .no => Nat.le_refl _
  | .yes r => by
    have := inn_row r
    simp only [FScr.inn, FScr.words, List.length_cons, List.length_append]
    omega
theorem inn_nuc : ∀ n : FNuc, n.inn.length ≤ n.words.length
  | .sym x => by simp [FNuc.inn]
  | .group r => by
    have := inn_row r
    simp only [FNuc.inn, FNuc.words, List.length_cons, List.length_append]
    omega
  | .frac o u => by
    have := inn_row o
    have := inn_row u
    simp only [FNuc.inn, FNuc.words, List.length_cons, List.length_append]
    omega
  | .root r => by
    have := inn_row r
    simp only [FNuc.inn, FNuc.words, List.length_cons, List.length_append]
    omega
  | .fence o c r => by
    have := inn_row r
    simp only [FNuc.inn, FNuc.words, List.length_cons, List.length_append]
    omega
  | .grid g => by
    have := inn_grid "{" g
    simp only [FNuc.inn, FNuc.words, List.length_cons, List.length_append]
    omega
theorem inn_grid (s : Str) : ∀ g : FGrid, g.inn.length ≤ (g.words s).length
  | .nil => Nat.le_refl _
  | .cons c g => by
    have := inn_cells s c
    have := inn_grid "~" g
    rw [FGrid.inn, FGrid.words, List.length_append, List.length_append]
    omega
theorem inn_cells (s : Str) : ∀ c : FCells, c.inn.length ≤ (c.words s).length
  | .nil => Nat.le_refl _
  | .cons r c => by
    have := inn_row r
    have := inn_cells "&" c
    simp only [FCells.inn, FCells.words, List.length_cons, List.length_append]
    omega
end
theorem cells_len (s : Str) : ∀ c : FCells, c.rows.length ≤ (c.words s).length
  | .nil => Nat.le_refl _
  | .cons r c => by
    have := cells_len "&" c
    simp only [FCells.rows, FCells.words, List.length_cons, List.length_append]
    omega
theorem all_len (s : Str) : ∀ g : FGrid, g.all.length ≤ (g.words s).length
  | .nil => Nat.le_refl _
  | .cons c g => by
    have := cells_len s c
    have := all_len "~" g
    rw [FGrid.all, FGrid.words, List.length_append, List.length_append]
    omega
theorem nrows_len (n : FNuc) : n.rows.length ≤ n.words.length := by
  cases n with
  | grid g =>
    have := all_len "{" g
    simp only [FNuc.rows, FNuc.words, List.length_cons, List.length_append]
    omega
  | _ => simp [FNuc.rows, FNuc.words]
theorem rows_len (i : FItem) : i.rows.length ≤ i.words.length := by
  cases i with
  | mk n b a =>
    have := nrows_len n
    cases b <;> cases a <;> simp [FItem.rows, FScr.rows, FItem.words, FScr.words] <;> omega
/-! the greatest of natural numbers -/
def natMax (ns : List Nat) : Nat := ns.foldr max 0
theorem natMax_le {m : Nat} : ∀ {ns : List Nat}, natMax ns ≤ m ↔ ∀ n ∈ ns, n ≤ m
  | [] => by simp [natMax]
  | n :: ns => by
    have := natMax_le (m := m) (ns := ns)
    unfold natMax at this ⊢
    rw [List.foldr_cons, List.forall_mem_cons, ← this]
    omega
theorem maxI_nat : ∀ ns : List Nat, maxI 0 (ns.map fun n : Nat => (n : Int)) = ((natMax ns : Nat) : Int)
  | [] => rfl
  | n :: ns => by
    rw [List.map_cons, maxI_cons _ _ _ (fun m hm => ?_), maxI_nat ns]
    · show max (n : Int) _ = ((max n (natMax ns) : Nat) : Int)
      omega
    · rcases List.mem_cons.mp hm with rfl | hm
      · exact Int.natCast_nonneg _
      · obtain ⟨q, _, rfl⟩ := List.mem_map.mp hm
        exact Int.natCast_nonneg _
theorem dep_max (r : FRow) : r.dep = natMax (r.items.flatMap fun i => i.rows.map fun q => q.dep + 1) := by
  have key : ∀ m, r.dep ≤ m ↔ natMax (r.items.flatMap fun i => i.rows.map fun q => q.dep + 1) ≤ m := fun m => by
    rw [natMax_le, FRow.dep_le]
    constructor
    · intro h n hn
      obtain ⟨i, hi, hn⟩ := List.mem_flatMap.mp hn
      obtain ⟨q, hq, rfl⟩ := List.mem_map.mp hn
      exact FItem.dep_le.mp (h i hi) q hq
    · intro h i hi
      exact FItem.dep_le.mpr fun q hq => h _ (List.mem_flatMap.mpr ⟨i, hi, List.mem_map.mpr ⟨q, hq, rfl⟩⟩)
  exact Nat.le_antisymm ((key _).mpr (Nat.le_refl _)) ((key _).mp (Nat.le_refl _))
end
section
set_option Elab.async false
set_option linter.all false
set_option maxRecDepth 100000
set_option maxHeartbeats 1000000
open PySem L2
/-! formulas whose symbols and delimiters are of a kind, whose grids are small and even -/
section
variable (P : Str → Prop) (D : Option Str → Prop)
mutual
def FRow.good : FRow → Prop
  | .nil => True
  | .cons i r => i.good ∧ r.good
def FItem.good : FItem → Prop
  | .mk n b a => n.good ∧ b.good ∧ a.good
def FScr.good : FScr → Prop
  | .no => True
  | .yes r => r.good
def FNuc.good : FNuc → Prop
  | .sym x => P x
  | .group r => r.good
  | .frac o u => o.good ∧ u.good
  | .root r => r.good
  | .fence o c r => D o ∧ D c ∧ r.good
  | .grid g => g.good ∧ (1 ≤ g.lines.length ∧ g.lines.length ≤ 6) ∧ ∃ m, 1 ≤ m ∧ m ≤ 6 ∧ ∀ c ∈ g.lines, c.rows.length = m
def FGrid.good : FGrid → Prop
  | .nil => True
  | .cons c g => c.good ∧ g.good
def FCells.good : FCells → Prop
  | .nil => True
  | .cons r c => r.good ∧ c.good
end
theorem FRow.good_iff : ∀ {r : FRow}, r.good P D ↔ ∀ i ∈ r.items, i.good P D
  | .nil => by simp [FRow.good, FRow.items]
  | .cons i r => by rw [FRow.good, FRow.items, List.forall_mem_cons, ← FRow.good_iff (r := r)]
theorem FCells.good_iff : ∀ {r : FCells}, r.good P D ↔ ∀ i ∈ r.rows, i.good P D
  | .nil => by simp [FCells.good, FCells.rows]
  | .cons i r => by rw [FCells.good, FCells.rows, List.forall_mem_cons, ← FCells.good_iff (r := r)]
theorem FGrid.good_iff : ∀ {r : FGrid}, r.good P D ↔ ∀ i ∈ r.lines, i.good P D
  | .nil => by simp [FGrid.good, FGrid.lines]
  | .cons i r => by rw [FGrid.good, FGrid.lines, List.forall_mem_cons, ← FGrid.good_iff (r := r)]
end
/-! the words are of a kind, too -/
section
variable {P : Str → Prop} {D : Option Str → Prop} {W : Str → Prop}
structure WKind (P : Str → Prop) (D : Option Str → Prop) (W : Str → Prop) : Prop where
  p : ∀ x, P x → W x
  d : ∀ o, D o → W (delimW o)
  m : ∀ x ∈ ([("{" : Str), "}", "_", "^", "&", "~", "@frac", "@root", "@left", "@right", "@grid"] : List Str), W x
mutual
theorem words_row (K : WKind P D W) : ∀ {r : FRow}, r.good P D → ∀ x ∈ r.words, W x
  | .nil, _, x, h => nomatch h
  | .cons i r, g, x, h => (List.mem_append.mp h).elim (words_it K g.1 x) (words_row K g.2 x)
theorem words_it (K : WKind P D W) : ∀ {r : FItem}, r.good P D → ∀ x ∈ r.words, W x
  | .mk n b a, g, x, h => (List.mem_append.mp h).elim (words_nu K g.1 x) fun h => (List.mem_append.mp h).elim (words_sc K (s := "_") (K.m _ (by decide)) g.2.1 x) (words_sc K (s := "^") (K.m _ (by decide)) g.2.2 x)
theorem words_sc (K : WKind P D W) {s : Str} (hs : W s) : ∀ {r : FScr}, r.good P D → ∀ x ∈ r.words s, W x
  | .no, _, x, h => nomatch h
  | .yes r, g, x, h => by
    simp only [FScr.words, List.mem_cons, List.mem_append, List.not_mem_nil, or_false] at h
    rcases h with rfl | rfl | h | rfl
    · exact hs
    · exact K.m _ (by decide)
    · exact words_row K g x h
    · exact K.m _ (by decide)
theorem words_nu (K : WKind P D W) : ∀ {r : FNuc}, r.good P D → ∀ x ∈ r.words, W x
  | .sym y, g, x, h => by
    cases List.mem_singleton.mp h
    exact K.p _ g
  | .group r, g, x, h => by
    simp only [FNuc.words, List.mem_cons, List.mem_append, List.not_mem_nil, or_false] at h
    rcases h with rfl | h | rfl
    · exact K.m _ (by decide)
    · exact words_row K g x h
    · exact K.m _ (by decide)
  | .root r, g, x, h => by
    simp only [FNuc.words, List.mem_cons, List.mem_append, List.not_mem_nil, or_false] at h
    rcases h with rfl | rfl | h | rfl
    · exact K.m _ (by decide)
    · exact K.m _ (by decide)
    · exact words_row K g x h
    · exact K.m _ (by decide)
  | .frac o u, g, x, h => by
    simp only [FNuc.words, List.mem_cons, List.mem_append, List.not_mem_nil, or_false] at h
    rcases h with rfl | rfl | h | rfl | rfl | h | rfl
    · exact K.m _ (by decide)
    · exact K.m _ (by decide)
    · exact words_row K g.1 x h
    · exact K.m _ (by decide)
    · exact K.m _ (by decide)
    · exact words_row K g.2 x h
    · exact K.m _ (by decide)
  | .fence o c r, g, x, h => by
    simp only [FNuc.words, List.mem_cons, List.mem_append, List.not_mem_nil, or_false] at h
    rcases h with rfl | rfl | h | rfl | rfl
    · exact K.m _ (by decide)
    · exact K.d _ g.1
    · exact words_row K g.2.2 x h
    · exact K.m _ (by decide)
    · exact K.d _ g.2.1
  | .grid q, g, x, h => by
    simp only [FNuc.words, List.mem_cons, List.mem_append, List.not_mem_nil, or_false] at h
    rcases h with rfl | h | rfl
    · exact K.m _ (by decide)
    · exact words_gr K (s := "{") (K.m _ (by decide)) g.1 x h
    · exact K.m _ (by decide)
theorem words_gr (K : WKind P D W) {s : Str} (hs : W s) : ∀ {r : FGrid}, r.good P D → ∀ x ∈ r.words s, W x
  | .nil, _, x, h => nomatch h
  | .cons i r, g, x, h => (List.mem_append.mp h).elim (words_ce K hs g.1 x) (words_gr K (s := "~") (K.m _ (by decide)) g.2 x)
theorem words_ce (K : WKind P D W) {s : Str} (hs : W s) : ∀ {r : FCells}, r.good P D → ∀ x ∈ r.words s, W x
  | .nil, _, x, h => nomatch h
  | .cons i r, g, x, h => by
    simp only [FCells.words, List.mem_cons, List.mem_append] at h
    rcases h with rfl | h | h
    · exact hs
    · exact words_row K g.1 x h
    · exact words_ce K (s := "&") (K.m _ (by decide)) g.2 x h
end
end
end
section
set_option Elab.async false
set_option linter.all false
set_option maxRecDepth 100000
set_option maxHeartbeats 1000000
open PySem L2
/-! texts as they are written: trees whose leaves are words -/
mutual
inductive CRow where
  | nil | cons (i : CItem) (r : CRow)
inductive CItem where
  | mk (n : CNuc) (s : CScr)
inductive CScr where
  | no | b (x : CArg) | a (x : CArg) | ba (x y : CArg) | ab (x y : CArg)
inductive CArg where
  | one (x : Str) | brace (r : CRow)
inductive CNuc where
  | sym (x : Str) | group (r : CRow) | frac (o u : CArg) | root (r : CArg) | fence (o c : Str) (r : CRow) | grid (g : CGrid)
inductive CGrid where
  | nil | cons (c : CCells) (g : CGrid)
inductive CCells where
  | nil | cons (r : CRow) (c : CCells)
end
mutual
def CRow.ws : CRow → List Str
  | .nil => []
  | .cons i r => i.ws ++ r.ws
def CItem.ws : CItem → List Str
  | .mk n s => n.ws ++ s.ws
def CScr.ws : CScr → List Str
  | .no => []
  | .b x => "_" :: x.ws
  | .a x => "^" :: x.ws
  | .ba x y => "_" :: (x.ws ++ ("^" : Str) :: y.ws)
  | .ab x y => "^" :: (x.ws ++ ("_" : Str) :: y.ws)
def CArg.ws : CArg → List Str
  | .one x => [x]
  | .brace r => "{" :: (r.ws ++ [("}" : Str)])
def CNuc.ws : CNuc → List Str
  | .sym x => [x]
  | .group r => "{" :: (r.ws ++ [("}" : Str)])
  | .frac o u => "@frac" :: (o.ws ++ u.ws)
  | .root r => "@root" :: r.ws
  | .fence o c r => "@left" :: o :: (r.ws ++ [("@right" : Str), c])
  | .grid g => "@grid" :: (g.ws "{" ++ [("}" : Str)])
def CGrid.ws (s : Str) : CGrid → List Str
  | .nil => []
  | .cons c g => c.ws s ++ g.ws "~"
def CCells.ws (s : Str) : CCells → List Str
  | .nil => []
  | .cons r c => s :: (r.ws ++ c.ws "&")
end
def optW (x : Str) : Option Str := if x = "." then none else some x
mutual
def CRow.f : CRow → FRow
  | .nil => .nil
  | .cons i r => .cons i.f r.f
def CItem.f : CItem → FItem
  | .mk n s => .mk n.f s.lo s.hi
def CScr.lo : CScr → FScr
  | .no => .no
  | .b x => .yes x.f
  | .a _ => .no
  | .ba x _ => .yes x.f
  | .ab _ y => .yes y.f
def CScr.hi : CScr → FScr
  | .no => .no
  | .b _ => .no
  | .a x => .yes x.f
  | .ba _ y => .yes y.f
  | .ab x _ => .yes x.f
def CArg.f : CArg → FRow
  | .one x => .cons (.mk (.sym x) .no .no) .nil
  | .brace r => r.f
def CNuc.f : CNuc → FNuc
  | .sym x => .sym x
  | .group r => .group r.f
  | .frac o u => .frac o.f u.f
  | .root r => .root r.f
  | .fence o c r => .fence (optW o) (optW c) r.f
  | .grid g => .grid g.f
def CGrid.f : CGrid → FGrid
  | .nil => .nil
  | .cons c g => .cons c.f g.f
def CCells.f : CCells → FCells
  | .nil => .nil
  | .cons r c => .cons r.f c.f
end
mutual
def CRow.h : CRow → Nat
  | .nil => 0
  | .cons i r => max i.h r.h
def CItem.h : CItem → Nat
  | .mk n s => max n.h s.h
def CScr.h : CScr → Nat
  | .no => 0
  | .b x => x.h + 1
  | .a x => x.h + 1
  | .ba x y => max (x.h + 1) (y.h + 1)
  | .ab x y => max (x.h + 1) (y.h + 1)
def CArg.h : CArg → Nat
  | .one _ => 0
  | .brace r => r.h
def CNuc.h : CNuc → Nat
  | .sym _ => 0
  | .group r => r.h + 1
  | .frac o u => max (o.h + 1) (u.h + 1)
  | .root r => r.h + 1
  | .fence _ _ r => r.h + 1
  | .grid g => g.h
def CGrid.h : CGrid → Nat
  | .nil => 0
  | .cons c g => max c.h g.h
def CCells.h : CCells → Nat
  | .nil => 0
  | .cons r c => max (r.h + 1) c.h
end
def CRow.items : CRow → List CItem
  | .nil => []
  | .cons i r => i :: r.items
def CGrid.lines : CGrid → List CCells
  | .nil => []
  | .cons c g => c :: g.lines
def CCells.rows : CCells → List CRow
  | .nil => []
  | .cons r c => r :: c.rows
def Sy (x : Str) : Prop := x.length ≤ 1000 ∧ isSymbol x = true
mutual
def CRow.ok : CRow → Prop
  | .nil => True
  | .cons i r => i.ok ∧ r.ok
def CItem.ok : CItem → Prop
  | .mk n s => n.ok ∧ s.ok
def CScr.ok : CScr → Prop
  | .no => True
  | .b x => x.ok
  | .a x => x.ok
  | .ba x y => x.ok ∧ y.ok
  | .ab x y => x.ok ∧ y.ok
def CArg.ok : CArg → Prop
  | .one x => Sy x
  | .brace r => r.ok
def CNuc.ok : CNuc → Prop
  | .sym x => Sy x
  | .group r => r.ok
  | .frac o u => o.ok ∧ u.ok
  | .root r => r.ok
  | .fence o c r => Sy o ∧ Sy c ∧ r.ok
  | .grid g => g.ok ∧ (1 ≤ g.lines.length ∧ g.lines.length ≤ 6) ∧ ∃ m, 1 ≤ m ∧ m ≤ 6 ∧ ∀ c ∈ g.lines, c.rows.length = m
def CGrid.ok : CGrid → Prop
  | .nil => True
  | .cons c g => c.ok ∧ g.ok
def CCells.ok : CCells → Prop
  | .nil => True
  | .cons r c => r.ok ∧ c.ok
end
theorem CRow.ds_eq : ∀ r : CRow, r.f.ds = r.items.map fun i => i.f.d
  | .nil => rfl
  | .cons i r => by rw [CRow.f, FRow.ds, CRow.items, List.map_cons, CRow.ds_eq r]
theorem CGrid.ds_eq : ∀ g : CGrid, g.f.ds = g.lines.map fun c => c.f.d
  | .nil => rfl
  | .cons c g => by rw [CGrid.f, FGrid.ds, CGrid.lines, List.map_cons, CGrid.ds_eq g, FCells.d]
theorem CCells.ds_eq : ∀ c : CCells, c.f.ds = c.rows.map fun r => r.f.d
  | .nil => rfl
  | .cons r c => by rw [CCells.f, FCells.ds, CCells.rows, List.map_cons, CCells.ds_eq c, FRow.d]
theorem CRow.ws_eq : ∀ r : CRow, r.ws = r.items.flatMap CItem.ws
  | .nil => rfl
  | .cons i r => by rw [CRow.ws, CRow.items, List.flatMap_cons, CRow.ws_eq r]
theorem CRow.ok_iff : ∀ {r : CRow}, r.ok ↔ ∀ i ∈ r.items, i.ok
  | .nil => by simp [CRow.ok, CRow.items]
  | .cons i r => by rw [CRow.ok, CRow.items, List.forall_mem_cons, ← CRow.ok_iff (r := r)]
theorem CCells.ok_iff : ∀ {r : CCells}, r.ok ↔ ∀ i ∈ r.rows, i.ok
  | .nil => by simp [CCells.ok, CCells.rows]
  | .cons i r => by rw [CCells.ok, CCells.rows, List.forall_mem_cons, ← CCells.ok_iff (r := r)]
theorem CGrid.ok_iff : ∀ {r : CGrid}, r.ok ↔ ∀ i ∈ r.lines, i.ok
  | .nil => by simp [CGrid.ok, CGrid.lines]
  | .cons i r => by rw [CGrid.ok, CGrid.lines, List.forall_mem_cons, ← CGrid.ok_iff (r := r)]
theorem CRow.h_le {n : Nat} : ∀ {r : CRow}, r.h ≤ n ↔ ∀ i ∈ r.items, i.h ≤ n
  | .nil => by simp [CRow.h, CRow.items]
  | .cons i r => by rw [CRow.h, CRow.items, List.forall_mem_cons, ← CRow.h_le (r := r)]; omega
theorem CCells.h_le {n : Nat} : ∀ {c : CCells}, c.h ≤ n ↔ ∀ r ∈ c.rows, r.h + 1 ≤ n
  | .nil => by simp [CCells.h, CCells.rows]
  | .cons r c => by rw [CCells.h, CCells.rows, List.forall_mem_cons, ← CCells.h_le (c := c)]; omega
theorem CGrid.h_le {n : Nat} : ∀ {c : CGrid}, c.h ≤ n ↔ ∀ r ∈ c.lines, r.h ≤ n
  | .nil => by simp [CGrid.h, CGrid.lines]
  | .cons r c => by rw [CGrid.h, CGrid.lines, List.forall_mem_cons, ← CGrid.h_le (c := c)]; omega
/-! what the words at a place are -/
def At (ws : List Str) (i : Nat) (us : List Str) : Prop := us <+: ws.drop i
section
variable {ws us vs : List Str} {x : Str} {i : Nat}
theorem at_cons : At ws i (x :: us) ↔ ws[i]? = some x ∧ At ws (i + 1) us := by
  unfold At
  constructor
  · rintro ⟨t, h⟩
    have h0 : (ws.drop i)[0]? = some x := by rw [← h]; rfl
    rw [List.getElem?_drop, Nat.add_zero] at h0
    refine ⟨h0, t, ?_⟩
    have := congrArg (List.drop 1) h
    rw [List.drop_drop] at this
    exact this
  · rintro ⟨h, t, e⟩
    refine ⟨t, ?_⟩
    have hl : i < ws.length := (List.getElem?_eq_some_iff.mp h).1
    rw [List.drop_eq_getElem_cons hl, ← e]
    have : ws[i] = x := (List.getElem?_eq_some_iff.mp h).2
    rw [this]
    rfl
theorem at_nil : At ws i [] := List.nil_prefix
theorem at_app : At ws i (us ++ vs) ↔ At ws i us ∧ At ws (i + us.length) vs := by
  induction us generalizing i with
  | nil => exact ⟨fun h => ⟨at_nil, h⟩, fun h => h.2⟩
  | cons x us ih =>
    rw [List.cons_append, at_cons, at_cons, ih, List.length_cons, show i + (us.length + 1) = i + 1 + us.length by omega]
    exact ⟨fun ⟨a, b, c⟩ => ⟨⟨a, b⟩, c⟩, fun ⟨⟨a, b⟩, c⟩ => ⟨a, b, c⟩⟩
end
/-! the first word of an item -/
def stopWs : List Str := ["end", "}", "@right", "&", "~"]
def firstOk (x : Str) : Prop := x ∉ stopWs ∧ x ≠ "_" ∧ x ≠ "^"
instance (x : Str) : Decidable (firstOk x) := inferInstanceAs (Decidable (x ∉ stopWs ∧ x ≠ "_" ∧ x ≠ "^"))
theorem sy_ne {x y : Str} (h : Sy x) (e : isSymbol y = false) : x ≠ y := fun z => by
  rw [z] at h
  rw [h.2] at e
  cases e
theorem sy_first {x : Str} (h : Sy x) : firstOk x := by
  refine ⟨fun z => ?_, sy_ne h (by decide +kernel), sy_ne h (by decide +kernel)⟩
  simp only [stopWs, List.mem_cons, List.not_mem_nil, or_false] at z
  rcases z with z | z | z | z | z <;> exact sy_ne h (by decide +kernel) z
theorem CNuc.first : ∀ {n : CNuc}, n.ok → ∃ x r, n.ws = x :: r ∧ firstOk x
  | .sym x, h => ⟨x, [], rfl, sy_first h⟩
  | .group r, h => ⟨"{", _, rfl, by decide +kernel⟩
  | .frac o u, h => ⟨"@frac", _, rfl, by decide +kernel⟩
  | .root r, h => ⟨"@root", _, rfl, by decide +kernel⟩
  | .fence o c r, h => ⟨"@left", _, rfl, by decide +kernel⟩
  | .grid g, h => ⟨"@grid", _, rfl, by decide +kernel⟩
theorem CItem.first : ∀ {n : CItem}, n.ok → ∃ x r, n.ws = x :: r ∧ firstOk x
  | .mk n s, h => by
    obtain ⟨x, r, e, f⟩ := CNuc.first h.1
    exact ⟨x, r ++ s.ws, by rw [CItem.ws, e]; rfl, f⟩
/-! the tree of a formula's normal text -/
mutual
def FRow.t : FRow → CRow
  | .nil => .nil
  | .cons i r => .cons i.t r.t
def FItem.t : FItem → CItem
  | .mk n b a => .mk n.t (scrT b.t1 a.t1)
def FScr.t1 : FScr → Option CRow
  | .no => none
  | .yes r => some r.t
def FNuc.t : FNuc → CNuc
  | .sym x => .sym x
  | .group r => .group r.t
  | .frac o u => .frac (.brace o.t) (.brace u.t)
  | .root r => .root (.brace r.t)
  | .fence o c r => .fence (delimW o) (delimW c) r.t
  | .grid g => .grid g.t
def FGrid.t : FGrid → CGrid
  | .nil => .nil
  | .cons c g => .cons c.t g.t
def FCells.t : FCells → CCells
  | .nil => .nil
  | .cons r c => .cons r.t c.t
def scrT : Option CRow → Option CRow → CScr
  | none, none => .no
  | some b, none => .b (.brace b)
  | none, some a => .a (.brace a)
  | some b, some a => .ba (.brace b) (.brace a)
end
theorem FGrid.t_lines : ∀ g : FGrid, g.t.lines = g.lines.map FCells.t
  | .nil => rfl
  | .cons c g => by rw [FGrid.t, CGrid.lines, FGrid.lines, List.map_cons, FGrid.t_lines g]
theorem FCells.t_rows : ∀ g : FCells, g.t.rows = g.rows.map FRow.t
  | .nil => rfl
  | .cons c g => by rw [FCells.t, CCells.rows, FCells.rows, List.map_cons, FCells.t_rows g]
section
variable {P : Str → Prop} {D : Option Str → Prop}
mutual
theorem FRow.t_ws : ∀ r : FRow, r.t.ws = r.words
  | .nil => rfl
  | .cons i r => by rw [FRow.t, CRow.ws, FRow.words, FItem.t_ws i, FRow.t_ws r]
theorem FItem.t_ws : ∀ i : FItem, i.t.ws = i.words
  | .mk n .no .no => by rw [FItem.t, CItem.ws, FItem.words, FNuc.t_ws n]; rfl
  | .mk n (.yes b) .no => by
    rw [FItem.t, CItem.ws, FItem.words, FNuc.t_ws n]
    show n.words ++ (("_" : Str) :: ("{" : Str) :: (b.t.ws ++ _)) = n.words ++ (("_" : Str) :: ("{" : Str) :: (b.words ++ _) ++ [])
    rw [FRow.t_ws b, List.append_nil]
  | .mk n .no (.yes a) => by
    rw [FItem.t, CItem.ws, FItem.words, FNuc.t_ws n]
    show n.words ++ (("^" : Str) :: ("{" : Str) :: (a.t.ws ++ _)) = n.words ++ (("^" : Str) :: ("{" : Str) :: (a.words ++ _))
    rw [FRow.t_ws a]
  | .mk n (.yes b) (.yes a) => by
    rw [FItem.t, CItem.ws, FItem.words, FNuc.t_ws n]
    show n.words ++ (("_" : Str) :: ((("{" : Str) :: (b.t.ws ++ [("}" : Str)])) ++ ("^" : Str) :: ("{" : Str) :: (a.t.ws ++ [("}" : Str)]))) = n.words ++ ((("_" : Str) :: ("{" : Str) :: (b.words ++ [("}" : Str)])) ++ (("^" : Str) :: ("{" : Str) :: (a.words ++ [("}" : Str)])))
    rw [FRow.t_ws b, FRow.t_ws a]
    rfl
theorem FNuc.t_ws : ∀ n : FNuc, n.t.ws = n.words
  | .sym x => rfl
  | .group r => by show ("{" : Str) :: (r.t.ws ++ _) = ("{" : Str) :: (r.words ++ _); rw [FRow.t_ws r]
  | .frac o u => by
    show ("@frac" : Str) :: ((("{" : Str) :: (o.t.ws ++ [("}" : Str)])) ++ (("{" : Str) :: (u.t.ws ++ [("}" : Str)]))) = ("@frac" : Str) :: ("{" : Str) :: (o.words ++ (("}" : Str) :: ("{" : Str) :: (u.words ++ [("}" : Str)])))
    rw [FRow.t_ws o, FRow.t_ws u]
    simp
  | .root r => by show ("@root" : Str) :: ("{" : Str) :: (r.t.ws ++ _) = ("@root" : Str) :: ("{" : Str) :: (r.words ++ _); rw [FRow.t_ws r]
  | .fence o c r => by show ("@left" : Str) :: delimW o :: (r.t.ws ++ _) = ("@left" : Str) :: delimW o :: (r.words ++ _); rw [FRow.t_ws r]
  | .grid g => by show ("@grid" : Str) :: (g.t.ws "{" ++ _) = ("@grid" : Str) :: (g.words "{" ++ _); rw [FGrid.t_ws g]
theorem FGrid.t_ws : ∀ (g : FGrid) {s : Str}, g.t.ws s = g.words s
  | .nil, s => rfl
  | .cons c g, s => by rw [FGrid.t, CGrid.ws, FGrid.words, FCells.t_ws c, FGrid.t_ws g]
theorem FCells.t_ws : ∀ (g : FCells) {s : Str}, g.t.ws s = g.words s
  | .nil, s => rfl
  | .cons c g, s => by rw [FCells.t, CCells.ws, FCells.words, FRow.t_ws c, FCells.t_ws g]
end
mutual
theorem FRow.t_h : ∀ r : FRow, r.t.h = r.dep
  | .nil => rfl
  | .cons i r => by rw [FRow.t, CRow.h, FRow.dep, FItem.t_h i, FRow.t_h r]
theorem FItem.t_h : ∀ i : FItem, i.t.h = i.dep
  | .mk n .no .no => by rw [FItem.t, CItem.h, FItem.dep, FNuc.t_h n]; rfl
  | .mk n (.yes b) .no => by
    rw [FItem.t, CItem.h, FItem.dep, FNuc.t_h n]
    show max n.dep (b.t.h + 1) = max n.dep (max (b.dep + 1) 0)
    rw [FRow.t_h b]
    omega
  | .mk n .no (.yes a) => by
    rw [FItem.t, CItem.h, FItem.dep, FNuc.t_h n]
    show max n.dep (a.t.h + 1) = max n.dep (max 0 (a.dep + 1))
    rw [FRow.t_h a]
    omega
  | .mk n (.yes b) (.yes a) => by
    rw [FItem.t, CItem.h, FItem.dep, FNuc.t_h n]
    show max n.dep (max (b.t.h + 1) (a.t.h + 1)) = max n.dep (max (b.dep + 1) (a.dep + 1))
    rw [FRow.t_h b, FRow.t_h a]
theorem FNuc.t_h : ∀ n : FNuc, n.t.h = n.dep
  | .sym x => rfl
  | .group r => by show r.t.h + 1 = r.dep + 1; rw [FRow.t_h r]
  | .frac o u => by show max (o.t.h + 1) (u.t.h + 1) = max (o.dep + 1) (u.dep + 1); rw [FRow.t_h o, FRow.t_h u]
  | .root r => by show r.t.h + 1 = r.dep + 1; rw [FRow.t_h r]
  | .fence o c r => by show r.t.h + 1 = r.dep + 1; rw [FRow.t_h r]
  | .grid g => by show g.t.h = g.dep; rw [FGrid.t_h g]
theorem FGrid.t_h : ∀ (g : FGrid), g.t.h = g.dep
  | .nil => rfl
  | .cons c g => by rw [FGrid.t, CGrid.h, FGrid.dep, FCells.t_h c, FGrid.t_h g]
theorem FCells.t_h : ∀ (g : FCells), g.t.h = g.dep
  | .nil => rfl
  | .cons c g => by rw [FCells.t, CCells.h, FCells.dep, FRow.t_h c, FCells.t_h g]
end
mutual
theorem FRow.t_f (hD : ∀ o, D o → optW (delimW o) = o) : ∀ r : FRow, r.good P D → r.t.f = r
  | .nil, _ => rfl
  | .cons i r, g => by rw [FRow.t, CRow.f, FItem.t_f hD i g.1, FRow.t_f hD r g.2]
theorem FItem.t_f (hD : ∀ o, D o → optW (delimW o) = o) : ∀ i : FItem, i.good P D → i.t.f = i
  | .mk n .no .no, g => by rw [FItem.t, CItem.f, FNuc.t_f hD n g.1]; rfl
  | .mk n (.yes b) .no, g => by
    rw [FItem.t, CItem.f, FNuc.t_f hD n g.1]
    show FItem.mk n (.yes b.t.f) .no = _
    rw [FRow.t_f hD b g.2.1]
  | .mk n .no (.yes a), g => by
    rw [FItem.t, CItem.f, FNuc.t_f hD n g.1]
    show FItem.mk n .no (.yes a.t.f) = _
    rw [FRow.t_f hD a g.2.2]
  | .mk n (.yes b) (.yes a), g => by
    rw [FItem.t, CItem.f, FNuc.t_f hD n g.1]
    show FItem.mk n (.yes b.t.f) (.yes a.t.f) = _
    rw [FRow.t_f hD b g.2.1, FRow.t_f hD a g.2.2]
theorem FNuc.t_f (hD : ∀ o, D o → optW (delimW o) = o) : ∀ n : FNuc, n.good P D → n.t.f = n
  | .sym x, _ => rfl
  | .group r, g => by show FNuc.group r.t.f = _; rw [FRow.t_f hD r g]
  | .frac o u, g => by show FNuc.frac o.t.f u.t.f = _; rw [FRow.t_f hD o g.1, FRow.t_f hD u g.2]
  | .root r, g => by show FNuc.root r.t.f = _; rw [FRow.t_f hD r g]
  | .fence o c r, g => by show FNuc.fence (optW (delimW o)) (optW (delimW c)) r.t.f = _; rw [FRow.t_f hD r g.2.2, hD o g.1, hD c g.2.1]
  | .grid g, h => by show FNuc.grid g.t.f = _; rw [FGrid.t_f hD g h.1]
theorem FGrid.t_f (hD : ∀ o, D o → optW (delimW o) = o) : ∀ (g : FGrid), g.good P D → g.t.f = g
  | .nil, _ => rfl
  | .cons c g, h => by rw [FGrid.t, CGrid.f, FCells.t_f hD c h.1, FGrid.t_f hD g h.2]
theorem FCells.t_f (hD : ∀ o, D o → optW (delimW o) = o) : ∀ (g : FCells), g.good P D → g.t.f = g
  | .nil, _ => rfl
  | .cons c g, h => by rw [FCells.t, CCells.f, FRow.t_f hD c h.1, FCells.t_f hD g h.2]
end
mutual
theorem FRow.t_ok (hP : ∀ x, P x → Sy x) (hD : ∀ o, D o → Sy (delimW o)) : ∀ r : FRow, r.good P D → r.t.ok
  | .nil, _ => trivial
  | .cons i r, g => ⟨FItem.t_ok hP hD i g.1, FRow.t_ok hP hD r g.2⟩
theorem FItem.t_ok (hP : ∀ x, P x → Sy x) (hD : ∀ o, D o → Sy (delimW o)) : ∀ i : FItem, i.good P D → i.t.ok
  | .mk n .no .no, g => ⟨FNuc.t_ok hP hD n g.1, trivial⟩
  | .mk n (.yes b) .no, g => ⟨FNuc.t_ok hP hD n g.1, FRow.t_ok hP hD b g.2.1⟩
  | .mk n .no (.yes a), g => ⟨FNuc.t_ok hP hD n g.1, FRow.t_ok hP hD a g.2.2⟩
  | .mk n (.yes b) (.yes a), g => ⟨FNuc.t_ok hP hD n g.1, FRow.t_ok hP hD b g.2.1, FRow.t_ok hP hD a g.2.2⟩
theorem FNuc.t_ok (hP : ∀ x, P x → Sy x) (hD : ∀ o, D o → Sy (delimW o)) : ∀ n : FNuc, n.good P D → n.t.ok
  | .sym x, g => hP x g
  | .group r, g => FRow.t_ok hP hD r g
  | .frac o u, g => ⟨FRow.t_ok hP hD o g.1, FRow.t_ok hP hD u g.2⟩
  | .root r, g => FRow.t_ok hP hD r g
  | .fence o c r, g => ⟨hD o g.1, hD c g.2.1, FRow.t_ok hP hD r g.2.2⟩
  | .grid g, ⟨h, ⟨h1, h2⟩, m, m1, m2, h3⟩ => by
    refine ⟨FGrid.t_ok hP hD g h, ⟨by rw [FGrid.t_lines, List.length_map]; exact h1, by rw [FGrid.t_lines, List.length_map]; exact h2⟩, m, m1, m2, fun c hc => ?_⟩
    rw [FGrid.t_lines] at hc
    obtain ⟨c0, hc0, rfl⟩ := List.mem_map.mp hc
    rw [FCells.t_rows, List.length_map]
    exact h3 c0 hc0
theorem FGrid.t_ok (hP : ∀ x, P x → Sy x) (hD : ∀ o, D o → Sy (delimW o)) : ∀ (g : FGrid), g.good P D → g.t.ok
  | .nil, _ => trivial
  | .cons c g, h => ⟨FCells.t_ok hP hD c h.1, FGrid.t_ok hP hD g h.2⟩
theorem FCells.t_ok (hP : ∀ x, P x → Sy x) (hD : ∀ o, D o → Sy (delimW o)) : ∀ (g : FCells), g.good P D → g.t.ok
  | .nil, _ => trivial
  | .cons c g, h => ⟨FRow.t_ok hP hD c h.1, FCells.t_ok hP hD g h.2⟩
end
end
end
end Mg
namespace Mg.Pm
section
set_option Elab.async false
set_option linter.all false
set_option maxRecDepth 100000
set_option maxHeartbeats 1000000
open PySem
/-! what the Reader makes of any words: a row, a fault at a place, or too deep (by places in the list of words) -/
inductive Out (α : Type) where
  | ok (a : α) (i : Nat)
  | bad (i : Nat)
  | deep
def Out.bind {α β : Type} (o : Out α) (f : α → Nat → Out β) : Out β := match o with
  | .ok a i => f a i
  | .bad i => .bad i
  | .deep => .deep
abbrev RowR := List Str → Nat → Out FRow
def one (x : Str) : FRow := .cons (.mk (.sym x) .no .no) .nil
section
variable (sy : Str → Bool) (ws : List Str)
def hd (i : Nat) : Str := ws.getD i ""
def acc (w : Str) (i : Nat) : Out Unit := if hd ws i = w then .ok () (i + 1) else .bad i
def symO (i : Nat) : Out Str := if sy (hd ws i) = true then .ok (hd ws i) (i + 1) else .bad i
def bracedO (R : RowR) (i : Nat) : Out FRow := (acc ws "{" i).bind fun _ j => (R ["}"] j).bind fun r k => (acc ws "}" k).bind fun _ l => .ok r l
def argO (R : RowR) (dp : Bool) (i : Nat) : Out FRow := if hd ws i = "{" then bracedO ws R i else (symO sy ws i).bind fun x j => if dp = true then .deep else .ok (one x) j
def delO (i : Nat) : Out (Option Str) := (symO sy ws i).bind fun x j => .ok (if x = "." then none else some x) j
def fenceO (R : RowR) (i : Nat) : Out FNuc := (acc ws "@left" i).bind fun _ a => (delO sy ws a).bind fun o b => (R ["@right"] b).bind fun r c => (acc ws "@right" c).bind fun _ d => (delO sy ws d).bind fun q e => .ok (.fence o q r) e
def stopsC (count : Nat) (many : Option Nat) (ends : List Str) : List Str := match many with
  | none => if count < 6 then "&" :: ends else ends
  | some m => if count < m then ["&"] else ends
def cellsO (R : RowR) (many : Option Nat) (ends : List Str) : Nat → Nat → Nat → Out FCells
  | 0, _, i => .bad i
  | n + 1, c, i => (R (stopsC c many ends) i).bind fun r j => if hd ws j = "&" then (cellsO R many ends n (c + 1) (j + 1)).bind fun cs k => .ok (.cons r cs) k else .ok (.cons r .nil) j
def cLen : FCells → Nat
  | .nil => 0
  | .cons _ c => cLen c + 1
def gridR (R : RowR) (m : Nat) : Nat → Nat → Nat → Out FGrid
  | 0, _, i => .bad i
  | n + 1, k, i => if hd ws i = "~" then (cellsO ws R (some m) (if k + 1 < 6 then ["~", "}"] else ["}"]) (ws.length + 1) 1 (i + 1)).bind fun cs j => (gridR R m n (k + 1) j).bind fun g l => .ok (.cons cs g) l else .ok .nil i
def gridO (R : RowR) (i : Nat) : Out FNuc := (acc ws "@grid" i).bind fun _ a => (acc ws "{" a).bind fun _ b => (cellsO ws R none ["~", "}"] (ws.length + 1) 1 b).bind fun cs c => (gridR ws R (cLen cs) (ws.length + 1) 1 c).bind fun g d => (acc ws "}" d).bind fun _ e => .ok (.grid (.cons cs g)) e
def nucO (R : RowR) (dp : Bool) (i : Nat) : Out FNuc :=
  if hd ws i = "{" then (bracedO ws R i).bind fun r j => .ok (.group r) j
  else if hd ws i = "@frac" then (argO sy ws R dp (i + 1)).bind fun o j => (argO sy ws R dp j).bind fun u k => .ok (.frac o u) k
  else if hd ws i = "@root" then (argO sy ws R dp (i + 1)).bind fun r j => .ok (.root r) j
  else if hd ws i = "@left" then fenceO sy ws R i
  else if hd ws i = "@grid" then gridO ws R i
  else (symO sy ws i).bind fun x j => .ok (.sym x) j
def isNo : FScr → Bool
  | .no => true
  | .yes _ => false
def scrsO (R : RowR) (dp : Bool) : Nat → FScr → FScr → Nat → Out (FScr × FScr)
  | 0, b, a, i => .ok (b, a) i
  | n + 1, b, a, i => if hd ws i = "_" ∧ isNo b = true then (argO sy ws R dp (i + 1)).bind fun r j => scrsO R dp n (.yes r) a j
    else if hd ws i = "^" ∧ isNo a = true then (argO sy ws R dp (i + 1)).bind fun r j => scrsO R dp n b (.yes r) j
    else .ok (b, a) i
def itemO (R : RowR) (dp : Bool) (i : Nat) : Out FItem := (nucO sy ws R dp i).bind fun n j => (scrsO sy ws R dp 3 .no .no j).bind fun p k => .ok (.mk n p.1 p.2) k
def rowL (R : RowR) (dp : Bool) (st : List Str) : Nat → Nat → Out FRow
  | 0, i => .bad i
  | n + 1, i => if hd ws i ∈ st then .ok .nil i else (itemO sy ws R dp i).bind fun it j => (rowL R dp st n j).bind fun r k => .ok (.cons it r) k
/-- the row at depth 8 - k -/
def rowAt : Nat → RowR
  | 0 => fun _ _ => .deep
  | k + 1 => fun st i => rowL sy ws (rowAt k) (k == 0) st (ws.length + 1) i
def readO : Out FRow := rowAt sy ws 8 ["end"] 0
/-! places go on, and stay in the list -/
/-- what ends after i, in the list -/
def Fwd {α : Type} (i : Nat) (o : Out α) : Prop := match o with
  | .ok _ j => i < j ∧ j < ws.length
  | .bad j => i ≤ j ∧ j < ws.length
  | .deep => True
/-- what ends at i or after it, in the list -/
def Fwe {α : Type} (i : Nat) (o : Out α) : Prop := match o with
  | .ok _ j => i ≤ j ∧ j < ws.length
  | .bad j => i ≤ j ∧ j < ws.length
  | .deep => True
theorem Fwd.e {α : Type} {i : Nat} {o : Out α} (h : Fwd ws i o) : Fwe ws i o := by
  cases o with
  | ok a j => exact ⟨Nat.le_of_lt h.1, h.2⟩
  | bad j => exact h
  | deep => trivial
theorem fwd_bind {α β : Type} {i : Nat} {o : Out α} {f : α → Nat → Out β} (h : Fwd ws i o) (k : ∀ a j, i < j → j < ws.length → Fwe ws j (f a j)) : Fwd ws i (o.bind f) := by
  cases o with
  | ok a j =>
    have := k a j h.1 h.2
    show Fwd ws i (f a j)
    cases e : f a j with
    | ok b l => rw [e] at this; exact ⟨Nat.lt_of_lt_of_le h.1 this.1, this.2⟩
    | bad l => rw [e] at this; exact ⟨Nat.le_trans (Nat.le_of_lt h.1) this.1, this.2⟩
    | deep => trivial
  | bad j => exact h
  | deep => trivial
theorem fwe_bind {α β : Type} {i : Nat} {o : Out α} {f : α → Nat → Out β} (h : Fwe ws i o) (k : ∀ a j, i ≤ j → j < ws.length → Fwe ws j (f a j)) : Fwe ws i (o.bind f) := by
  cases o with
  | ok a j =>
    have := k a j h.1 h.2
    show Fwe ws i (f a j)
    cases e : f a j with
    | ok b l => rw [e] at this; exact ⟨Nat.le_trans h.1 this.1, this.2⟩
    | bad l => rw [e] at this; exact ⟨Nat.le_trans h.1 this.1, this.2⟩
    | deep => trivial
  | bad j => exact h
  | deep => trivial
/-- the last word is no symbol and is never taken -/
structure Ends (sy : Str → Bool) (ws : List Str) : Prop where
  last : ∀ i, i < ws.length → (hd ws i = "end" ∨ hd ws i = "bad") ∨ i + 1 < ws.length
  ne : sy "end" = false
  nb : sy "bad" = false
variable {sy ws}
theorem acc_fwd (E : Ends sy ws) {w : Str} (h1 : w ≠ "end") (h2 : w ≠ "bad") {i : Nat} (h : i < ws.length) : Fwd ws i (acc ws w i) := by
  unfold acc
  by_cases c : hd ws i = w
  · rw [if_pos c]
    refine ⟨by omega, ?_⟩
    rcases E.last i h with (z | z) | z
    · exact absurd (c.symm.trans z) h1
    · exact absurd (c.symm.trans z) h2
    · exact z
  · rw [if_neg c]
    exact ⟨Nat.le_refl _, h⟩
theorem sym_fwd (E : Ends sy ws) {i : Nat} (h : i < ws.length) : Fwd ws i (symO sy ws i) := by
  unfold symO
  by_cases c : sy (hd ws i) = true
  · rw [if_pos c]
    refine ⟨by omega, ?_⟩
    rcases E.last i h with (z | z) | z
    · rw [z, E.ne] at c
      cases c
    · rw [z, E.nb] at c
      cases c
    · exact z
  · rw [if_neg c]
    exact ⟨Nat.le_refl _, h⟩
def RFwe (ws : List Str) (R : RowR) : Prop := ∀ st i, i < ws.length → Fwe ws i (R st i)
section
variable {R : RowR} (E : Ends sy ws) (hR : RFwe ws R)
include E hR
theorem braced_fwd {i : Nat} (h : i < ws.length) : Fwd ws i (bracedO ws R i) := by
  unfold bracedO
  refine fwd_bind ws (acc_fwd E (by decide +kernel) (by decide +kernel) h) fun _ j hj hl => ?_
  refine fwe_bind ws (hR _ j hl) fun r k hk kl => ?_
  exact fwe_bind ws (acc_fwd E (by decide +kernel) (by decide +kernel) kl).e fun _ l a b => ⟨Nat.le_refl _, b⟩
theorem arg_fwd {dp : Bool} {i : Nat} (h : i < ws.length) : Fwd ws i (argO sy ws R dp i) := by
  unfold argO
  by_cases c : hd ws i = "{"
  · rw [if_pos c]
    exact braced_fwd E hR h
  · rw [if_neg c]
    refine fwd_bind ws (sym_fwd E h) fun x j hj hl => ?_
    cases dp with
    | true => exact trivial
    | false => exact ⟨Nat.le_refl _, hl⟩
omit hR in
theorem del_fwd {i : Nat} (h : i < ws.length) : Fwd ws i (delO sy ws i) := fwd_bind ws (sym_fwd E h) fun x j hj hl => ⟨Nat.le_refl _, hl⟩
theorem fence_fwd {i : Nat} (h : i < ws.length) : Fwd ws i (fenceO sy ws R i) := by
  unfold fenceO
  refine fwd_bind ws (acc_fwd E (by decide +kernel) (by decide +kernel) h) fun _ a ha al => ?_
  refine fwe_bind ws (del_fwd E al).e fun o b hb bl => ?_
  refine fwe_bind ws (hR _ b bl) fun r c hc cl => ?_
  refine fwe_bind ws (acc_fwd E (by decide +kernel) (by decide +kernel) cl).e fun _ d hd' dl => ?_
  exact fwe_bind ws (del_fwd E dl).e fun q e he el => ⟨Nat.le_refl _, el⟩
omit hR in
/-- a word that is no last one is followed by another -/
theorem hd_next {w : Str} (h1 : w ≠ "end") (h2 : w ≠ "bad") {i : Nat} (h : i < ws.length) (e : hd ws i = w) : i + 1 < ws.length := by
  rcases E.last i h with (z | z) | z
  · exact absurd (e.symm.trans z) h1
  · exact absurd (e.symm.trans z) h2
  · exact z
theorem cells_fwe {many : Option Nat} {ends : List Str} : ∀ (n c i : Nat), i < ws.length → Fwe ws i (cellsO ws R many ends n c i)
  | 0, _, i, h => ⟨Nat.le_refl _, h⟩
  | n + 1, c, i, h => by
    unfold cellsO
    refine fwe_bind ws (hR _ i h) fun r j hj jl => ?_
    by_cases e : hd ws j = "&"
    · rw [if_pos e]
      have nx := hd_next E (by decide +kernel) (by decide +kernel) jl e
      have := fwe_bind ws (o := cellsO ws R many ends n (c + 1) (j + 1)) (cells_fwe n (c + 1) (j + 1) nx) (f := fun cs k => Out.ok (FCells.cons r cs) k) fun cs k hk kl => ⟨Nat.le_refl _, kl⟩
      cases e2 : (cellsO ws R many ends n (c + 1) (j + 1)).bind fun cs k => Out.ok (FCells.cons r cs) k with
      | ok a k => rw [e2] at this; exact ⟨by have := this.1; omega, this.2⟩
      | bad k => rw [e2] at this; exact ⟨by have := this.1; omega, this.2⟩
      | deep => trivial
    · rw [if_neg e]
      exact ⟨Nat.le_refl _, jl⟩
theorem gridR_fwe {m : Nat} : ∀ (n k i : Nat), i < ws.length → Fwe ws i (gridR ws R m n k i)
  | 0, _, i, h => ⟨Nat.le_refl _, h⟩
  | n + 1, k, i, h => by
    unfold gridR
    by_cases e : hd ws i = "~"
    · rw [if_pos e]
      have nx := hd_next E (by decide +kernel) (by decide +kernel) h e
      have := fwe_bind ws (cells_fwe E hR (many := some m) (ends := if k + 1 < 6 then ["~", "}"] else ["}"]) (ws.length + 1) 1 (i + 1) nx) (f := fun cs j => (gridR ws R m n (k + 1) j).bind fun g l => Out.ok (FGrid.cons cs g) l) fun cs j hj jl => fwe_bind ws (gridR_fwe n (k + 1) j jl) fun g l hl ll => ⟨Nat.le_refl _, ll⟩
      cases e2 : (cellsO ws R (some m) (if k + 1 < 6 then ["~", "}"] else ["}"]) (ws.length + 1) 1 (i + 1)).bind (fun cs j => (gridR ws R m n (k + 1) j).bind fun g l => Out.ok (FGrid.cons cs g) l) with
      | ok a k => rw [e2] at this; exact ⟨by have := this.1; omega, this.2⟩
      | bad k => rw [e2] at this; exact ⟨by have := this.1; omega, this.2⟩
      | deep => trivial
    · rw [if_neg e]
      exact ⟨Nat.le_refl _, h⟩
theorem grid_fwd {i : Nat} (h : i < ws.length) : Fwd ws i (gridO ws R i) := by
  unfold gridO
  refine fwd_bind ws (acc_fwd E (by decide +kernel) (by decide +kernel) h) fun _ a ha al => ?_
  refine fwe_bind ws (acc_fwd E (by decide +kernel) (by decide +kernel) al).e fun _ b hb bl => ?_
  refine fwe_bind ws (cells_fwe E hR _ _ b bl) fun cs c hc cl => ?_
  refine fwe_bind ws (gridR_fwe E hR _ _ c cl) fun g d hd' dl => ?_
  exact fwe_bind ws (acc_fwd E (by decide +kernel) (by decide +kernel) dl).e fun _ e he el => ⟨Nat.le_refl _, el⟩
theorem nuc_fwd {dp : Bool} {i : Nat} (h : i < ws.length) : Fwd ws i (nucO sy ws R dp i) := by
  unfold nucO
  have step : ∀ {α : Type} {o : Out α}, i + 1 < ws.length → Fwe ws (i + 1) o → Fwd ws i o := fun {α o} nx f => by
    cases o with
    | ok a j => exact ⟨by have := f.1; omega, f.2⟩
    | bad j => exact ⟨by have := f.1; omega, f.2⟩
    | deep => trivial
  by_cases c1 : hd ws i = "{"
  · rw [if_pos c1]
    exact fwd_bind ws (braced_fwd E hR h) fun r j _ jl => ⟨Nat.le_refl _, jl⟩
  rw [if_neg c1]
  by_cases c2 : hd ws i = "@frac"
  · rw [if_pos c2]
    have nx := hd_next E (by decide +kernel) (by decide +kernel) h c2
    exact step nx (fwe_bind ws (arg_fwd E hR nx).e fun o j _ jl => fwe_bind ws (arg_fwd E hR jl).e fun u k _ kl => ⟨Nat.le_refl _, kl⟩)
  rw [if_neg c2]
  by_cases c3 : hd ws i = "@root"
  · rw [if_pos c3]
    have nx := hd_next E (by decide +kernel) (by decide +kernel) h c3
    exact step nx (fwe_bind ws (arg_fwd E hR nx).e fun o j _ jl => ⟨Nat.le_refl _, jl⟩)
  rw [if_neg c3]
  by_cases c4 : hd ws i = "@left"
  · rw [if_pos c4]
    exact fence_fwd E hR h
  rw [if_neg c4]
  by_cases c5 : hd ws i = "@grid"
  · rw [if_pos c5]
    exact grid_fwd E hR h
  rw [if_neg c5]
  exact fwd_bind ws (sym_fwd E h) fun x j _ jl => ⟨Nat.le_refl _, jl⟩
theorem scrs_fwe {dp : Bool} : ∀ (n : Nat) (b a : FScr) (i : Nat), i < ws.length → Fwe ws i (scrsO sy ws R dp n b a i)
  | 0, _, _, i, h => ⟨Nat.le_refl _, h⟩
  | n + 1, b, a, i, h => by
    unfold scrsO
    have step : ∀ {α : Type} {o : Out α}, Fwe ws (i + 1) o → Fwe ws i o := fun {α o} f => by
      cases o with
      | ok a j => exact ⟨by have := f.1; omega, f.2⟩
      | bad j => exact ⟨by have := f.1; omega, f.2⟩
      | deep => trivial
    by_cases c1 : hd ws i = "_" ∧ isNo b = true
    · rw [if_pos c1]
      have nx := hd_next E (by decide +kernel) (by decide +kernel) h c1.1
      exact step (fwe_bind ws (arg_fwd E hR nx).e fun r j _ jl => scrs_fwe n _ _ j jl)
    rw [if_neg c1]
    by_cases c2 : hd ws i = "^" ∧ isNo a = true
    · rw [if_pos c2]
      have nx := hd_next E (by decide +kernel) (by decide +kernel) h c2.1
      exact step (fwe_bind ws (arg_fwd E hR nx).e fun r j _ jl => scrs_fwe n _ _ j jl)
    rw [if_neg c2]
    exact ⟨Nat.le_refl _, h⟩
theorem item_fwd {dp : Bool} {i : Nat} (h : i < ws.length) : Fwd ws i (itemO sy ws R dp i) := fwd_bind ws (nuc_fwd E hR h) fun n j _ jl => fwe_bind ws (scrs_fwe E hR 3 _ _ j jl) fun p k _ kl => ⟨Nat.le_refl _, kl⟩
theorem rowL_fwe {dp : Bool} {st : List Str} : ∀ (n i : Nat), i < ws.length → Fwe ws i (rowL sy ws R dp st n i)
  | 0, i, h => ⟨Nat.le_refl _, h⟩
  | n + 1, i, h => by
    unfold rowL
    by_cases c : hd ws i ∈ st
    · rw [if_pos c]
      exact ⟨Nat.le_refl _, h⟩
    · rw [if_neg c]
      exact fwe_bind ws (item_fwd E hR h).e fun it j _ jl => fwe_bind ws (rowL_fwe n j jl) fun r k _ kl => ⟨Nat.le_refl _, kl⟩
end
theorem rowAt_fwe (E : Ends sy ws) : ∀ k, RFwe ws (rowAt sy ws k)
  | 0 => fun _ _ _ => trivial
  | k + 1 => fun st i h => rowL_fwe E (rowAt_fwe E k) _ i h
end
end
end Mg.Pm
namespace Mg
section
set_option Elab.async false
set_option linter.all false
set_option maxRecDepth 100000
set_option maxHeartbeats 1000000
open PySem L2
abbrev sNucRows : Stmt := top 32
abbrev sRowsIn : Stmt := top 31
abbrev sRowsOf : Stmt := top 30
abbrev sRowWords : Stmt := top 35
abbrev sNucWords : Stmt := top 36
abbrev sBraced : Stmt := top 37
abbrev sFenceW : Stmt := top 38
abbrev sGridW : Stmt := top 39
section
variable {P : Program} {w : World} {K : PySem.W.Frag} {mg : Str → Option Value} {base : Heap}
def spNucRows (K : PySem.W.Frag) : Sp := spRL K fun ds es => ∃ n : FNuc, ds = [n.d] ∧ es = n.rows.map FRow.d ∧ n.words.length ≤ 100000
theorem scNucRows : FnScope ["nucleus", "kind", "cells", "cell"] ["nucleus"] (defScope sNucRows) := ⟨rfl, rfl, rfl, by decide +kernel, rfl, by decide +kernel, by decide +kernel⟩
theorem ok_nucrows {f : Addr} {fd : FuncData} (F : Fun K "nucleus_rows" "nucleus_rows" sNucRows f fd) : FnOk P w K mg base CX0 1 f fd ["nucleus"] (spNucRows K) := by
  have sc := scNucRows
  refine F.ok scNucRows (fun vs H Q E h => ?_) (fun cdv A outer s H vs Q E hr h => ?_)
  · obtain ⟨ds, es, l, ⟨n, rfl, _⟩, _⟩ := h
    exact l.len
  · obtain ⟨ds, es, l, ⟨n, rfl, rfl, bnd⟩, k⟩ := h
    cases l with
    | cons t l => cases l with
    | nil =>
    refine ⟨_, (pss_cons (ps_set (i := 1) sc.nd rfl (Or.inl rfl) (pe_ix ix_tup (pv 0) pe_int (fun _ _ => rfl)))
  (pss_cons (ps_if (pt_cmpR op_eq (pv 1) pe_str (nomark _))
  (pss_one (ps_ret (pe_lst pa_nil)))
  pss_nil)
  (pss_cons (ps_if (pt_cmpR op_eq (pv 1) pe_str (nomark _))
  (pss_one (ps_ret (pe_lst (pa_cons (pe_ix ix_tup (pv 0) pe_int (fun _ _ => rfl)) (pa_cons (pe_ix ix_tup (pv 0) pe_int (fun _ _ => rfl)) pa_nil)))))
  pss_nil)
  (pss_cons (ps_if (pt_cmpR op_eq (pv 1) pe_str (nomark _))
  (pss_one (ps_ret (pe_lst (pa_cons (pe_ix ix_tup (pv 0) pe_int (fun _ _ => rfl)) pa_nil))))
  pss_nil)
  (pss_cons (ps_if (pt_cmpR op_eq (pv 1) pe_str (nomark _))
  (pss_one (ps_ret (pe_lc2 (own := [("cells", 2), ("cell", 3)]) (vs1 := [3]) (wi1 := iTup K (tVar 2)) rfl sc.nd (pi_tup (pe_ix ix_tup (pv 0) pe_int (fun _ _ => rfl))) (blkOk_by (own := [("cells", 2), ("cell", 3)]) (N := ["nucleus", "kind", "cells", "cell"]) (sc := defScope sNucRows) (by decide +kernel)) (by decide) (fun _ _ _ _ _ => (pg_name (i := 2) sc.nd rfl (Or.inl rfl))) (fun _ _ _ _ _ => pts_nil) (fun _ _ _ _ _ => (pi_tup (pv 2))) (fun _ _ _ _ _ => (pg_name (i := 3) sc.nd rfl (Or.inl rfl))) (fun _ _ _ _ _ => pts_nil) (fun _ _ _ _ _ => (pv 3)))))
  pss_nil)
  (pss_one (ps_ret (pe_lst (pa_cons (pe_ix ix_tup (pv 0) pe_int (fun _ _ => rfl)) pa_nil))))))))), ?_⟩
    cases n with
    | sym x =>
      have t : Tp K H _ (.tuple [.str "symbol", .str x]) := t
      refine q_set (e_op (e_var rfl t) e_int (r_ixT rfl)) fun kd H1 s1 tk => ?_
      obtain rfl := tp_str tk
      exact q_yesS rfl (retL k s1 (l_lst a_nil (Nat.le_of_ble_eq_true rfl)) rfl)
    | frac o u =>
      have t : Tp K H _ (.tuple [.str "frac", .tuple o.ds, .tuple u.ds]) := t
      refine q_set (e_op (e_var rfl t) e_int (r_ixT rfl)) fun kd H1 s1 tk => ?_
      obtain rfl := tp_str tk
      have t := t.stay (.of s1)
      refine q_noS rfl (by decide +kernel) (q_yesS rfl (retL k s1 (l_lst (a_cons (e_op (e_var rfl t) e_int (r_ixT rfl)) (a_cons (e_op (e_var rfl t) e_int (r_ixT rfl)) a_nil)) (Nat.le_of_ble_eq_true rfl)) rfl))
    | fence o c r =>
      have t : Tp K H _ (.tuple [.str "fence", optD o, optD c, .tuple r.ds]) := t
      refine q_set (e_op (e_var rfl t) e_int (r_ixT rfl)) fun kd H1 s1 tk => ?_
      obtain rfl := tp_str tk
      have t := t.stay (.of s1)
      refine q_noS rfl (by decide +kernel) (q_noS rfl (by decide +kernel) (q_yesS rfl (retL k s1 (l_lst (a_cons (e_op (e_var rfl t) e_int (r_ixT rfl)) a_nil) (Nat.le_of_ble_eq_true rfl)) rfl)))
    | group r =>
      have t : Tp K H _ (.tuple [.str "group", .tuple r.ds]) := t
      refine q_set (e_op (e_var rfl t) e_int (r_ixT rfl)) fun kd H1 s1 tk => ?_
      obtain rfl := tp_str tk
      have t := t.stay (.of s1)
      refine q_noS rfl (by decide +kernel) (q_noS rfl (by decide +kernel) (q_noS rfl (by decide +kernel) (q_noS rfl (by decide +kernel) (retL k s1 (l_lst (a_cons (e_op (e_var rfl t) e_int (r_ixT rfl)) a_nil) (Nat.le_of_ble_eq_true rfl)) rfl))))
    | root r =>
      have t : Tp K H _ (.tuple [.str "root", .tuple r.ds]) := t
      refine q_set (e_op (e_var rfl t) e_int (r_ixT rfl)) fun kd H1 s1 tk => ?_
      obtain rfl := tp_str tk
      have t := t.stay (.of s1)
      refine q_noS rfl (by decide +kernel) (q_noS rfl (by decide +kernel) (q_noS rfl (by decide +kernel) (q_noS rfl (by decide +kernel) (retL k s1 (l_lst (a_cons (e_op (e_var rfl t) e_int (r_ixT rfl)) a_nil) (Nat.le_of_ble_eq_true rfl)) rfl))))
    | grid g =>
      have t : Tp K H _ (.tuple [.str "grid", .tuple g.ds]) := t
      refine q_set (e_op (e_var rfl t) e_int (r_ixT rfl)) fun kd H1 s1 tk => ?_
      obtain rfl := tp_str tk
      have t := t.stay (.of s1)
      have ef : (g.lines.map fun c => c.rows.map FRow.d).flatten = (FNuc.grid g).rows.map FRow.d := by
        rw [FNuc.rows, FGrid.all_eq, List.map_flatMap, List.flatMap_def]
      have bl := nrows_len (.grid g)
      refine q_noS rfl (by decide +kernel) (q_noS rfl (by decide +kernel) (q_noS rfl (by decide +kernel) (q_yesS rfl (retL k s1 (l_is (l_lc2 (ds := g.ds) (g.lines.map fun c => c.rows.map FRow.d) (g.lines.map fun c => c.rows.map FRow.d)
        (fun H2 s2 => .tup ((e_op (e_var rfl t) e_int (r_ixT rfl)).mono s2)) (by rw [FGrid.ds_eq, List.length_map, List.length_map]) (by rw [FGrid.ds_eq, List.length_map, List.length_map]) (by rw [ef, List.length_map]; omega) (fun x => rfl) (fun x y => rfl) ?_ ?_ ?_) ef) rfl))))
      · intro i d f x H2 h1 h2 s2 tx
        rw [FGrid.ds_eq] at h1
        obtain ⟨c, hc, rfl⟩ := get_map h1
        obtain ⟨c', hc', rfl⟩ := get_map h2
        rw [hc] at hc'
        cases hc'
        refine .tup (e_var rfl ?_)
        rw [← FCells.ds_eq]
        exact tx
      · intro i f g h1 h2
        rw [h1] at h2
        cases h2
        rfl
      · intro i m d f g a e x y H2 h1 h2 h3 h4 h5 s2 tx ty
        rw [h2] at h3
        cases h3
        rw [h4] at h5
        cases h5
        exact e_var rfl ty
def spRowsIn (K : PySem.W.Frag) : Sp := spRL K fun ds es => ∃ i : FItem, ds = [i.d] ∧ es = i.rows.map FRow.d ∧ i.words.length ≤ 100000
theorem scRowsIn : FnScope ["item", "nucleus", "below", "above", "rows"] ["item"] (defScope sRowsIn) := ⟨rfl, rfl, rfl, by decide +kernel, rfl, by decide +kernel, by decide +kernel⟩
theorem ok_rowsin {f : Addr} {fd : FuncData} (F : Fun K "rows_in" "rows_in" sRowsIn f fd) (C_nucleus_rows : Cal P w K mg base CX0 1 "nucleus_rows" ["nucleus"] (spNucRows K)) : FnOk P w K mg base CX0 2 f fd ["item"] (spRowsIn K) := by
  have sc := scRowsIn
  refine F.ok scRowsIn (fun vs H Q E h => ?_) (fun cdv A outer s H vs Q E hr h => ?_)
  · obtain ⟨ds, es, l, ⟨n, rfl, _⟩, _⟩ := h
    exact l.len
  · obtain ⟨ds, es, l, ⟨i, rfl, rfl, bnd⟩, k⟩ := h
    cases l with
    | cons t l => cases l with
    | nil =>
    refine ⟨_, (pss_cons (ps_asg (pv 0) (pg_tup rfl (pgs_cons (pg_name (i := 1) sc.nd rfl (Or.inl rfl)) (pgs_cons (pg_name (i := 2) sc.nd rfl (Or.inl rfl)) (pgs_cons (pg_name (i := 3) sc.nd rfl (Or.inl rfl)) pgs_nil)))))
  (pss_cons (ps_set (i := 4) sc.nd rfl (Or.inl rfl) (pe_cal C_nucleus_rows (hr.mono (by omega)) rfl pass0 (pa_cons (pv 1) pa_nil)))
  (pss_cons (ps_if (pt_cmpR op_notN (pv 2) pe_non (nomark _))
  (pss_one (ps_expr (pe_bm PySem.F.plainAttrs_list PySem.F.slot_list_append PySem.F.type_list_append mt_append (pv 4) (pa_cons (pv 2) pa_nil))))
  pss_nil)
  (pss_cons (ps_if (pt_cmpR op_notN (pv 3) pe_non (nomark _))
  (pss_one (ps_expr (pe_bm PySem.F.plainAttrs_list PySem.F.slot_list_append PySem.F.type_list_append mt_append (pv 4) (pa_cons (pv 3) pa_nil))))
  pss_nil)
  (pss_one (ps_ret (pv 4))))))), ?_⟩
    rename_i v
    have bl := rows_len i
    cases i with
    | mk n b a =>
    have bn : n.words.length ≤ 100000 := by
      rw [FItem.words, List.length_append] at bnd
      omega
    have bl2 : n.rows.length + (b.rows.length + a.rows.length) ≤ 100000 := by
      rw [FItem.rows, List.length_append, List.length_append] at bl
      omega
    have t : Tp K H v (.tuple [n.d, b.d, a.d]) := t
    refine q_asg (e_var rfl t) fun v1 H1 s1 t1 => g_tup3 t1 fun x y z tx ty tz => ?_
    refine q_setL (l_call (a_cons (e_var rfl tx) a_nil) ⟨n, rfl, rfl, bn⟩) fun p xs H2 np s2 e l => ?_
    have A := Acc.start (s1.free np) (s1.trans s2) e l
    have ty := ty.stay (.of s2)
    have tz := tz.stay (.of s2)
    have fin : ∀ H3, TupK H2 H3 → Acc K H p (n.rows.map FRow.d ++ b.rows.map FRow.d) H3 → tSeq (tIfS (tTest (tOp (fun x y H Q => y = .non ∧ Q (.bl (!decide (x = .non))) H) (tVar 3) (tC .non))) (tDrop (tBM K "list" rAppend (tVar 4) (tCons (tVar 3) tNil))) tNext) (tRet (tVar 4)) { nx := fun _ H' => Q .non H', rt := Q } [some v, some x, some y, some z, some (.ref p)] H3 := by
      intro H3 tk A3
      have tz := tz.stay tk
      have fin2 : ∀ H4, Acc K H p ((n.rows.map FRow.d ++ b.rows.map FRow.d) ++ a.rows.map FRow.d) H4 → tRet (tVar 4) { nx := fun _ H' => Q .non H', rt := Q } [some v, some x, some y, some z, some (.ref p)] H4 := fun H4 A4 =>
        retAcc k (by rw [FItem.rows, List.map_append, List.map_append, ← List.append_assoc]; exact A4) rfl rfl
      cases a with
      | no => exact q_no (t_test (e_op (e_var rfl tz) e_non r_notN)) rfl fun H4 s4 => fin2 H4 (by rw [FScr.rows, List.map_nil, List.append_nil]; exact A3.ext s4)
      | yes r => exact q_yes (t_test (e_op (e_var rfl tz) e_non r_notN)) rfl fun H4 s4 => s_app (l := 0) rfl (A3.ext s4) (e_var rfl (tz.stay (.of s4))) (by rw [List.length_append, List.length_map, List.length_map]; omega) fun H5 _ _ A5 => fin2 H5 A5
    cases b with
    | no => exact q_no (t_test (e_op (e_var rfl ty) e_non r_notN)) rfl fun H4 s4 => fin H4 (.of s4) (by rw [FScr.rows, List.map_nil, List.append_nil]; exact A.ext s4)
    | yes r => exact q_yes (t_test (e_op (e_var rfl ty) e_non r_notN)) rfl fun H4 s4 => s_app (l := 0) rfl (A.ext s4) (e_var rfl (ty.stay (.of s4))) (by rw [List.length_map]; omega) fun H5 tk _ A5 => fin H5 ((TupK.of s4).trans tk) A5
/-! rows_of: n counts the levels -/
def spRowsOf (K : PySem.W.Frag) (n : Nat) : Sp := spRL K fun ds es => ∃ r : FRow, ds = [r.d] ∧ es = r.pre.map FRow.d ∧ r.dep < n ∧ r.words.length ≤ 100000
theorem scRowsOf : FnScope ["formula", "rows", "item", "row"] ["formula"] (defScope sRowsOf) := ⟨rfl, rfl, rfl, by decide +kernel, rfl, by decide +kernel, by decide +kernel⟩
theorem ok_rowsof1 {n : Nat} {f : Addr} {fd : FuncData} (F : Fun K "rows_of" "rows_of" sRowsOf f fd) (C_rows_in : Cal P w K mg base CX0 2 "rows_in" ["item"] (spRowsIn K)) (C_rows_of : Cal P w K mg base CX0 (n + 2) "rows_of" ["formula"] (spRowsOf K n)) : FnOk P w K mg base CX0 (n + 3) f fd ["formula"] (spRowsOf K (n + 1)) := by
  have sc := scRowsOf
  refine F.ok scRowsOf (fun vs H Q E h => ?_) (fun cdv A outer s H vs Q E hr h => ?_)
  · obtain ⟨ds, es, l, ⟨n, rfl, _⟩, _⟩ := h
    exact l.len
  · obtain ⟨ds, es, l, ⟨r, rfl, rfl, dep, bnd⟩, k⟩ := h
    cases l with
    | cons t l => cases l with
    | nil =>
    rename_i v
    refine ⟨_, (pss_cons (ps_set (i := 1) sc.nd rfl (Or.inl rfl) (pe_lst (pa_cons (pv 0) pa_nil)))
  (pss_cons (ps_for PassesOwn.never rfl (pi_tup (pv 0)) (pg_name (i := 2) sc.nd rfl (Or.inl rfl))
  (pss_one (ps_for PassesOwn.never rfl (pi_list (pe_cal C_rows_in (hr.mono (by omega)) rfl pass0 (pa_cons (pv 2) pa_nil))) (pg_name (i := 3) sc.nd rfl (Or.inl rfl))
  (pss_one (ps_expr (pe_bm PySem.F.plainAttrs_list PySem.F.slot_list_extend PySem.F.type_list_extend mt_extend (pv 1) (pa_cons (pe_cal C_rows_of (hr.mono (by omega)) rfl pass0 (pa_cons (pv 3) pa_nil)) pa_nil)))))))
  (pss_one (ps_ret (pv 1))))), ?_⟩
    have t : Tp K H v r.d := t
    have ib := inn_row r
    have er : r.d = .tuple (r.items.map FItem.d) := by rw [FRow.d, FRow.ds_eq]
    refine q_setL (l_lst (a_cons (e_var rfl t) a_nil) (Nat.le_of_ble_eq_true rfl)) fun p xs H2 np s2 e l => ?_
    have A0 := Acc.start np s2 e l
    have t := t.stay (.of s2)
    refine q_forT (ds := r.items.map FItem.d) (p := p) (e_var rfl (er ▸ t)) e (fun i σ' H' => ∃ x2 x3, σ' = [some v, some (.ref p), x2, x3] ∧ Acc K H p ((r :: (r.items.take i).flatMap FItem.inn).map FRow.d) H') (fun H3 s3 => ⟨_, _, rfl, by simpa using A0.ext s3⟩) ?_ ?_
    · rintro H3 s3 i d x σ' H' hi ⟨x2, x3, rfl, A⟩ kb tx
      obtain ⟨it, hit, rfl⟩ := get_map hi
      have hmem := List.mem_of_getElem? hit
      have w1 := words_item hmem
      have dI := FRow.dep_le.mp (Nat.le_of_lt_succ dep) it hmem
      have w2 := flat_le (f := FItem.inn) hit
      rw [← FRow.inn_eq] at w2
      have eI := FItem.inn_eq it
      obtain ⟨xs1, e1, l1⟩ := A.lst
      refine g_name ?_
      refine s_forL (p := p) (l_call (a_cons (e_var rfl tx) a_nil) ⟨it, rfl, rfl, by omega⟩) e1 (fun m σ' H' => ∃ x3, σ' = [some v, some (.ref p), some x, x3] ∧ Acc K H p ((r :: ((r.items.take i).flatMap FItem.inn ++ (it.rows.take m).flatMap FRow.pre)).map FRow.d) H') (fun H4 s4 => ⟨_, rfl, by simpa using A.ext s4⟩) ?_ ?_
      · rintro H4 s4 m d y σ' H5 hm ⟨x3, rfl, A5⟩ kb5 ty
        obtain ⟨q, hq, rfl⟩ := get_map hm
        have qm := List.mem_of_getElem? hq
        have w3 := words_rows qm
        have dq := FItem.dep_le.mp dI q qm
        have w4 := flat_le (f := FRow.pre) hq
        rw [← eI] at w4
        refine g_name ?_
        refine s_ext rfl A5 (l_call (a_cons (e_var rfl ty) a_nil) ⟨q, rfl, rfl, by omega, by omega⟩) (by simp only [List.length_map, List.length_cons, List.length_append]; omega) fun H6 tk kb6 A6 => ⟨⟨_, rfl, ?_⟩, kb5.trans kb6⟩
        rw [flat_snoc hq, ← List.append_assoc, ← List.cons_append, List.map_append]
        exact A6
      · rintro σ' H5 ⟨x3, rfl, A5⟩ kb5
        refine ⟨⟨_, _, rfl, ?_⟩, kb.trans kb5⟩
        rw [flat_snoc hit, eI]
        rw [List.length_map, List.take_length] at A5
        exact A5
    · rintro σ' H5 ⟨x2, x3, rfl, A5⟩ kb
      rw [List.length_map, List.take_length, ← FRow.inn_eq] at A5
      exact retAcc k A5 rfl rfl
theorem ok_rowsof {f : Addr} {fd : FuncData} (F : Fun K "rows_of" "rows_of" sRowsOf f fd) (C_rows_in : Cal P w K mg base CX0 2 "rows_in" ["item"] (spRowsIn K)) (hm : mg "rows_of" = some (.ref f)) (hk : PySem.W.keepIn K (.ref f) = true) (hb : Binds K fd ["formula"] []) :
    ∀ n, Cal P w K mg base CX0 (n + 2) "rows_of" ["formula"] (spRowsOf K n)
  | 0 => ⟨f, fd, FnOk.vac fun vs H Q E ⟨_, _, _, ⟨_, _, _, h, _⟩, _⟩ => Nat.not_lt_zero _ h, hm, hk, hb⟩
  | n + 1 => ⟨f, fd, ok_rowsof1 F C_rows_in (ok_rowsof F C_rows_in hm hk hb n), hm, hk, hb⟩
end
end
section
set_option Elab.async false
set_option linter.all false
set_option maxRecDepth 100000
set_option maxHeartbeats 1000000
open PySem L2
section
variable {P : Program} {w : World} {K : PySem.W.Frag} {mg : Str → Option Value} {base : Heap}
/-! the words of the normal text; n counts the levels -/
def spRowWords (K : PySem.W.Frag) (n : Nat) : Sp := spRL K fun ds es => ∃ r : FRow, ds = [r.d] ∧ es = r.words.map PyData.str ∧ r.dep < n ∧ r.words.length ≤ 100000
def spBraced (K : PySem.W.Frag) (n : Nat) : Sp := spRL K fun ds es => ∃ r : FRow, ds = [r.d] ∧ es = (braceW r).map PyData.str ∧ r.dep < n ∧ r.words.length ≤ 100000
def spFenceW (K : PySem.W.Frag) (n : Nat) : Sp := spRL K fun ds es => ∃ (o c : Option Str) (r : FRow), ds = [optD o, optD c, r.d] ∧ es = (FNuc.fence o c r).words.map PyData.str ∧ r.dep < n ∧ r.words.length ≤ 100000
def spGridW (K : PySem.W.Frag) (n : Nat) : Sp := spRL K fun ds es => ∃ g : FGrid, ds = [.tuple g.ds] ∧ es = (FNuc.grid g).words.map PyData.str ∧ g.dep ≤ n ∧ (g.words "{").length ≤ 100000
def spNucWords (K : PySem.W.Frag) (n : Nat) : Sp := spRL K fun ds es => ∃ m : FNuc, ds = [m.d] ∧ es = m.words.map PyData.str ∧ m.dep ≤ n ∧ m.words.length ≤ 100000
theorem l_strs {σ : L2.St} {H : Hp} (x : Str) : EvDL K (tLst (tCons (tC (.str x)) tNil)) σ H ([x].map PyData.str) := l_lst (a_cons e_str a_nil) (Nat.le_of_ble_eq_true rfl)
theorem scBraced : FnScope ["row"] ["row"] (defScope sBraced) := ⟨rfl, rfl, rfl, by decide +kernel, rfl, by decide +kernel, by decide +kernel⟩
theorem ok_braced {n : Nat} {f : Addr} {fd : FuncData} (F : Fun K "braced_words" "braced_words" sBraced f fd) (C_row_words : Cal P w K mg base CX0 (3 * n) "row_words" ["row"] (spRowWords K n)) : FnOk P w K mg base CX0 (3 * n + 1) f fd ["row"] (spBraced K n) := by
  have sc := scBraced
  refine F.ok scBraced (fun vs H Q E h => ?_) (fun cdv A outer s H vs Q E hr h => ?_)
  · obtain ⟨ds, es, l, ⟨n, rfl, _⟩, _⟩ := h
    exact l.len
  · obtain ⟨ds, es, l, ⟨r, rfl, rfl, dep, bnd⟩, k⟩ := h
    cases l with
    | cons t l => cases l with
    | nil =>
    refine ⟨_, (pss_one (ps_ret (pe_op op_cat (pe_op op_cat (pe_lst (pa_cons pe_str pa_nil)) (pe_cal C_row_words (hr.mono (by omega)) rfl pass0 (pa_cons (pv 0) pa_nil))) (pe_lst (pa_cons pe_str pa_nil))))), ?_⟩
    refine retL k (Same.refl _) (l_is (l_cat (l_cat (l_strs "{") (l_call (a_cons (e_var rfl t) a_nil) ⟨r, rfl, rfl, dep, bnd⟩) (by simp; omega)) (l_strs "}") (by simp; omega)) ?_) rfl
    simp [braceW]
theorem scFenceW : FnScope ["opening", "closing", "row", "first", "last"] ["opening", "closing", "row"] (defScope sFenceW) := ⟨rfl, rfl, rfl, by decide +kernel, rfl, by decide +kernel, by decide +kernel⟩
theorem none_opt (o : Option Str) : noneD (optD o) = o.isNone := by cases o <;> rfl
theorem ok_fencew {n : Nat} {f : Addr} {fd : FuncData} (F : Fun K "fence_words" "fence_words" sFenceW f fd) (C_row_words : Cal P w K mg base CX0 (3 * n) "row_words" ["row"] (spRowWords K n)) : FnOk P w K mg base CX0 (3 * n + 1) f fd ["opening", "closing", "row"] (spFenceW K n) := by
  have sc := scFenceW
  refine F.ok scFenceW (fun vs H Q E h => ?_) (fun cdv A outer s H vs Q E hr h => ?_)
  · obtain ⟨ds, es, l, ⟨_, _, _, rfl, _⟩, _⟩ := h
    exact l.len
  · obtain ⟨ds, es, l, ⟨o, c, r, rfl, rfl, dep, bnd⟩, k⟩ := h
    cases l with
    | cons to l => cases l with
    | cons tc l => cases l with
    | cons t l => cases l with
    | nil =>
    refine ⟨_, (pss_cons (ps_set (i := 3) sc.nd rfl (Or.inl rfl) (pe_ifExp (pt_cmpR op_isN (pv 0) pe_non (nomark _)) pe_str (pv 0)))
  (pss_cons (ps_set (i := 4) sc.nd rfl (Or.inl rfl) (pe_ifExp (pt_cmpR op_isN (pv 1) pe_non (nomark _)) pe_str (pv 1)))
  (pss_one (ps_ret (pe_op op_cat (pe_op op_cat (pe_lst (pa_cons pe_str (pa_cons (pv 3) pa_nil))) (pe_cal C_row_words (hr.mono (by omega)) rfl pass0 (pa_cons (pv 2) pa_nil))) (pe_lst (pa_cons pe_str (pa_cons (pv 4) pa_nil)))))))), ?_⟩
    have eo : ∀ (o : Option Str) {σ : L2.St} {i : Nat} {v : V} {H : Hp}, σ[i]? = some (some v) → Tp K H v (optD o) → EvD K (tIf (tTest (tOp (fun x y H Q => y = .non ∧ Q (.bl (decide (x = .non))) H) (tVar i) (tC .non))) (tC (.str ".")) (tVar i)) σ H (.str (delimW o)) := fun o σ i v H hv tv =>
      e_if (t_test (e_op (e_var hv tv) e_non r_isN)) (fun z => by
        rw [none_opt] at z
        cases o with
        | none => exact e_str
        | some x => cases z) (fun z => by
        rw [none_opt] at z
        cases o with
        | none => cases z
        | some x => exact e_var hv tv)
    refine q_set (eo o rfl to) fun v1 H1 s1 t1 => ?_
    refine q_set (eo c rfl (tc.stay (.of s1))) fun v2 H2 s2 t2 => ?_
    have s12 := s1.trans s2
    refine retL k s12 (l_is (es := (FNuc.fence o c r).words.map PyData.str) (l_cat (l_cat (l_lst (ds := [.str "@left", .str (delimW o)]) (a_cons e_str (a_cons (e_var rfl (t1.stay (.of s2))) a_nil)) (Nat.le_of_ble_eq_true rfl)) (l_call (a_cons (e_var rfl (t.stay (.of s12))) a_nil) ⟨r, rfl, rfl, dep, bnd⟩) (by simp; omega)) (l_lst (ds := [.str "@right", .str (delimW c)]) (a_cons e_str (a_cons (e_var rfl t2) a_nil)) (Nat.le_of_ble_eq_true rfl)) (by simp; omega)) ?_) rfl
    simp [FNuc.words]
theorem scGridW : FnScope ["rows", "words", "between", "cells", "cell"] ["rows"] (defScope sGridW) := ⟨rfl, rfl, rfl, by decide +kernel, rfl, by decide +kernel, by decide +kernel⟩
theorem cells_snoc {s : Str} : ∀ {c : FCells} {i : Nat} {q : FRow}, c.rows[i]? = some q → ((FCells.of (c.rows.take (i + 1))).words s) = (FCells.of (c.rows.take i)).words s ++ ((if i = 0 then s else "&") :: q.words)
  | .nil, _, _, h => by simp [FCells.rows] at h
  | .cons r c, 0, q, h => by
    cases Option.some.inj h
    simp [FCells.rows, FCells.of, FCells.words]
  | .cons r c, i + 1, q, h => by
    have h : c.rows[i]? = some q := h
    have e := cells_snoc (s := "&") h
    rw [FCells.rows, List.take_succ_cons, List.take_succ_cons, FCells.of, FCells.of, FCells.words, FCells.words, e, if_neg (Nat.succ_ne_zero i)]
    simp
theorem cells_take {s : Str} : ∀ {c : FCells} {i : Nat}, ((FCells.of (c.rows.take i)).words s).length ≤ (c.words s).length
  | .nil, _ => by simp [FCells.rows, FCells.of, FCells.words]
  | .cons r c, 0 => by simp [FCells.of, FCells.words]
  | .cons r c, i + 1 => by
    have := cells_take (s := "&") (c := c) (i := i)
    rw [FCells.rows, List.take_succ_cons, FCells.of, FCells.words, FCells.words]
    simp
    omega
theorem cells_of_rows : ∀ c : FCells, FCells.of c.rows = c
  | .nil => rfl
  | .cons r c => by rw [FCells.rows, FCells.of, cells_of_rows c]
theorem grid_of_lines : ∀ c : FGrid, FGrid.of c.lines = c
  | .nil => rfl
  | .cons r c => by rw [FGrid.lines, FGrid.of, grid_of_lines c]
theorem grid_snoc {s : Str} : ∀ {c : FGrid} {i : Nat} {q : FCells}, c.lines[i]? = some q → ((FGrid.of (c.lines.take (i + 1))).words s) = (FGrid.of (c.lines.take i)).words s ++ q.words (if i = 0 then s else "~")
  | .nil, _, _, h => by simp [FGrid.lines] at h
  | .cons r c, 0, q, h => by
    cases Option.some.inj h
    simp [FGrid.lines, FGrid.of, FGrid.words]
  | .cons r c, i + 1, q, h => by
    have h : c.lines[i]? = some q := h
    have e := grid_snoc (s := "~") h
    rw [FGrid.lines, List.take_succ_cons, List.take_succ_cons, FGrid.of, FGrid.of, FGrid.words, FGrid.words, e, if_neg (Nat.succ_ne_zero i)]
    simp
theorem grid_take {s : Str} : ∀ {c : FGrid} {i : Nat}, ((FGrid.of (c.lines.take i)).words s).length ≤ (c.words s).length
  | .nil, _ => by simp [FGrid.lines, FGrid.of, FGrid.words]
  | .cons r c, 0 => by simp [FGrid.of, FGrid.words]
  | .cons r c, i + 1 => by
    have := grid_take (s := "~") (c := c) (i := i)
    rw [FGrid.lines, List.take_succ_cons, FGrid.of, FGrid.words, FGrid.words]
    simp
    omega
theorem cells_words_len (s t : Str) : ∀ c : FCells, (c.words s).length = (c.words t).length
  | .nil => rfl
  | .cons r c => by rw [FCells.words, FCells.words, List.length_cons, List.length_cons]
theorem line_words : ∀ {g : FGrid} {q : FCells} {s : Str}, q ∈ g.lines → (q.words s).length ≤ (g.words s).length
  | .nil, _, _, h => nomatch h
  | .cons c g, q, s, h => by
    rw [FGrid.words, List.length_append]
    rcases List.mem_cons.mp h with rfl | h
    · omega
    · have := line_words (s := "~") h
      rw [cells_words_len s "~" q]
      omega
theorem lines_all {g : FGrid} {q : FCells} {r : FRow} (h1 : q ∈ g.lines) (h2 : r ∈ q.rows) : r ∈ g.all := by
  rw [FGrid.all_eq]
  exact List.mem_flatMap.mpr ⟨q, h1, h2⟩
theorem ok_gridw {n : Nat} {f : Addr} {fd : FuncData} (F : Fun K "grid_words" "grid_words" sGridW f fd) (C_row_words : Cal P w K mg base CX0 (3 * n) "row_words" ["row"] (spRowWords K n)) : FnOk P w K mg base CX0 (3 * n + 1) f fd ["rows"] (spGridW K n) := by
  have sc := scGridW
  refine F.ok scGridW (fun vs H Q E h => ?_) (fun cdv A outer s H vs Q E hr h => ?_)
  · obtain ⟨ds, es, l, ⟨_, rfl, _⟩, _⟩ := h
    exact l.len
  · obtain ⟨ds, es, l, ⟨g, rfl, rfl, dep, bnd⟩, k⟩ := h
    cases l with
    | cons t l => cases l with
    | nil =>
    rename_i v
    refine ⟨_, (pss_cons (ps_set (i := 1) sc.nd rfl (Or.inl rfl) (pe_lst (pa_cons pe_str pa_nil)))
  (pss_cons (ps_set (i := 2) sc.nd rfl (Or.inl rfl) pe_str)
  (pss_cons (ps_for PassesOwn.never rfl (pi_tup (pv 0)) (pg_name (i := 3) sc.nd rfl (Or.inl rfl))
  (pss_cons (ps_for PassesOwn.never rfl (pi_tup (pv 3)) (pg_name (i := 4) sc.nd rfl (Or.inl rfl))
  (pss_cons (ps_expr (pe_bm PySem.F.plainAttrs_list PySem.F.slot_list_append PySem.F.type_list_append mt_append (pv 1) (pa_cons (pv 2) pa_nil)))
  (pss_cons (ps_expr (pe_bm PySem.F.plainAttrs_list PySem.F.slot_list_extend PySem.F.type_list_extend mt_extend (pv 1) (pa_cons (pe_cal C_row_words (hr.mono (by omega)) rfl pass0 (pa_cons (pv 4) pa_nil)) pa_nil)))
  (pss_one (ps_set (i := 2) sc.nd rfl (Or.inl rfl) pe_str)))))
  (pss_one (ps_set (i := 2) sc.nd rfl (Or.inl rfl) pe_str))))
  (pss_cons (ps_expr (pe_bm PySem.F.plainAttrs_list PySem.F.slot_list_append PySem.F.type_list_append mt_append (pv 1) (pa_cons pe_str pa_nil)))
  (pss_one (ps_ret (pv 1))))))), ?_⟩
    refine q_setL (K := K) (l_strs "@grid") fun p xs H2 np s2 e l => ?_
    have A0 := Acc.start np s2 e l
    have t := t.stay (.of s2)
    refine q_set (K := K) e_str fun vb H3 s3 tb => ?_
    obtain rfl := tp_str tb
    have A1 := A0.ext s3
    have t := t.stay (.of s3)
    obtain ⟨xs1, e1, l1⟩ := A1.lst
    have dL := FGrid.dep_le.mp dep
    refine q_forT (ds := g.lines.map FCells.d) (p := p) (e_var rfl (FGrid.ds_eq g ▸ t)) e1 (fun i σ' H' => ∃ x3 x4, σ' = [some v, some (.ref p), some (.str (if i = 0 then "{" else "~")), x3, x4] ∧ Acc K H p ((("@grid" : Str) :: (FGrid.of (g.lines.take i)).words "{").map PyData.str) H') (fun H4 s4 => ⟨_, _, rfl, by simpa [FGrid.of, FGrid.words] using A1.ext s4⟩) ?_ ?_
    · rintro H4 s4 i d x σ' H' hi ⟨x3, x4, rfl, A⟩ kb tx
      obtain ⟨c, hc, rfl⟩ := get_map hi
      have cm := List.mem_of_getElem? hc
      have tx : Tp K H' x (.tuple (c.rows.map FRow.d)) := FCells.ds_eq c ▸ tx
      obtain ⟨xs2, e2, l2⟩ := A.lst
      have wl := line_words (s := "{") cm
      have gt := grid_take (s := "{") (c := g) (i := i + 1)
      rw [grid_snoc hc, List.length_append, cells_words_len _ "{"] at gt
      refine g_name ?_
      refine q_forT (p := p) (e_var rfl tx) e2 (fun j σ' H' => ∃ x4, σ' = [some v, some (.ref p), some (.str (if j = 0 then (if i = 0 then "{" else "~") else "&")), some x, x4] ∧
        Acc K H p ((("@grid" : Str) :: ((FGrid.of (g.lines.take i)).words "{" ++ (FCells.of (c.rows.take j)).words (if i = 0 then "{" else "~"))).map PyData.str) H') (fun H5 s5 => ⟨_, rfl, by simpa [FCells.of, FCells.words] using A.ext s5⟩) ?_ ?_
      · rintro H5 s5 j d y σ' H6 hj ⟨x4, rfl, A6⟩ kb6 ty
        obtain ⟨q, hq, rfl⟩ := get_map hj
        have qm := List.mem_of_getElem? hq
        have qa := lines_all cm qm
        have dq := dL q qa
        have wq := words_grid (s := "{") qa
        have ct := cells_take (s := "{") (c := c) (i := j + 1)
        rw [cells_snoc hq, List.length_append, List.length_cons] at ct
        have cl := cells_words_len (if i = 0 then "{" else "~") "{" (FCells.of (c.rows.take j))
        refine g_name ?_
        refine q_app rfl A6 (e_var (v := .str (if j = 0 then (if i = 0 then "{" else "~") else "&")) rfl (.str _)) (by simp only [List.length_map, List.length_cons, List.length_append]; omega) fun H7 tk7 kb7 A7 => ?_
        refine q_ext rfl A7 (l_call (a_cons (e_var rfl (ty.stay tk7)) a_nil) ⟨q, rfl, rfl, by omega, by omega⟩) (by simp only [List.length_map, List.length_cons, List.length_append, List.length_nil]; omega) fun H8 tk8 kb8 A8 => ?_
        refine ⟨⟨_, rfl, ?_⟩, (kb6.trans kb7).trans kb8⟩
        rw [cells_snoc hq]
        have A8 : Acc K H p _ H8 := A8
        simpa using A8
      · rintro σ' H6 ⟨x4, rfl, A6⟩ kb6
        refine ⟨⟨_, _, rfl, ?_⟩, kb.trans kb6⟩
        rw [List.length_map, List.take_length, cells_of_rows] at A6
        rw [grid_snoc hc]
        exact A6
    · rintro σ' H5 ⟨x3, x4, rfl, A5⟩ kb
      rw [List.length_map, List.take_length, grid_of_lines] at A5
      refine q_app rfl A5 e_str (by simp only [List.length_map, List.length_cons]; omega) fun H6 _ _ A6 => ?_
      refine retAcc k ?_ rfl rfl
      have A6 : Acc K H p _ H6 := A6
      simpa [FNuc.words] using A6
theorem scNucWords : FnScope ["nucleus", "kind"] ["nucleus"] (defScope sNucWords) := ⟨rfl, rfl, rfl, by decide +kernel, rfl, by decide +kernel, by decide +kernel⟩
theorem ok_nucwords {n : Nat} {f : Addr} {fd : FuncData} (F : Fun K "nucleus_words" "nucleus_words" sNucWords f fd) (C_braced_words : Cal P w K mg base CX0 (3 * n + 1) "braced_words" ["row"] (spBraced K n)) (C_fence_words : Cal P w K mg base CX0 (3 * n + 1) "fence_words" ["opening", "closing", "row"] (spFenceW K n)) (C_grid_words : Cal P w K mg base CX0 (3 * n + 1) "grid_words" ["rows"] (spGridW K n)) :
    FnOk P w K mg base CX0 (3 * n + 2) f fd ["nucleus"] (spNucWords K n) := by
  have sc := scNucWords
  refine F.ok scNucWords (fun vs H Q E h => ?_) (fun cdv A outer s H vs Q E hr h => ?_)
  · obtain ⟨ds, es, l, ⟨_, rfl, _⟩, _⟩ := h
    exact l.len
  · obtain ⟨ds, es, l, ⟨m, rfl, rfl, dep, bnd⟩, k⟩ := h
    cases l with
    | cons t l => cases l with
    | nil =>
    refine ⟨_, (pss_cons (ps_set (i := 1) sc.nd rfl (Or.inl rfl) (pe_ix ix_tup (pv 0) pe_int (fun _ _ => rfl)))
  (pss_cons (ps_if (pt_cmpR op_eq (pv 1) pe_str (nomark _))
  (pss_one (ps_ret (pe_lst (pa_cons (pe_ix ix_tup (pv 0) pe_int (fun _ _ => rfl)) pa_nil))))
  pss_nil)
  (pss_cons (ps_if (pt_cmpR op_eq (pv 1) pe_str (nomark _))
  (pss_one (ps_ret (pe_op op_cat (pe_op op_cat (pe_lst (pa_cons pe_str pa_nil)) (pe_cal C_braced_words (hr.mono (by omega)) rfl pass0 (pa_cons (pe_ix ix_tup (pv 0) pe_int (fun _ _ => rfl)) pa_nil))) (pe_cal C_braced_words (hr.mono (by omega)) rfl pass0 (pa_cons (pe_ix ix_tup (pv 0) pe_int (fun _ _ => rfl)) pa_nil)))))
  pss_nil)
  (pss_cons (ps_if (pt_cmpR op_eq (pv 1) pe_str (nomark _))
  (pss_one (ps_ret (pe_op op_cat (pe_lst (pa_cons pe_str pa_nil)) (pe_cal C_braced_words (hr.mono (by omega)) rfl pass0 (pa_cons (pe_ix ix_tup (pv 0) pe_int (fun _ _ => rfl)) pa_nil)))))
  pss_nil)
  (pss_cons (ps_if (pt_cmpR op_eq (pv 1) pe_str (nomark _))
  (pss_one (ps_ret (pe_cal C_fence_words (hr.mono (by omega)) rfl pass0 (pa_cons (pe_ix ix_tup (pv 0) pe_int (fun _ _ => rfl)) (pa_cons (pe_ix ix_tup (pv 0) pe_int (fun _ _ => rfl)) (pa_cons (pe_ix ix_tup (pv 0) pe_int (fun _ _ => rfl)) pa_nil))))))
  pss_nil)
  (pss_cons (ps_if (pt_cmpR op_eq (pv 1) pe_str (nomark _))
  (pss_one (ps_ret (pe_cal C_grid_words (hr.mono (by omega)) rfl pass0 (pa_cons (pe_ix ix_tup (pv 0) pe_int (fun _ _ => rfl)) pa_nil))))
  pss_nil)
  (pss_one (ps_ret (pe_cal C_braced_words (hr.mono (by omega)) rfl pass0 (pa_cons (pe_ix ix_tup (pv 0) pe_int (fun _ _ => rfl)) pa_nil)))))))))), ?_⟩
    have dp := FNuc.dep_le.mp dep
    have wb : ∀ q ∈ m.rows, q.words.length ≤ 100000 := fun q hq => by
      have := words_nuc hq
      omega
    cases m with
    | sym x =>
      have t : Tp K H _ (.tuple [.str "symbol", .str x]) := t
      refine q_set (e_op (e_var rfl t) e_int (r_ixT rfl)) fun kd H1 s1 tk => ?_
      obtain rfl := tp_str tk
      have t := t.stay (.of s1)
      exact q_yesS rfl (retL k s1 (l_lst (a_cons (e_op (e_var rfl t) e_int (r_ixT rfl)) a_nil) (Nat.le_of_ble_eq_true rfl)) rfl)
    | frac o u =>
      have t : Tp K H _ (.tuple [.str "frac", o.d, u.d]) := t
      refine q_set (e_op (e_var rfl t) e_int (r_ixT rfl)) fun kd H1 s1 tk => ?_
      obtain rfl := tp_str tk
      have t := t.stay (.of s1)
      have b1 := wb o (by simp [FNuc.rows])
      have b2 := wb u (by simp [FNuc.rows])
      have d1 := dp o (by simp [FNuc.rows])
      have d2 := dp u (by simp [FNuc.rows])
      refine q_noS rfl (by decide +kernel) (q_yesS rfl (retL k s1 (l_is (l_cat (l_cat (l_strs "@frac") (l_call (a_cons (e_op (e_var rfl t) e_int (r_ixT rfl)) a_nil) ⟨o, rfl, rfl, by omega, b1⟩) (by simp [braceW]; omega)) (l_call (a_cons (e_op (e_var rfl t) e_int (r_ixT rfl)) a_nil) ⟨u, rfl, rfl, by omega, b2⟩) (by simp [braceW]; omega)) ?_) rfl))
      simp [FNuc.words, braceW]
    | root r =>
      have t : Tp K H _ (.tuple [.str "root", r.d]) := t
      refine q_set (e_op (e_var rfl t) e_int (r_ixT rfl)) fun kd H1 s1 tk => ?_
      obtain rfl := tp_str tk
      have t := t.stay (.of s1)
      have b1 := wb r (by simp [FNuc.rows])
      have d1 := dp r (by simp [FNuc.rows])
      refine q_noS rfl (by decide +kernel) (q_noS rfl (by decide +kernel) (q_yesS rfl (retL k s1 (l_is (l_cat (l_strs "@root") (l_call (a_cons (e_op (e_var rfl t) e_int (r_ixT rfl)) a_nil) ⟨r, rfl, rfl, by omega, b1⟩) (by simp [braceW]; omega)) ?_) rfl)))
      simp [FNuc.words, braceW]
    | fence o c r =>
      have t : Tp K H _ (.tuple [.str "fence", optD o, optD c, r.d]) := t
      refine q_set (e_op (e_var rfl t) e_int (r_ixT rfl)) fun kd H1 s1 tk => ?_
      obtain rfl := tp_str tk
      have t := t.stay (.of s1)
      have b1 := wb r (by simp [FNuc.rows])
      have d1 := dp r (by simp [FNuc.rows])
      refine q_noS rfl (by decide +kernel) (q_noS rfl (by decide +kernel) (q_noS rfl (by decide +kernel) (q_yesS rfl (retL k s1 (l_call (a_cons (e_op (e_var rfl t) e_int (r_ixT rfl)) (a_cons (e_op (e_var rfl t) e_int (r_ixT rfl)) (a_cons (e_op (e_var rfl t) e_int (r_ixT rfl)) a_nil))) ⟨o, c, r, rfl, rfl, by omega, b1⟩) rfl))))
    | grid g =>
      have t : Tp K H _ (.tuple [.str "grid", .tuple g.ds]) := t
      refine q_set (e_op (e_var rfl t) e_int (r_ixT rfl)) fun kd H1 s1 tk => ?_
      obtain rfl := tp_str tk
      have t := t.stay (.of s1)
      have bg : (g.words "{").length ≤ 100000 := by
        have := bnd
        simp [FNuc.words] at this
        omega
      refine q_noS rfl (by decide +kernel) (q_noS rfl (by decide +kernel) (q_noS rfl (by decide +kernel) (q_noS rfl (by decide +kernel) (q_yesS rfl (retL k s1 (l_call (a_cons (e_op (e_var rfl t) e_int (r_ixT rfl)) a_nil) ⟨g, rfl, rfl, dep, bg⟩) rfl)))))
    | group r =>
      have t : Tp K H _ (.tuple [.str "group", r.d]) := t
      refine q_set (e_op (e_var rfl t) e_int (r_ixT rfl)) fun kd H1 s1 tk => ?_
      obtain rfl := tp_str tk
      have t := t.stay (.of s1)
      have b1 := wb r (by simp [FNuc.rows])
      have d1 := dp r (by simp [FNuc.rows])
      refine q_noS rfl (by decide +kernel) (q_noS rfl (by decide +kernel) (q_noS rfl (by decide +kernel) (q_noS rfl (by decide +kernel) (q_noS rfl (by decide +kernel) (retL k s1 (l_call (a_cons (e_op (e_var rfl t) e_int (r_ixT rfl)) a_nil) ⟨r, rfl, rfl, by omega, b1⟩) rfl)))))
theorem scRowWords : FnScope ["row", "words", "nucleus", "below", "above"] ["row"] (defScope sRowWords) := ⟨rfl, rfl, rfl, by decide +kernel, rfl, by decide +kernel, by decide +kernel⟩
theorem ok_rowwords1 {n : Nat} {f : Addr} {fd : FuncData} (F : Fun K "row_words" "row_words" sRowWords f fd) (C_nucleus_words : Cal P w K mg base CX0 (3 * n + 2) "nucleus_words" ["nucleus"] (spNucWords K n)) (C_braced_words : Cal P w K mg base CX0 (3 * n + 1) "braced_words" ["row"] (spBraced K n)) :
    FnOk P w K mg base CX0 (3 * n + 3) f fd ["row"] (spRowWords K (n + 1)) := by
  have sc := scRowWords
  refine F.ok scRowWords (fun vs H Q E h => ?_) (fun cdv A outer s H vs Q E hr h => ?_)
  · obtain ⟨ds, es, l, ⟨_, rfl, _⟩, _⟩ := h
    exact l.len
  · obtain ⟨ds, es, l, ⟨r, rfl, rfl, dep, bnd⟩, k⟩ := h
    cases l with
    | cons t l => cases l with
    | nil =>
    rename_i v
    refine ⟨_, (pss_cons (ps_set (i := 1) sc.nd rfl (Or.inl rfl) (pe_lst pa_nil))
  (pss_cons (ps_for PassesOwn.never rfl (pi_tup (pv 0)) (pg_tup rfl (pgs_cons (pg_name (i := 2) sc.nd rfl (Or.inl rfl)) (pgs_cons (pg_name (i := 3) sc.nd rfl (Or.inl rfl)) (pgs_cons (pg_name (i := 4) sc.nd rfl (Or.inl rfl)) pgs_nil))))
  (pss_cons (ps_expr (pe_bm PySem.F.plainAttrs_list PySem.F.slot_list_extend PySem.F.type_list_extend mt_extend (pv 1) (pa_cons (pe_cal C_nucleus_words (hr.mono (by omega)) rfl pass0 (pa_cons (pv 2) pa_nil)) pa_nil)))
  (pss_cons (ps_if (pt_cmpR op_notN (pv 3) pe_non (nomark _))
  (pss_one (ps_expr (pe_bm PySem.F.plainAttrs_list PySem.F.slot_list_extend PySem.F.type_list_extend mt_extend (pv 1) (pa_cons (pe_op op_cat (pe_lst (pa_cons pe_str pa_nil)) (pe_cal C_braced_words (hr.mono (by omega)) rfl pass0 (pa_cons (pv 3) pa_nil))) pa_nil))))
  pss_nil)
  (pss_one (ps_if (pt_cmpR op_notN (pv 4) pe_non (nomark _))
  (pss_one (ps_expr (pe_bm PySem.F.plainAttrs_list PySem.F.slot_list_extend PySem.F.type_list_extend mt_extend (pv 1) (pa_cons (pe_op op_cat (pe_lst (pa_cons pe_str pa_nil)) (pe_cal C_braced_words (hr.mono (by omega)) rfl pass0 (pa_cons (pv 4) pa_nil))) pa_nil))))
  pss_nil)))))
  (pss_one (ps_ret (pv 1))))), ?_⟩
    have er : r.d = .tuple (r.items.map FItem.d) := by rw [FRow.d, FRow.ds_eq]
    have t : Tp K H v r.d := t
    refine q_setL (K := K) (l_lst a_nil (Nat.le_of_ble_eq_true rfl)) fun p xs H2 np s2 e l => ?_
    have A0 := Acc.start np s2 e l
    have t := t.stay (.of s2)
    refine q_forT (ds := r.items.map FItem.d) (p := p) (e_var rfl (er ▸ t)) e (fun i σ' H' => ∃ x2 x3 x4, σ' = [some v, some (.ref p), x2, x3, x4] ∧ Acc K H p (((r.items.take i).flatMap FItem.words).map PyData.str) H') (fun H3 s3 => ⟨_, _, _, rfl, by simpa using A0.ext s3⟩) ?_ ?_
    · rintro H3 s3 i d x σ' H' hi ⟨x2, x3, x4, rfl, A⟩ kb tx
      obtain ⟨it, hit, rfl⟩ := get_map hi
      have hmem := List.mem_of_getElem? hit
      have w1 := words_item hmem
      have dI := FRow.dep_le.mp (Nat.le_of_lt_succ dep) it hmem
      have w2 := flat_le (f := FItem.words) hit
      rw [← FRow.words_eq] at w2
      cases it with
      | mk m b a =>
      have tx : Tp K H' x (.tuple [m.d, b.d, a.d]) := tx
      rw [FItem.words, List.length_append, List.length_append] at w2 w1
      have dm : m.dep ≤ n ∧ b.dep ≤ n ∧ a.dep ≤ n := by
        rw [FItem.dep] at dI
        omega
      refine g_tup3 tx fun y1 y2 y3 ty1 ty2 ty3 => ?_
      refine q_ext rfl A (l_call (a_cons (e_var rfl ty1) a_nil) ⟨m, rfl, rfl, dm.1, by omega⟩) (by simp only [List.length_map]; omega) fun H4 tk4 kb4 A4 => ?_
      have A4 : Acc K H p _ H4 := A4
      have ty2 := ty2.stay tk4
      have ty3 := ty3.stay tk4
      have fin : ∀ H5, TupK H4 H5 → KeepB p H4 H5 → Acc K H p ((((r.items.take i).flatMap FItem.words).map PyData.str ++ m.words.map PyData.str) ++ (b.words "_").map PyData.str) H5 →
          tIfS (tTest (tOp (fun x y H Q => y = .non ∧ Q (.bl (!decide (x = .non))) H) (tVar 4) (tC .non))) (tDrop (tBM K "list" rExtend (tVar 1) (tCons (tOp rCat (tLst (tCons (tC (.str "^")) tNil)) (tCall (spBraced K n) [] E0 (tCons (tVar 4) tNil))) tNil))) tNext
          { nx := fun σ3 H3_1 => (∃ x2 x3 x4, σ3 = [some v, some (.ref p), x2, x3, x4] ∧ Acc K H p (((r.items.take (i + 1)).flatMap FItem.words).map PyData.str) H3_1) ∧ KeepB p H3 H3_1, ct := fun σ3 H3_1 => (∃ x2 x3 x4, σ3 = [some v, some (.ref p), x2, x3, x4] ∧ Acc K H p (((r.items.take (i + 1)).flatMap FItem.words).map PyData.str) H3_1) ∧ KeepB p H3 H3_1, bk := tRet (tVar 1) { nx := fun _ H' => Q .non H', rt := Q }, rt := Q } [some v, some (.ref p), some y1, some y2, some y3] H5 := by
        intro H5 tk5 kb5 A5
        have ty3 := ty3.stay tk5
        have fin2 : ∀ H6, KeepB p H5 H6 → Acc K H p (((((r.items.take i).flatMap FItem.words).map PyData.str ++ m.words.map PyData.str) ++ (b.words "_").map PyData.str) ++ (a.words "^").map PyData.str) H6 →
            (∃ x2 x3 x4, [some v, some (.ref p), some y1, some y2, some y3] = [some v, some (.ref p), x2, x3, x4] ∧ Acc K H p (((r.items.take (i + 1)).flatMap FItem.words).map PyData.str) H6) ∧ KeepB p H3 H6 := fun H6 kb6 A6 => by
          refine ⟨⟨_, _, _, rfl, ?_⟩, ((kb.trans kb4).trans kb5).trans kb6⟩
          rw [flat_snoc hit, FItem.words]
          simpa using A6
        cases a with
        | no => exact s_when (t_test (e_op (e_var rfl ty3) e_non r_notN)) (fun z => by cases z) fun _ H6 s6 => fin2 H6 (.of s6) (by simpa [FScr.words] using A5.ext s6)
        | yes q =>
          have w3 := words_scr (n := .yes q) (r := q) (s := "^") (List.mem_singleton.mpr rfl)
          have dq := dm.2.2
          rw [FScr.dep] at dq
          refine s_when (t_test (e_op (e_var rfl ty3) e_non r_notN)) (fun _ H6 s6 => ?_) fun z => by cases z
          refine s_ext rfl (A5.ext s6) (l_cat (l_strs "^") (l_call (a_cons (e_var rfl (ty3.stay (.of s6))) a_nil) ⟨q, rfl, rfl, by omega, by omega⟩) (by simp [braceW]; omega)) (by simp [braceW] at w2 ⊢; simp [FScr.words] at w2; omega) fun H7 tk7 kb7 A7 => fin2 H7 ((KeepB.of s6).trans kb7) ?_
          simpa [FScr.words, braceW] using A7
      cases b with
      | no => exact q_no (t_test (e_op (e_var rfl ty2) e_non r_notN)) rfl fun H5 s5 => fin H5 (.of s5) (.of s5) (by simpa [FScr.words] using A4.ext s5)
      | yes q =>
        have w3 := words_scr (n := .yes q) (r := q) (s := "_") (List.mem_singleton.mpr rfl)
        have dq := dm.2.1
        rw [FScr.dep] at dq
        refine q_yes (t_test (e_op (e_var rfl ty2) e_non r_notN)) rfl fun H6 s6 => ?_
        refine s_ext rfl (A4.ext s6) (l_cat (l_strs "_") (l_call (a_cons (e_var rfl (ty2.stay (.of s6))) a_nil) ⟨q, rfl, rfl, by omega, by omega⟩) (by simp [braceW]; omega)) (by simp [braceW] at w2 ⊢; simp [FScr.words] at w2; omega) fun H7 tk7 kb7 A7 => fin H7 ((TupK.of s6).trans tk7) ((KeepB.of s6).trans kb7) ?_
        have A7 : Acc K H p _ H7 := A7
        simpa [FScr.words, braceW] using A7
    · rintro σ' H5 ⟨x2, x3, x4, rfl, A5⟩ kb
      rw [List.length_map, List.take_length, ← FRow.words_eq] at A5
      exact retAcc k A5 rfl rfl
/-- all of them, level by level -/
structure WordsOk (P : Program) (w : World) (K : PySem.W.Frag) (mg : Str → Option Value) (base : Heap) (n : Nat) : Prop where
  row : Cal P w K mg base CX0 (3 * n) "row_words" ["row"] (spRowWords K n)
  brace : Cal P w K mg base CX0 (3 * n + 1) "braced_words" ["row"] (spBraced K n)
  nuc : Cal P w K mg base CX0 (3 * n + 2) "nucleus_words" ["nucleus"] (spNucWords K n)
theorem words_ok {f1 f2 f3 f4 f5 : Addr} {d1 d2 d3 d4 d5 : FuncData} (F1 : Fun K "row_words" "row_words" sRowWords f1 d1) (F2 : Fun K "braced_words" "braced_words" sBraced f2 d2) (F3 : Fun K "nucleus_words" "nucleus_words" sNucWords f3 d3) (F4 : Fun K "fence_words" "fence_words" sFenceW f4 d4) (F5 : Fun K "grid_words" "grid_words" sGridW f5 d5)
    (c1 : mg "row_words" = some (.ref f1) ∧ PySem.W.keepIn K (.ref f1) = true ∧ Binds K d1 ["row"] []) (c2 : mg "braced_words" = some (.ref f2) ∧ PySem.W.keepIn K (.ref f2) = true ∧ Binds K d2 ["row"] []) (c3 : mg "nucleus_words" = some (.ref f3) ∧ PySem.W.keepIn K (.ref f3) = true ∧ Binds K d3 ["nucleus"] [])
    (c4 : mg "fence_words" = some (.ref f4) ∧ PySem.W.keepIn K (.ref f4) = true ∧ Binds K d4 ["opening", "closing", "row"] []) (c5 : mg "grid_words" = some (.ref f5) ∧ PySem.W.keepIn K (.ref f5) = true ∧ Binds K d5 ["rows"] []) : ∀ n, WordsOk P w K mg base n := by
  have step : ∀ n, Cal P w K mg base CX0 (3 * n) "row_words" ["row"] (spRowWords K n) → WordsOk P w K mg base n := fun n h => by
    have hb : Cal P w K mg base CX0 (3 * n + 1) "braced_words" ["row"] (spBraced K n) := ⟨f2, d2, ok_braced F2 h, c2.1, c2.2.1, c2.2.2⟩
    exact ⟨h, hb, f3, d3, ok_nucwords F3 hb ⟨f4, d4, ok_fencew F4 h, c4.1, c4.2.1, c4.2.2⟩ ⟨f5, d5, ok_gridw F5 h, c5.1, c5.2.1, c5.2.2⟩, c3.1, c3.2.1, c3.2.2⟩
  intro n
  induction n with
  | zero => exact step 0 ⟨f1, d1, FnOk.vac fun vs H Q E ⟨_, _, _, ⟨_, _, _, h, _⟩, _⟩ => Nat.not_lt_zero _ h, c1.1, c1.2.1, c1.2.2⟩
  | succ n ih => exact step (n + 1) ⟨f1, d1, ok_rowwords1 F1 ih.nuc ih.brace, c1.1, c1.2.1, c1.2.2⟩
end
end
section
set_option Elab.async false
set_option linter.all false
set_option maxRecDepth 100000
set_option maxHeartbeats 1000000
open PySem PySem.Spec PyProof.Rows L2
/-! more of the calculus: calls by values, comprehensions that leave out -/
section
variable {K : PySem.W.Frag} {σ : L2.St} {H : Hp} {te tl ta tb : TE} {tas : TA} {ds es : List PyData} {d : PyData} {vs : List Nat} {v : V}
theorem e_callV {sp : Sp} {us : List V} {E : XK} (ha : ∀ H1, Same H H1 → ∀ Q : List V → Hp → Prop, (∀ H2, Same H1 H2 → Q us H2) → tas σ H1 Q) (hs : ∀ H1, Same H H1 → ∀ Q : VK, (∀ v H2, Same H1 H2 → Tp K H2 v d → Q v H2) → sp us H1 Q E) : EvD K (tCall sp [] E tas) σ H d := fun H1 s Q q =>
  ha H1 s _ fun H2 s2 => by
    rw [List.append_nil]
    exact hs H2 (s.trans s2) Q fun v H3 s3 t => q v H3 (s2.trans s3) t
theorem l_callV {sp : Sp} {us : List V} {E : XK} (ha : ∀ H1, Same H H1 → ∀ Q : List V → Hp → Prop, (∀ H2, Same H1 H2 → Q us H2) → tas σ H1 Q) (hs : ∀ H1, Same H H1 → ∀ Q : VK, (∀ p xs H2, H1 p = none → Same H1 H2 → H2 p = some (.lst xs) → TpL K H2 xs ds → Q (.ref p) H2) → sp us H1 Q E) : EvDL K (tCall sp [] E tas) σ H ds := fun H1 s Q q =>
  ha H1 s _ fun H2 s2 => by
    rw [List.append_nil]
    exact hs H2 (s.trans s2) Q fun p xs H3 n s3 e l => q p xs H3 (s2.free n) (s2.trans s3) e l
theorem l_lcTF {α : Type} {tt : TT} {j : Nat} (L : List α) (f : α → PyData) (p : α → Bool) (g : α → PyData) (h : EvD K tl σ H (.tuple (L.map f))) (hz : L.length ≤ 1000000) (hw : ∀ x, wipe ((wipe σ vs).set j (some x)) vs = wipe σ vs)
    (ht : ∀ a ∈ L, ∀ x H1, Same H H1 → Tp K H1 x (f a) → EvDT K tt ((wipe σ vs).set j (some x)) H1 (p a)) (he : ∀ a ∈ L, p a = true → ∀ x H1, Same H H1 → Tp K H1 x (f a) → EvD K te ((wipe σ vs).set j (some x)) H1 (g a)) : EvDL K (tLc (iTup K tl) (gName j) tt te vs) σ H ((L.filter p).map g) := fun H0 s Q q => h H0 s _ fun v H1 s1 tv => by
  obtain ⟨a, xs, rfl, sq, l⟩ := tv.inv
  have ll : xs.length = L.length := by rw [l.len, List.length_map]
  refine ⟨a, rfl, ⟨xs, sq⟩, fun D hD => ⟨fun i m H' => m = L.length - i ∧ i ≤ L.length ∧ Same H1 H' ∧ ∃ acc, H' D = some (.lst acc) ∧ TpL K H' acc (((L.take i).filter p).map g), ⟨L.length, by simp, Nat.zero_le _, same_new hD, [], upd_same, by simp; exact .nil⟩, ?_⟩⟩
  rintro i m H' ⟨rfl, hi, s2, acc, ea, ta⟩
  by_cases hlt : i < L.length
  · have hx : xs[i]? = some (xs[i]'(by omega)) := List.getElem?_eq_getElem (by omega)
    refine .inr ⟨⟨xs, _, same_sqt s2 sq, hx⟩, fun H3 => i + 1 ≤ L.length ∧ Same H1 H3 ∧ ∃ acc, H3 D = some (.lst acc) ∧ TpL K H3 acc (((L.take (i + 1)).filter p).map g), fun H3 h3 => ⟨L.length - (i + 1), by omega, rfl, h3⟩, fun x H'' y => ?_⟩
    obtain ⟨rfl, y⟩ := y
    have hx := y xs (same_sqt s2 sq)
    obtain ⟨d, e1, e2⟩ := l.get' hx
    obtain ⟨b, hb, rfl⟩ := get_map e1
    have bm := List.mem_of_getElem? hb
    have e2 := e2.stay (.of s2)
    have tk : L.take (i + 1) = L.take i ++ [b] := by
      rw [List.take_add_one, hb]
      rfl
    have sl : ((L.take i).filter p).length ≤ 1000000 := by
      have h1 := List.length_filter_le p (L.take i)
      rw [List.length_take] at h1
      omega
    refine ⟨hw x, ht b bm x H'' ((s.trans s1).trans s2) e2 H'' (Same.refl _) _ fun H3 s3 => ?_⟩
    cases hp : p b with
    | true =>
      refine iteT (B := _ ∧ _) ?_
      refine he b bm hp x H'' ((s.trans s1).trans s2) e2 H3 s3 _ fun v H4 s4 tv => ?_
      have ea4 := s4 _ _ (s3 _ _ ea)
      refine ⟨acc, ea4, by rw [ta.len, List.length_map]; have h1 := List.length_filter_le p (L.take i); rw [List.length_take] at h1; exact sz6 (by omega), hlt, same_upd_new ((s2.trans s3).trans s4) hD, _, upd_same, ?_⟩
      rw [tk, List.filter_append, List.map_append, List.filter_cons, if_pos hp]
      exact ((ta.stay (.of (s3.trans s4))).app (.one tv)).stay (.keep keep_upd ea4)
    | false =>
      refine iteF ?_
      refine ⟨hlt, s2.trans s3, acc, s3 _ _ ea, ?_⟩
      rw [tk, List.filter_append, List.map_append, List.filter_cons, if_neg (by rw [hp]; exact Bool.false_ne_true)]
      simpa using ta.stay (.of s3)
  · have e : i = L.length := by omega
    subst e
    refine .inl ⟨⟨xs, same_sqt s2 sq, by omega⟩, q D acc H' (s1.free hD) (s1.trans s2) ea ?_⟩
    rw [List.take_length] at ta
    exact ta
/-- an item of a new list -/
theorem e_ixNL {i : Int} (ha : EvDL K ta σ H ds) (hb : ∀ H1, Same H H1 → EvD K tb σ H1 (.int i)) (h : atI ds i = some d) : EvD K (tOp (rIxL K) ta tb) σ H d := fun H1 s Q q => ha H1 s _ fun p xs H2 _ s2 e l => hb H2 (s.trans s2) H2 (Same.refl _) _ fun v H3 s3 tv => by
  rw [tp_int tv]
  obtain ⟨n, x, h1, h2, h3⟩ := atI_get l.len h
  exact ⟨p, xs, i, x, rfl, rfl, SqL.of (s3 _ _ e), h1, q _ _ (s2.trans s3) ((l.at h2 h3).stay (.of s3))⟩
/-- x in (a, b, ..), x in [a, b, ..] of texts, made on the way -/
theorem in_strs {x : Str} {ws : List Str} : inV (.str x) (ws.map V.str) = ws.any fun r => r == x := by
  unfold inV
  rw [List.any_map]
  rfl
theorem flat_strs2 (ws : List Str) : (ws.map V.str).all flatV = true := by
  rw [List.all_map]
  exact List.all_eq_true.mpr fun _ _ => rfl
theorem e_inT {x : Str} {ws : List Str} (ha : EvD K ta σ H (.str x)) (hb : EvDA K tas σ H (ws.map PyData.str)) (hl : ws.length ≤ 1000) : EvD K (tOp (rIn K false) ta (tTup tas)) σ H (.bool (ws.any fun r => r == x)) := fun H1 s Q q => ha H1 s _ fun v H2 s2 tv => by
  rw [tp_str tv]
  refine hb H2 (s.trans s2) _ fun vs H3 s3 tvs => ?_
  obtain rfl := tvs.strs
  refine ⟨by rw [List.length_map]; exact sz5 (by omega), fun p hp => ⟨p, _, rfl, .inr (SqT.of upd_same), rfl, flat_strs2 _, ?_⟩⟩
  rw [in_strs]
  exact q _ _ ((s2.trans s3).trans (same_new hp)) (.bl _)
theorem e_inL {x : Str} {ws : List Str} (ha : EvD K ta σ H (.str x)) (hb : EvDA K tas σ H (ws.map PyData.str)) (hl : ws.length ≤ 1000) : EvD K (tOp (rIn K false) ta (tLst tas)) σ H (.bool (ws.any fun r => r == x)) := fun H1 s Q q => ha H1 s _ fun v H2 s2 tv => by
  rw [tp_str tv]
  refine hb H2 (s.trans s2) _ fun vs H3 s3 tvs => ?_
  obtain rfl := tvs.strs
  refine ⟨by rw [List.length_map]; exact sz5 (by omega), fun p hp => ⟨p, _, rfl, .inl (SqL.of upd_same), rfl, flat_strs2 _, ?_⟩⟩
  rw [in_strs]
  exact q _ _ ((s2.trans s3).trans (same_new hp)) (.bl _)
/-- x (not) in a written tuple of texts -/
theorem e_inK {neg : Bool} {x : Str} {ws : List Str} {a : Addr} (ha : EvD K ta σ H (.str x)) (hk : ∀ H, SqT K H a (ws.map V.str)) : EvD K (tOp (rIn K neg) ta (tC (.ref a))) σ H (.bool (if neg then !(ws.any fun r => r == x) else ws.any fun r => r == x)) := fun H1 s Q q => ha H1 s _ fun v H2 s2 tv => by
  rw [tp_str tv]
  refine ⟨a, _, rfl, .inr (hk _), rfl, flat_strs2 _, ?_⟩
  rw [in_strs]
  exact q _ _ s2 (.bl _)
theorem atI_last {α : Type} {l : List α} {x : α} : atI (l ++ [x]) (-1) = some x := by
  unfold atI ixN
  rw [if_neg (by decide), if_pos (by rw [List.length_append]; simp; omega)]
  show (l ++ [x])[(-1 + ((l ++ [x]).length : Int)).toNat]? = some x
  rw [List.length_append, List.length_singleton, show (-1 + ((l.length + 1 : Nat) : Int)).toNat = l.length by omega]
  simp
/-- two whole numbers, which is the greater one -/
theorem e_max2 {r : List V → Hp → VK → Prop} {i j : Int} (hr : ∀ H Q, Q (V.int (if j > i then j else i)) H → r [.int i, .int j] H Q) (ha : EvD K ta σ H (.int i)) (hb : EvD K tb σ H (.int j)) : EvD K (tCB r (tCons ta (tCons tb tNil))) σ H (.int (if j > i then j else i)) := fun H1 s Q q =>
  ha H1 s _ fun v H2 s2 tv => hb H2 (s.trans s2) _ fun u H3 s3 tu => by
    rw [tp_int tv, tp_int tu]
    exact hr _ _ (q _ _ (s2.trans s3) (.int _))
end
section
variable {K : PySem.W.Frag}
theorem r_ixS {σ : L2.St} {z : Str} {c : Nat} {l : List Nat} (h : z.cps.toList = c :: l) (hz : z.length ≤ 1000) : RD K rIxS (.str z) (.int 0) (.str ⟨#[c]⟩) := fun v1 v2 H Q t1 t2 q => by
  rw [tp_str t1, tp_int t2]
  exact ⟨z, 0, c, rfl, rfl, Nat.le_of_lt (small1000 hz), by rw [h]; exact atI_nat (show (c :: l)[0]? = some c from rfl), q _ _ (Same.refl _) (.str _)⟩
theorem r_inS {z : Str} {c : Nat} : RD K (fun x y H Q => ∃ (c : Nat) (z : Str), x = .str ⟨#[c]⟩ ∧ y = .str z ∧ Q (.bl (decide (c ∈ z.cps.toList))) H) (.str ⟨#[c]⟩) (.str z) (.bool (decide (c ∈ z.cps.toList))) := fun v1 v2 H Q t1 t2 q => by
  rw [tp_str t1, tp_str t2]
  exact ⟨c, z, rfl, rfl, q _ _ (Same.refl _) (.bl _)⟩
theorem e_ixL {σ : L2.St} {H : Hp} {j : Nat} {a : Addr} {xs : List V} {ds : List PyData} {tb : TE} {i : Int} {d : PyData} (hj : σ[j]? = some (some (.ref a))) (ha : H a = some (.lst xs)) (l : TpL K H xs ds) (hb : EvD K tb σ H (.int i)) (h : atI ds i = some d) : EvD K (tOp (rIxL K) (tVar j) tb) σ H d := fun H1 s Q q =>
  ⟨_, hj, hb H1 s _ fun v H2 s2 tv => by
    rw [tp_int tv]
    obtain ⟨n, x, h1, h2, h3⟩ := atI_get l.len h
    exact ⟨a, xs, i, x, rfl, rfl, SqL.of (s2 _ _ (s _ _ ha)), h1, q _ _ s2 ((l.at h2 h3).stay ((TupK.of s).trans (.of s2)))⟩⟩
theorem e_starts {σ : L2.St} {H : Hp} {ta tb : TE} {a b : Str} (ha : EvD K ta σ H (.str a)) (hb : EvD K tb σ H (.str b)) : EvD K (tM1 (fun x xs H Q => ∃ a b, x = .str a ∧ xs = [.str b] ∧ Q (.bl (Txt.startswith a b)) H) ta tb) σ H (.bool (Txt.startswith a b)) := fun H1 s Q q =>
  ha H1 s _ fun v H2 s2 tv => by
    rw [tp_str tv]
    refine ⟨⟨a, rfl⟩, hb H2 (s.trans s2) _ fun u H3 s3 tu => ?_⟩
    rw [tp_str tu]
    exact ⟨a, b, rfl, rfl, q _ _ (s2.trans s3) (.bl _)⟩
theorem getD_of {l : List Str} {i : Nat} {x d : Str} (h : l[i]? = some x) : l.getD i d = x := by
  rw [List.getD_eq_getElem?_getD, h]
  rfl
end
section
variable {K : PySem.W.Frag} {σ : L2.St} {H : Hp} {te : TE} {es : List PyData} {vs : List Nat}
theorem l_lcR {j : Nat} {n : Nat} (hl : es.length = n) (hn : n ≤ 100000) (hw : ∀ x, wipe ((wipe σ vs).set j (some x)) vs = wipe σ vs) (he : ∀ (i : Nat) e H1, es[i]? = some e → Same H H1 → EvD K te ((wipe σ vs).set j (some (.int (i : Int)))) H1 e) : EvDL K (tLc (iRng1 (tCons (tC (.int (n : Int))) tNil)) (gName j) tYes te vs) σ H es := fun H0 s Q q => by
  refine ⟨(n : Int), rfl, by omega, by omega, fun D hD => lc_data (K := K) es hD (by omega) (fun i H' hi s2 => by show i < ((n : Int)).toNat; omega) (fun H' s2 => by show ((n : Int)).toNat ≤ es.length; omega) ?_ fun H' acc s2 e ta => q D acc H' hD s2 e ta⟩
  rintro i x H' H'' R Z hi s2 ⟨rfl, rfl⟩ k
  have e3 : es[i]? = some es[i] := List.getElem?_eq_getElem hi
  refine ⟨hw _, iteT (B := Z H'') ?_⟩
  rw [Int.zero_add]
  exact he i _ H'' e3 (s.trans s2) H'' (Same.refl _) R fun v H3 s3 tv => k v _ H3 e3 s3 tv
end
theorem atI0 {α : Type} {x : α} {r : List α} : atI (x :: r) 0 = some x := atI_nat (show (x :: r)[0]? = some x from rfl)
end
section
set_option Elab.async false
set_option linter.all false
set_option maxRecDepth 100000
set_option maxHeartbeats 2000000
open PySem L2
structure ExB (K : PySem.W.Frag) (mg : Str → Option Value) (x : Str) (C : Addr) : Prop where
  g : mg x = some (.ref C)
  x : PySem.W.excIn K C [.type "ValueError", .type "Exception", .type "BaseException", .type "object"] "ValueError.__new__" = true
  k : PySem.W.keepIn K (.ref C) = true
  b : PySem.W.subIn K (.ref C) (.type "BaseException") = some true
  t : PySem.W.typeIn K (.ref C) = some (.type "type")
end
section
set_option Elab.async false
set_option linter.all false
set_option maxRecDepth 100000
set_option maxHeartbeats 2000000
open PySem L2
structure CalM (P : Program) (w : World) (K : PySem.W.Frag) (mg : Str → Option Value) (base : Heap) (CX : CXT) (k : Nat) (C : Addr) (m : Str) (ps : List Str) (sp : Sp) : Prop where
  ex : ∃ (f : Addr) (fd : FuncData), FnOk P w K mg base CX k f fd ps sp ∧ Meth K C m f ∧ Binds K fd ps []
section
variable {X : Cx} {CX : CXT} {k : Nat} {C : Addr} {ps : List Str} {sp : Sp} {E : XK} {m : Str} {apos pos : Pos} {o e : Expr} {es : List Expr} {t : TA} {ta : TE}
theorem pe_calm {pl : Sem Bool} (he : PE X o ta) (cl : Cls X.K C) (c : CalM X.prog X.w X.K X.mg X.base CX k C m ps sp) (hr : Room k X.A) (hx : Passes CX X E) (ha : PA X (e :: es) t)
    (h1 : starEach (e :: es) X.env = (false, eval e X.env) :: starEach es X.env := by rfl) (h2 : (backTo pos (starEach es X.env)).any (·.1) = false := by rfl)
    (h3 : eval (.Call (.Attribute o m apos) (e :: es) [] pos) X.env = (do let ov ← eval o X.env; standAt apos.atName; let (f, first) ← holding [ov] (getMethod ov m pl); callWith pos f first (backTo pos (starEach (e :: es) X.env)) (backToKw pos (keywordEach [] X.env))) := by rfl) :
    PE X (.Call (.Attribute o m apos) (e :: es) [] pos) (tMeth C m sp [] E ta t) := by
  obtain ⟨f, fd, F, hm, hb⟩ := c.ex
  exact pe_meth (pl := pl) he cl hm F hr hb .nil hx ha h1 h2 h3
theorem pe_calm0 {pl : Sem Bool} (he : PE X o ta) (cl : Cls X.K C) (c : CalM X.prog X.w X.K X.mg X.base CX k C m ps sp) (hr : Room k X.A) (hx : Passes CX X E)
    (h3 : eval (.Call (.Attribute o m apos) [] [] pos) X.env = (do let ov ← eval o X.env; standAt apos.atName; let (f, first) ← holding [ov] (getMethod ov m pl); callWith pos f first (backTo pos (starEach [] X.env)) (backToKw pos (keywordEach [] X.env))) := by rfl) :
    PE X (.Call (.Attribute o m apos) [] [] pos) (tMeth C m sp [] E ta tNil) := by
  obtain ⟨f, fd, F, hm, hb⟩ := c.ex
  exact pe_meth0 (pl := pl) he cl hm F hr hb .nil hx h3
end
theorem passX {P : Program} {w : World} {K : PySem.W.Frag} {mg : Str → Option Value} {base : Heap} {N : List Str} {qual : Str} {sc : Scope} {f : Addr} {cdv : Value} {A : Around} {outer : List Env} {s : Shared} {H : Hp} {E : XK} :
    Passes (L2.CX P w) (cxOf (L2.CX P w) P w K mg base N qual sc f cdv A outer s H E) E := passes_call (takes_of rfl rfl rfl rfl) fun _ _ _ _ h => h
end
section
set_option Elab.async false
set_option linter.all false
set_option maxRecDepth 100000
set_option maxHeartbeats 1000000
open PySem L2
abbrev sDepthOf : Stmt := top 33
abbrev sTextOf : Stmt := top 34
abbrev sCheckDepth : Stmt := top 23
abbrev sCheckFormula : Stmt := top 29
structure TxtSrc (mg : Str → Option Value) : Prop where
  b_len : mg "len" = none
  b_max : mg "max" = none
  b_sum : mg "sum" = none
  b_enumerate : mg "enumerate" = none
  c_LETTERS : ∃ t, mg "LETTERS" = some (.str cLETTERS t)
  c_DEEPEST : ∃ t, mg "DEEPEST" = some (.int 7 t)
  c_MOST_ITEMS : ∃ t, mg "MOST_ITEMS" = some (.int 80 t)
  c_LONGEST : ∃ t, mg "LONGEST" = some (.int 400 t)
section
variable {P : Program} {w : World} {K : PySem.W.Frag} {mg : Str → Option Value} {base : Heap}
/-! depth_of -/
def spDepthOf (K : PySem.W.Frag) (n : Nat) : Sp := spR K fun ds d => ∃ r : FRow, ds = [r.d] ∧ d = .int (r.dep : Int) ∧ r.dep < n ∧ r.words.length ≤ 100000
theorem scDepthOf : FnScope ["row", "item", "inner"] ["row"] (defScope sDepthOf) := ⟨rfl, rfl, rfl, by decide +kernel, rfl, by decide +kernel, by decide +kernel⟩
theorem allrows_len (r : FRow) : (r.items.flatMap FItem.rows).length ≤ r.words.length := by
  have : ∀ l : List FItem, (l.flatMap FItem.rows).length ≤ (l.flatMap FItem.words).length := by
    intro l
    induction l with
    | nil => exact Nat.le_refl _
    | cons i l ih =>
      have := rows_len i
      rw [List.flatMap_cons, List.flatMap_cons, List.length_append, List.length_append]
      omega
  rw [FRow.words_eq]
  exact this _
theorem ok_depthof1 {n : Nat} {f : Addr} {fd : FuncData} (F : Fun K "depth_of" "depth_of" sDepthOf f fd) (T : TxtSrc mg) (C_rows_in : Cal P w K mg base CX0 2 "rows_in" ["item"] (spRowsIn K)) (C_depth_of : Cal P w K mg base CX0 (n + 2) "depth_of" ["row"] (spDepthOf K n)) : FnOk P w K mg base CX0 (n + 3) f fd ["row"] (spDepthOf K (n + 1)) := by
  have sc := scDepthOf
  refine F.ok scDepthOf (fun vs H Q E h => ?_) (fun cdv A outer s H vs Q E hr h => ?_)
  · obtain ⟨ds, es, l, ⟨_, rfl, _⟩, _⟩ := h
    exact l.len
  · obtain ⟨ds, es, l, ⟨r, rfl, rfl, dep, bnd⟩, k⟩ := h
    cases l with
    | cons t l => cases l with
    | nil =>
    rename_i v
    have hu := hu_of hr
    refine ⟨_, (pss_one (ps_ret (pe_callBK (cr_maxD rfl hu) (by rfl) T.b_max (by decide +kernel) (pa_cons (pe_lc2 (own := [("item", 1), ("inner", 2)]) (vs1 := [2]) (wi1 := iList K (tCall (spRowsIn K) [] E0 (tCons (tVar 1) tNil))) rfl sc.nd (pi_tup (pv 0)) (blkOk_by (own := [("item", 1), ("inner", 2)]) (N := ["row", "item", "inner"]) (sc := defScope sDepthOf) (by decide +kernel)) (by decide) (fun _ _ _ _ _ => (pg_name (i := 1) sc.nd rfl (Or.inl rfl))) (fun _ _ _ _ _ => pts_nil) (fun _ _ _ _ _ => (pi_list (pe_cal C_rows_in (hr.mono (by omega)) rfl pass0 (pa_cons (pv 1) pa_nil)))) (fun _ _ _ _ _ => (pg_name (i := 2) sc.nd rfl (Or.inl rfl))) (fun _ _ _ _ _ => pts_nil) (fun _ _ _ _ _ => (pe_op op_add (pe_cal C_depth_of (hr.mono (by omega)) rfl pass0 (pa_cons (pv 2) pa_nil)) pe_int))) pa_nil) (pk_cons pe_int pk_nil)))), ?_⟩
    have t : Tp K H v r.d := t
    have er : r.d = .tuple (r.items.map FItem.d) := by rw [FRow.d, FRow.ds_eq]
    have al := allrows_len r
    have eg : (r.items.map fun i => i.rows.map fun q => PyData.int (((q.dep + 1 : Nat)) : Int)).flatten = ((r.items.flatMap fun i => i.rows.map fun q => q.dep + 1).map fun m : Nat => (m : Int)).map PyData.int := by
      rw [← List.flatMap_def, List.map_map, List.map_flatMap]
      simp [Function.comp_def]
    have en : (((natMax (r.items.flatMap fun i => i.rows.map fun q => q.dep + 1) : Nat)) : Int) = (r.dep : Int) := by rw [← dep_max]
    refine retD k (Same.refl _) (e_is (e_maxD (l_is (l_lc2 (ds := r.items.map FItem.d) (r.items.map fun i => i.rows.map FRow.d) (r.items.map fun i => i.rows.map fun q => PyData.int (((q.dep + 1 : Nat)) : Int)) (fun H1 s1 => .tup (e_var rfl ((er ▸ t).stay (.of s1)))) (by rw [List.length_map, List.length_map]) (by rw [List.length_map, List.length_map]) ?_ (fun x => rfl) (fun x y => rfl) ?_ ?_ ?_) eg)) (by rw [maxI_nat, en])) rfl
    · rw [eg, List.length_map, List.length_map, List.length_flatMap]
      rw [List.length_flatMap] at al
      simp only [List.length_map]
      omega
    · intro i d f x H1 h1 h2 s1 tx
      obtain ⟨it, hi, rfl⟩ := get_map h1
      obtain ⟨it', hi', rfl⟩ := get_map h2
      rw [hi] at hi'
      cases hi'
      have w1 := words_item (List.mem_of_getElem? hi)
      exact .lst (l_call (a_cons (e_var rfl tx) a_nil) ⟨it, rfl, rfl, by omega⟩)
    · intro i f g h1 h2
      obtain ⟨it, hi, rfl⟩ := get_map h1
      obtain ⟨it', hi', rfl⟩ := get_map h2
      rw [hi] at hi'
      cases hi'
      rw [List.length_map, List.length_map]
    · intro i m d f g a e x y H1 h1 h2 h3 h4 h5 s1 tx ty
      obtain ⟨it, hi, rfl⟩ := get_map h1
      obtain ⟨it', hi', rfl⟩ := get_map h2
      rw [hi] at hi'
      cases hi'
      obtain ⟨it', hi', rfl⟩ := get_map h3
      rw [hi] at hi'
      cases hi'
      obtain ⟨q, hq, rfl⟩ := get_map h4
      obtain ⟨q', hq', rfl⟩ := get_map h5
      rw [hq] at hq'
      cases hq'
      have im := List.mem_of_getElem? hi
      have qm := List.mem_of_getElem? hq
      have w1 := words_item im
      have w2 := words_rows qm
      have d1 := FItem.dep_le.mp (FRow.dep_le.mp (Nat.le_of_lt_succ dep) it im) q qm
      refine e_is (e_op (e_call (a_cons (e_var rfl ty) a_nil) ⟨q, rfl, rfl, by omega, by omega⟩) e_int r_I0i) ?_
      rfl
theorem ok_depthof {f : Addr} {fd : FuncData} (F : Fun K "depth_of" "depth_of" sDepthOf f fd) (T : TxtSrc mg) (C_rows_in : Cal P w K mg base CX0 2 "rows_in" ["item"] (spRowsIn K)) (hm : mg "depth_of" = some (.ref f)) (hk : PySem.W.keepIn K (.ref f) = true) (hb : Binds K fd ["row"] []) :
    ∀ n, Cal P w K mg base CX0 (n + 2) "depth_of" ["row"] (spDepthOf K n)
  | 0 => ⟨f, fd, FnOk.vac fun vs H Q E ⟨_, _, _, ⟨_, _, _, h, _⟩, _⟩ => Nat.not_lt_zero _ h, hm, hk, hb⟩
  | n + 1 => ⟨f, fd, ok_depthof1 F T C_rows_in (ok_depthof F T C_rows_in hm hk hb n), hm, hk, hb⟩
/-! text_of -/
def headLet (w : Str) : Bool := match w.cps.toList with
  | [] => false
  | c :: _ => decide (c ∈ cLETTERS.cps.toList)
def spaceAt (ws : List Str) (k : Nat) : Bool := decide (0 < k) && (headLet (ws.getD k "") && Txt.startswith (ws.getD (k - 1) "") "@")
def partAt (ws : List Str) (k : Nat) : List Str := (if spaceAt ws k = true then [(" " : Str)] else []) ++ [ws.getD k ""]
def partsW (ws : List Str) : List Str := (List.range ws.length).flatMap (partAt ws)
def glueW (ws : List Str) : Str := Txt.join "" (partsW ws)
def spTextOf (K : PySem.W.Frag) (n : Nat) : Sp := spR K fun ds d => ∃ r : FRow, ds = [r.d] ∧ d = .str (glueW r.words) ∧ r.dep < n ∧ r.words.length ≤ 100000 ∧ ∀ x ∈ r.words, 1 ≤ x.length ∧ x.length ≤ 9
theorem scTextOf : FnScope ["formula", "words", "parts", "k", "word"] ["formula"] (defScope sTextOf) := ⟨rfl, rfl, rfl, by decide +kernel, rfl, by decide +kernel, by decide +kernel⟩
theorem head_of {x : Str} (h : 1 ≤ x.length) : ∃ c l, x.cps.toList = c :: l := by
  rw [str_len] at h
  match e : x.cps.toList, h with
  | c :: l, _ => exact ⟨c, l, rfl⟩
theorem parts_len (ws : List Str) (n : Nat) : ((List.range n).flatMap (partAt ws)).length ≤ 2 * n := by
  induction n with
  | zero => exact Nat.le_refl _
  | succ n ih =>
    rw [List.range_succ, List.flatMap_append, List.length_append]
    have : ([n].flatMap (partAt ws)).length ≤ 2 := by
      simp [partAt]
      split <;> simp
    omega
theorem parts_sum (ws : List Str) (h : ∀ x ∈ ws, x.length ≤ 9) (n : Nat) (hn : n ≤ ws.length) : (((List.range n).flatMap (partAt ws)).map (·.length)).sum ≤ 10 * n := by
  induction n with
  | zero => exact Nat.le_refl _
  | succ n ih =>
    have i := ih (by omega)
    rw [List.range_succ, List.flatMap_append, List.map_append, List.sum_append]
    have e : ws[n]? = some (ws[n]'(by omega)) := List.getElem?_eq_getElem (by omega)
    have hx := h _ (List.mem_of_getElem? e)
    have : (([n].flatMap (partAt ws)).map (·.length)).sum ≤ 10 := by
      rw [List.flatMap_cons, List.flatMap_nil, List.append_nil, partAt, getD_of e]
      split
      · simp
        have : (" " : Str).length = 1 := by decide +kernel
        omega
      · simp
        omega
    omega
theorem ok_textof {n : Nat} {f : Addr} {fd : FuncData} (F : Fun K "text_of" "text_of" sTextOf f fd) (T : TxtSrc mg) (C_row_words : Cal P w K mg base CX0 (3 * n) "row_words" ["row"] (spRowWords K n)) : FnOk P w K mg base CX0 (3 * n + 1) f fd ["formula"] (spTextOf K n) := by
  have sc := scTextOf
  refine F.ok scTextOf (fun vs H Q E h => ?_) (fun cdv A outer s H vs Q E hr h => ?_)
  · obtain ⟨ds, es, l, ⟨_, rfl, _⟩, _⟩ := h
    exact l.len
  · obtain ⟨ds, es, l, ⟨r, rfl, rfl, dep, bnd, wk⟩, k⟩ := h
    cases l with
    | cons t l => cases l with
    | nil =>
    rename_i v
    refine ⟨_, (pss_cons (ps_set (i := 1) sc.nd rfl (Or.inl rfl) (pe_cal C_row_words (hr.mono (by omega)) rfl pass0 (pa_cons (pv 0) pa_nil)))
  (pss_cons (ps_set (i := 2) sc.nd rfl (Or.inl rfl) (pe_lst pa_nil))
  (pss_cons (ps_for PassesOwn.never rfl (pi_enum (by rfl) T.b_enumerate (pa_cons (pv 1) pa_nil)) (pg_tup rfl (pgs_cons (pg_name (i := 3) sc.nd rfl (Or.inl rfl)) (pgs_cons (pg_name (i := 4) sc.nd rfl (Or.inl rfl)) pgs_nil)))
  (pss_cons (ps_if (PW.pt (pw_and (pt_cmpR op_gt (pv 3) pe_int (nomark _)) (pw_and (pt_cmpR op_in_sign (pe_ix ix_str (pv 4) pe_int (fun _ _ => rfl)) (pe_gstr rfl T.c_LETTERS) (by rfl)) (pw_and1 (pt_val (pe_m1 PySem.F.slot_str_startswith PySem.F.type_str_startswith mt_startswith (pe_ix ix_list (pv 1) (pe_op op_sub (pv 3) pe_int) (fun _ _ => rfl)) pe_str))))))
  (pss_one (ps_expr (pe_bm PySem.F.plainAttrs_list PySem.F.slot_list_append PySem.F.type_list_append mt_append (pv 2) (pa_cons pe_str pa_nil))))
  pss_nil)
  (pss_one (ps_expr (pe_bm PySem.F.plainAttrs_list PySem.F.slot_list_append PySem.F.type_list_append mt_append (pv 2) (pa_cons (pv 4) pa_nil))))))
  (pss_one (ps_ret (pe_join pe_str (pv 2))))))), ?_⟩
    refine q_setL (l_call (a_cons (e_var rfl t) a_nil) ⟨r, rfl, rfl, dep, bnd⟩) fun p1 xs1 H1 n1 s1 e1 l1 => ?_
    refine q_setL (K := K) (l_lst a_nil (Nat.le_of_ble_eq_true rfl)) fun p2 xs2 H2 n2 s2 e2 l2 => ?_
    obtain ⟨ws, hws⟩ : ∃ ws, r.words = ws := ⟨_, rfl⟩
    rw [hws] at bnd wk l1 k
    have l1 : TpL K H1 xs1 (ws.map PyData.str) := l1
    have A0 : Acc K H p2 [] H2 := Acc.start (s1.free n2) (s1.trans s2) e2 l2
    have ne : p1 ≠ p2 := fun z => by
      rw [z, n2] at e1
      cases e1
    have e1' := s2 _ _ e1
    have l1' := l1.stay (.of s2)
    refine q_enum (p := p2) (ds := ws.map PyData.str) rfl e1' l1' ne e2 (fun i σ' H' => ∃ x3 x4, σ' = [some v, some (.ref p1), some (.ref p2), x3, x4] ∧ Acc K H p2 (((List.range i).flatMap (partAt ws)).map PyData.str) H') ⟨_, _, rfl, A0⟩ ?_ ?_
    · rintro i d x T' σ' H' hi ⟨x3, x4, rfl, A⟩ kb tx hT
      obtain ⟨y, hy, rfl⟩ := get_map hi
      obtain rfl := tp_str tx
      have il := (List.getElem?_eq_some_iff.mp hy).1
      have yk := wk y (List.mem_of_getElem? hy)
      obtain ⟨c, cl, hc⟩ := head_of yk.1
      have sT := same_new (o := .tup [.int (i : Nat), .str y]) hT
      have A := A.ext sT
      have kb := kb.trans (KeepB.of sT)
      have e1T : (upd H' T' (.tup [.int (i : Nat), .str y])) p1 = some (.lst xs1) := kb _ _ e1' ne
      have l1T := l1'.stay (.keep kb e2)
      refine g_tup2 (a := .int (i : Nat)) (b := .str y) (Tp.mk (SqT.of upd_same) (.cons (.int _) (.cons (.str _) .nil))) fun xa xb ta tb => ?_
      obtain rfl := tp_int ta
      obtain rfl := tp_str tb
      have hlet : headLet y = decide (c ∈ cLETTERS.cps.toList) := by
        unfold headLet
        rw [hc]
      have plen := parts_len ws i
      generalize upd H' T' (.tup [.int (i : Nat), .str y]) = HT at A kb e1T l1T ⊢
      have tst : EvDT K (tAnd (tTest (tOp (rI0 fun i j => .bl (decide (j < i))) (tVar 3) (tC (.int 0)))) (tAnd (tTest (tOp (fun x y H Q => ∃ (c : Nat) (z : Str), x = .str ⟨#[c]⟩ ∧ y = .str z ∧ Q (.bl (decide (c ∈ z.cps.toList))) H) (tOp rIxS (tVar 4) (tC (.int 0))) (tC (.str cLETTERS))))
          (tB (tM1 (fun x xs H Q => ∃ a b, x = .str a ∧ xs = [.str b] ∧ Q (.bl (Txt.startswith a b)) H) (tOp (rIxL K) (tVar 1) (tOp (rI0 fun i j => .int (i - j)) (tVar 3) (tC (.int 1)))) (tC (.str "@")))))) [some v, some (.ref p1), some (.ref p2), some (.int (i : Nat)), some (.str y)] HT (spaceAt ws i) := by
        unfold spaceAt
        rw [getD_of hy, hlet]
        refine t_is (t_and (c := decide (c ∈ cLETTERS.cps.toList) && Txt.startswith (ws.getD (i - 1) "") "@") (t_test (e_op (e_var rfl (.int _)) e_int r_I0b)) fun h0 => t_and (t_test (e_op (e_op (e_var rfl (.str _)) e_int (r_ixS (σ := []) hc (by omega))) e_str r_inS)) fun _ => ?_) ?_
        · have h0 : (0 : Int) < (i : Nat) := of_decide_eq_true h0
          have ep : ws[i - 1]? = some (ws[i - 1]'(by omega)) := List.getElem?_eq_getElem (by omega)
          rw [getD_of ep]
          refine t_B (e_starts (e_ixL rfl e1T l1T (e_op (e_var rfl (.int _)) e_int r_I0i) ?_) e_str)
          rw [show ((i : Nat) : Int) - 1 = ((i - 1 : Nat) : Int) by omega]
          exact atI_nat (map_get ep)
        · congr 1
          simp
      have fin : ∀ H3, KeepB p2 HT H3 → Acc K H p2 ((((List.range i).flatMap (partAt ws)) ++ (if spaceAt ws i = true then [(" " : Str)] else [])).map PyData.str) H3 → tDrop (tBM K "list" rAppend (tVar 2) (tCons (tVar 4) tNil))
          { nx := fun σ3 H3_1 => (∃ x3 x4, σ3 = [some v, some (.ref p1), some (.ref p2), x3, x4] ∧ Acc K H p2 (((List.range (i + 1)).flatMap (partAt ws)).map PyData.str) H3_1) ∧ KeepB p2 H2 H3_1, ct := fun σ3 H3_1 => (∃ x3 x4, σ3 = [some v, some (.ref p1), some (.ref p2), x3, x4] ∧ Acc K H p2 (((List.range (i + 1)).flatMap (partAt ws)).map PyData.str) H3_1) ∧ KeepB p2 H2 H3_1, bk := (tRet (tM1 (fun x xs H Q => ∃ a p, ∃ ys : List Str, x = .str a ∧ xs = [.ref p] ∧ (SqL K H p (ys.map V.str) ∨ SqT K H p (ys.map V.str)) ∧ (ys.map (·.length)).sum + ys.length * a.length ≤ 16777216 ∧ Q (.str (Txt.join a ys)) H) (tC (.str "")) (tVar 2))) { nx := fun _ H' => Q .non H', rt := Q }, rt := Q }
          [some v, some (.ref p1), some (.ref p2), some (.int (i : Nat)), some (.str y)] H3 := fun H3 kb3 A3 => by
        refine s_app (l := 0) rfl A3 (e_var rfl (.str _)) (by
          have e1 : (if spaceAt ws i = true then [(" " : Str)] else []).length ≤ 1 := by split <;> simp
          rw [List.length_map, List.length_append]
          omega) fun H4 tk4 kb4 A4 => ⟨⟨_, _, rfl, ?_⟩, (kb.trans kb3).trans kb4⟩
        have A4 : Acc K H p2 _ H4 := A4
        rw [List.range_succ, List.flatMap_append, List.flatMap_cons, List.flatMap_nil, List.append_nil, partAt, getD_of hy, ← List.append_assoc, List.map_append]
        exact A4
      cases hsp : spaceAt ws i with
      | true =>
        rw [hsp] at tst fin
        refine q_yes tst rfl fun H3 s3 => ?_
        refine s_app (l := 0) rfl (A.ext s3) e_str (by rw [List.length_map]; omega) fun H4 tk4 kb4 A4 => fin H4 ((KeepB.of s3).trans kb4) ?_
        rw [if_pos rfl, List.map_append]
        exact A4
      | false =>
        rw [hsp] at tst fin
        refine q_no tst rfl fun H3 s3 => fin H3 (.of s3) ?_
        rw [if_neg Bool.false_ne_true, List.append_nil]
        exact A.ext s3
    · rintro σ' H' ⟨x3, x4, rfl, A⟩ kb
      rw [List.length_map] at A
      obtain ⟨xs, e, l⟩ := A.lst
      have el := TpL.strs (ws := partsW ws) l
      subst el
      refine ⟨⟨_, rfl⟩, _, rfl, "", p2, partsW ws, rfl, rfl, .inl (SqL.of e), ?_, ?_⟩
      · have := parts_sum ws (fun x hx => (wk x hx).2) ws.length (Nat.le_refl _)
        have e0 : ("" : Str).length = 0 := rfl
        rw [e0]
        show ((partsW ws).map (·.length)).sum + _ ≤ _
        unfold partsW
        omega
      · exact k _ _ A.same (.str _)
/-! check_depth, check_formula -/
def spCheckDepth (CTD : Addr) : Sp := fun vs H Q E => ∃ d : Int, vs = [.int d] ∧ (d ≤ 7 → Q .non H) ∧ (7 < d → E (.ref CTD) none H)
theorem scCheckDepth : FnScope ["depth"] ["depth"] (defScope sCheckDepth) := ⟨rfl, rfl, rfl, by decide +kernel, rfl, by decide +kernel, by decide +kernel⟩
theorem ok_checkdepth {CTD : Addr} {f : Addr} {fd : FuncData} (F : Fun K "check_depth" "check_depth" sCheckDepth f fd) (T : TxtSrc mg) (B : ExB K mg "TooDeep" CTD) : FnOk P w K mg base (L2.CX P w) 1 f fd ["depth"] (spCheckDepth CTD) := by
  have sc := scCheckDepth
  refine F.okX scCheckDepth (fun vs H Q E h => ?_) (fun cdv A outer s H vs Q E hr h => ?_)
  · obtain ⟨d, rfl, _⟩ := h
    rfl
  · obtain ⟨d, rfl, k1, k2⟩ := h
    refine ⟨_, (pss_one (ps_if (pt_cmpR op_gt (pv 0) (pe_gint rfl T.c_DEEPEST) (nomark _))
  (pss_one (ps_raise rfl (takes_of rfl rfl rfl rfl) (pmk_own PySem.F.excBase_ValueError B.x B.g B.k (raises_own B.b B.t) rfl)))
  pss_nil)), ?_⟩
    refine ⟨_, rfl, _, _, rfl, rfl, _, rfl, ?_⟩
    by_cases c : 7 < d
    · exact iteP (decide_eq_true c) (k2 c)
    · exact iteN (by simpa using c) (k1 (by omega))
def FRow.count (r : FRow) : Int := (r.pre.map fun q => (q.items.length : Int)).sum
def spCheckFormula (K : PySem.W.Frag) (n : Nat) (CTD CTL : Addr) : Sp := fun vs H Q E => ∃ (v : V) (r : FRow), vs = [v] ∧ Tp K H v r.d ∧ r.dep < n ∧ r.words.length ≤ 100000 ∧ (∀ x ∈ r.words, 1 ≤ x.length ∧ x.length ≤ 9) ∧
  (r.dep ≤ 7 → r.count ≤ 80 → (glueW r.words).length ≤ 400 → ∀ H', Same H H' → Q .non H') ∧ (7 < r.dep → ∀ H', Same H H' → E (.ref CTD) none H') ∧ (r.dep ≤ 7 → 80 < r.count ∨ 400 < (glueW r.words).length → ∀ H', Same H H' → E (.ref CTL) none H')
theorem scCheckFormula : FnScope ["formula", "items", "row"] ["formula"] (defScope sCheckFormula) := ⟨rfl, rfl, rfl, by decide +kernel, rfl, by decide +kernel, by decide +kernel⟩
theorem glue_len (ws : List Str) (h : ∀ x ∈ ws, x.length ≤ 9) : (glueW ws).length ≤ 10 * ws.length := by
  have e : ∀ l : List Str, (Txt.join "" l).length = (l.map (·.length)).sum := by
    intro l
    rw [TL.join_eq, str_len]
    have : ∀ l : List Str, (Str.join "" l).cps.toList.length = (l.map (·.length)).sum := by
      intro l
      induction l with
      | nil => rfl
      | cons x l ih =>
        cases l with
        | nil => simp [Str.join, str_len]
        | cons y r =>
          show (x ++ ("" : Str) ++ Str.join "" (y :: r)).cps.toList.length = _
          rw [List.map_cons, List.sum_cons, ← ih, str_len x]
          show ((x.cps ++ (#[] : Array Nat)) ++ (Str.join "" (y :: r)).cps).toList.length = _
          simp
    exact this l
  rw [glueW, e]
  exact parts_sum ws h ws.length (Nat.le_refl _)
theorem ok_checkformula {n : Nat} {CTD CTL : Addr} {f : Addr} {fd : FuncData} (F : Fun K "check_formula" "check_formula" sCheckFormula f fd) (T : TxtSrc mg) (B : ExB K mg "TooLarge" CTL) (hn : 1 ≤ n) (C_check_depth : Cal P w K mg base (L2.CX P w) 1 "check_depth" ["depth"] (spCheckDepth CTD))
    (C_depth_of : Cal P w K mg base CX0 (n + 2) "depth_of" ["row"] (spDepthOf K n)) (C_rows_of : Cal P w K mg base CX0 (n + 2) "rows_of" ["formula"] (spRowsOf K n)) (C_text_of : Cal P w K mg base CX0 (3 * n + 1) "text_of" ["formula"] (spTextOf K n)) : FnOk P w K mg base (L2.CX P w) (3 * n + 2) f fd ["formula"] (spCheckFormula K n CTD CTL) := by
  have sc := scCheckFormula
  refine F.okX scCheckFormula (fun vs H Q E h => ?_) (fun cdv A outer s H vs Q E hr h => ?_)
  · obtain ⟨v, r, rfl, _⟩ := h
    rfl
  · obtain ⟨v, r, rfl, t, dep, bnd, wk, k1, k2, k3⟩ := h
    refine ⟨_, (pss_cons (ps_expr (pe_cal C_check_depth (hr.mono (by omega)) rfl passX (pa_cons (pe_cal C_depth_of (hr.mono (by omega)) rfl pass0 (pa_cons (pv 0) pa_nil)) pa_nil)))
  (pss_cons (ps_set (i := 1) sc.nd rfl (Or.inl rfl) (pe_callB (cr_sum rfl) (by rfl) T.b_sum (by decide +kernel) (pa_cons (pe_lc (own := [("row", 2)]) rfl sc.nd (pi_list (pe_cal C_rows_of (hr.mono (by omega)) rfl pass0 (pa_cons (pv 0) pa_nil))) (blkOk_by (own := [("row", 2)]) (N := ["formula", "items", "row"]) (sc := defScope sCheckFormula) (by decide +kernel)) (fun _ _ _ _ _ => (pg_name (i := 2) sc.nd rfl (Or.inl rfl))) (fun _ _ _ _ _ => pts_nil) (fun _ _ _ _ _ => (pe_callB (r := rLenQ K) call_lenK (by rfl) T.b_len PySem.boot_len (pa_cons (pv 2) pa_nil)))) pa_nil)))
  (pss_one (ps_if (PW.pt (pw_or (pt_cmpR op_gt (pv 1) (pe_gint rfl T.c_MOST_ITEMS) (nomark _)) (pw_or1 (pt_cmpR op_gt (pe_callB call_len_str (by rfl) T.b_len PySem.boot_len (pa_cons (pe_cal C_text_of (hr.mono (by omega)) rfl pass0 (pa_cons (pv 0) pa_nil)) pa_nil)) (pe_gint rfl T.c_LONGEST) (nomark _)))))
  (pss_one (ps_raise rfl (takes_of rfl rfl rfl rfl) (pmk_own PySem.F.excBase_ValueError B.x B.g B.k (raises_own B.b B.t) rfl)))
  pss_nil)))), ?_⟩
    refine e_call (a_cons (e_var rfl t) a_nil) ⟨r, rfl, rfl, dep, bnd⟩ H (Same.refl _) _ fun vd H1 s1 td => ?_
    obtain rfl := tp_int td
    refine ⟨_, rfl, fun d7 => ?_, fun d7 => k2 (by omega) H1 s1⟩
    have d7' : r.dep ≤ 7 := by omega
    have t1 := t.stay (.of s1)
    refine q_set (e_sum (ns := r.pre.map fun q => (q.items.length : Int)) (l_is (l_lcL (K := K) (es := (r.pre.map fun q => (q.items.length : Int)).map PyData.int) (l_call (a_cons (e_var rfl t1) a_nil) ⟨r, rfl, rfl, dep, bnd⟩) (by simp) ?_ (fun x => rfl) ?_) rfl)) fun v2 H2 s2 t2 => ?_
    · have := inn_row r
      simp [FRow.pre]
      omega
    · intro i d e x H2 h1 h2 s2 tx
      obtain ⟨q, hq, rfl⟩ := get_map h1
      rw [List.map_map] at h2
      obtain ⟨q', hq', rfl⟩ := get_map h2
      rw [hq] at hq'
      cases hq'
      have ex : q.d = .tuple (q.items.map FItem.d) := by rw [FRow.d, FRow.ds_eq]
      refine e_is (e_lenT (ds := q.items.map FItem.d) (fun p xs H Q h hq => ⟨p, xs, rfl, h, fun _ => hq⟩) (e_var rfl (ex ▸ tx))) ?_
      simp
    obtain rfl := tp_int t2
    have t2 := t1.stay (.of s2)
    have ec : (r.pre.map fun q => (q.items.length : Int)).sum = r.count := rfl
    rw [ec]
    refine s_if (K := K) (t_or (t_test (e_op (e_var rfl (.int _)) e_int r_I0b)) fun h80 => t_test (e_op (d1 := .int (glueW r.words).length) ?_ e_int r_I0b)) (fun hb H3 s3 => ?_) fun hb H3 s3 => ?_
    · intro H3 s3 Q3 q3
      refine e_call (a_cons (e_var rfl t2) a_nil) ⟨r, rfl, rfl, dep, bnd, wk⟩ H3 s3 _ fun v4 H4 s4 t4 => ?_
      obtain rfl := tp_str t4
      have := glue_len r.words fun x hx => (wk x hx).2
      exact ⟨_, rfl, sz5 (by omega), q3 _ H4 s4 (.int _)⟩
    · refine k3 d7' ?_ H3 ((s1.trans s2).trans s3)
      simp only [Bool.or_eq_true, decide_eq_true_eq] at hb
      omega
    · simp only [Bool.or_eq_false_iff, decide_eq_false_iff_not] at hb
      exact k1 d7' (by omega) (by omega) H3 ((s1.trans s2).trans s3)
end
end
section
set_option Elab.async false
set_option linter.all false
set_option maxRecDepth 100000
set_option maxHeartbeats 400000
open PySem L2
abbrev sCommandAt : Stmt := top 18
abbrev sTokenAt : Stmt := top 17
def lets : List Nat := cLETTERS.cps.toList
/-- how many letters stand at the front -/
def runL : List Nat → Nat
  | [] => 0
  | c :: r => if c ∈ lets then runL r + 1 else 0
theorem run_in : ∀ {m : List Nat} {i : Nat}, i < runL m → ∃ c, m[i]? = some c ∧ c ∈ lets
  | [], i, h => by cases h
  | c :: r, i, h => by
    unfold runL at h
    split at h
    · rename_i hc
      cases i with
      | zero => exact ⟨c, rfl, hc⟩
      | succ i => exact run_in (m := r) (Nat.lt_of_succ_lt_succ h)
    · cases h
theorem run_out : ∀ {m : List Nat} {c : Nat}, m[runL m]? = some c → c ∉ lets
  | [], c, h => by simp at h
  | d :: r, c, h => by
    unfold runL at h
    split at h
    · exact run_out (m := r) (by simpa using h)
    · rename_i hd
      have e : d = c := by simpa using h
      exact e ▸ hd
theorem run_le : ∀ (m : List Nat), runL m ≤ m.length
  | [] => Nat.le_refl _
  | c :: r => by
    unfold runL
    split
    · exact Nat.succ_le_succ (run_le r)
    · exact Nat.zero_le _
/-- the word of a command at a place of a text: the sign there and the letters behind it; no command: bad -/
def cmdW (l : List Nat) (n : Nat) : Str := SX.S ((l.drop n).take (1 + runL (l.drop (n + 1))))
def cmdAt (l : List Nat) (n : Nat) : Str := if isCommand (cmdW l n) = true then cmdW l n else "bad"
structure TxtTok (mg : Str → Option Value) : Prop where
  b_len : mg "len" = none
  c_LETTERS : ∃ t, mg "LETTERS" = some (.str cLETTERS t)
  c_SIGNS : ∃ t, mg "SIGNS" = some (.str cSIGNS t)
  c_MARKS : ∃ t, mg "MARKS" = some (.str "{}^_&~" t)
  c_BAD : ∃ t, mg "BAD" = some (.str "bad" t)
  c_END : ∃ t, mg "END" = some (.str "end" t)
section
variable {P : Program} {w : World} {K : PySem.W.Frag} {mg : Str → Option Value} {base : Heap}
def spCmdAt : Sp := fun vs H Q _ => ∃ (t : Str) (n : Nat), vs = [.str t, .int (n : Int)] ∧ t.length ≤ 1000 ∧ n < t.length ∧ ∀ H', Same H H' → Q (.str (cmdAt t.cps.toList n)) H'
theorem scCmdAt : FnScope ["text", "at", "end", "word"] ["text", "at"] (defScope sCommandAt) := ⟨rfl, rfl, rfl, by decide +kernel, rfl, by decide +kernel, by decide +kernel⟩
theorem ok_cmdat {f : Addr} {fd : FuncData} (F : Fun K "_command_at" "_command_at" sCommandAt f fd) (T : TxtTok mg) (C_is_command : Cal P w K mg base CX0 1 "is_command" ["word"] spIsCommand) : FnOk P w K mg base CX0 2 f fd ["text", "at"] spCmdAt := by
  have sc := scCmdAt
  refine F.ok scCmdAt (fun vs H Q E h => ?_) (fun cdv A outer s H vs Q E hr h => ?_)
  · obtain ⟨t, n, rfl, _⟩ := h
    rfl
  · obtain ⟨t, n, rfl, ht, hn, k⟩ := h
    have hris_command : Room 1 _ := hr
    have big : t.length ≤ sizeLine := Nat.le_of_lt (small1000 ht)
    refine ⟨_, (pss_cons (ps_set (i := 2) sc.nd rfl (Or.inl rfl) (pe_op op_add (pv 1) pe_int))
  (pss_cons (ps_while PassesOwn.never (PW.pt (pw_and (pt_cmpR op_lt (pv 2) (pe_callB call_len_str (by rfl) T.b_len PySem.boot_len (pa_cons (pv 0) pa_nil)) (nomark _)) (pw_and1 (pt_cmpR op_in_sign (pe_ix ix_str (pv 0) (pv 2) (fun _ _ => rfl)) (pe_gstr rfl T.c_LETTERS) (by rfl)))))
  (pss_one (ps_aug (i := 2) sc.nd rfl (Or.inl rfl) pe_int ip_add)))
  (pss_cons (ps_set (i := 3) sc.nd rfl (Or.inl rfl) (pe_slice sl_str (pv 0) (po_some (pv 1)) (po_some (pv 2))))
  (pss_one (ps_ret (pe_ifExp (pt_val (pe_cal C_is_command hris_command rfl pass0 (pa_cons (pv 3) pa_nil))) (pv 3) (pe_gstr rfl T.c_BAD))))))), ?_⟩
    obtain ⟨l, hl⟩ : ∃ l, t.cps.toList = l := ⟨_, rfl⟩
    have tl : t.length = l.length := by rw [← hl]; rfl
    refine ⟨_, rfl, _, _, rfl, rfl, ?_⟩
    have dl : (l.drop (n + 1)).length = l.length - (n + 1) := List.length_drop
    have rl := run_le (l.drop (n + 1))
    have ew : cutS t (some (n : Int)) (some ((n : Int) + 1 + ((runL (l.drop (n + 1)) : Nat) : Int))) = cmdW l n := by
      have e1 : ((n : Int) + 1 + ((runL (l.drop (n + 1)) : Nat) : Int)) = ((n + 1 + runL (l.drop (n + 1)) : Nat) : Int) := by omega
      unfold cutS cmdW
      rw [e1, HT.sIx_nat, HT.sIx_nat, hl, tl, Nat.min_eq_left (by omega), Nat.min_eq_left (by omega), show n + 1 + runL (l.drop (n + 1)) - n = 1 + runL (l.drop (n + 1)) by omega]
    have wl : (cmdW l n).length ≤ 1000 := by
      unfold cmdW
      rw [SX.S_len, List.length_take, List.length_drop]
      omega
    have fin : (tSeq (tAsg (tSl rSlS (tVar 0) (tPart (tVar 1)) (tPart (tVar 2))) (gName 3)) (tRet (tIf (tB (tCall spIsCommand [] E0 (tCons (tVar 3) tNil))) (tVar 3) (tC (.str "bad"))))) { nx := fun _ H' => Q .non H', rt := Q } [some (.str t), some (.int (n : Int)), some (.int ((n : Int) + 1 + ((runL (l.drop (n + 1)) : Nat) : Int))), none] H := by
      refine ⟨_, rfl, _, rfl, _, rfl, _, rfl, _, rfl, t, rfl, big, ?_⟩
      rw [ew]
      refine ⟨_, rfl, cmdW l n, rfl, wl, fun H1 s1 => ⟨_, rfl, ?_⟩⟩
      have q := k H1 s1
      rw [hl] at q
      unfold cmdAt at q
      cases hc : isCommand (cmdW l n) with
      | true =>
        rw [hc, if_pos rfl] at q
        exact iteT ⟨_, rfl, q⟩
      | false =>
        rw [hc, if_neg Bool.false_ne_true] at q
        exact iteF q
    refine ⟨fun m σ H' => ∃ i : Nat, i ≤ runL (l.drop (n + 1)) ∧ σ = [some (.str t), some (.int (n : Int)), some (.int ((n : Int) + 1 + (i : Int))), none] ∧ H' = H ∧ m = l.length - i, ⟨_, 0, Nat.zero_le _, by simp; rfl, rfl, rfl⟩, ?_⟩
    rintro m σ H' ⟨i, hi, rfl, rfl, rfl⟩
    by_cases c1 : n + 1 + i < l.length
    · refine ⟨_, rfl, _, rfl, t, rfl, big, _, _, rfl, rfl, _, rfl, iteP (decide_eq_true (by rw [tl]; omega)) ?_⟩
      obtain ⟨ch, ec⟩ : ∃ ch, l[n + 1 + i]? = some ch := ⟨_, List.getElem?_eq_getElem c1⟩
      have ed : (l.drop (n + 1))[i]? = some ch := by rw [List.getElem?_drop, ec]
      have ea : atI t.cps.toList ((n : Int) + 1 + (i : Int)) = some ch := by
        rw [hl, show ((n : Int) + 1 + (i : Int)) = ((n + 1 + i : Nat) : Int) by omega]
        exact atI_nat ec
      refine ⟨_, rfl, _, rfl, t, _, _, rfl, rfl, big, ea, _, cLETTERS, rfl, rfl, _, rfl, ?_⟩
      by_cases c2 : i < runL (l.drop (n + 1))
      · obtain ⟨c, q1, q2⟩ := run_in c2
        rw [ed] at q1
        cases q1
        refine iteP (decide_eq_true q2) ?_
        exact ⟨fun σ' H'' => σ' = [some (.str t), some (.int (n : Int)), some (.int ((n : Int) + 1 + ((i + 1 : Nat) : Int))), none] ∧ H'' = H', fun σ' H'' p => ⟨l.length - (i + 1), by omega, i + 1, c2, p.1, p.2, rfl⟩, _, rfl, _, _, rfl, rfl, by simp [Int.add_assoc], rfl⟩
      · have ei : i = runL (l.drop (n + 1)) := by omega
        rw [ei] at ed
        refine iteN (by rw [decide_eq_true_eq]; exact run_out ed) ?_
        subst ei
        exact fin
    · refine ⟨_, rfl, _, rfl, t, rfl, big, _, _, rfl, rfl, _, rfl, iteN (by rw [decide_eq_true_eq, tl]; omega) ?_⟩
      have ei : i = runL (l.drop (n + 1)) := by omega
      subst ei
      exact fin
/-! ### _token_at -/
def cMARKS : Str := "{}^_&~"
def tokAt (l : List Nat) (n : Nat) : Str := match l[n]? with
  | none => "bad"
  | some c => if (⟨#[c]⟩ : Str) = "@" then cmdAt l n else if c ∈ cSIGNS.cps.toList ∨ c ∈ cMARKS.cps.toList then ⟨#[c]⟩ else "bad"
def spTokAt : Sp := fun vs H Q _ => ∃ (t : Str) (n : Nat), vs = [.str t, .int (n : Int)] ∧ t.length ≤ 1000 ∧ n < t.length ∧ ∀ H', Same H H' → Q (.str (tokAt t.cps.toList n)) H'
theorem scTokAt : FnScope ["text", "at", "first"] ["text", "at"] (defScope sTokenAt) := ⟨rfl, rfl, rfl, by decide +kernel, rfl, by decide +kernel, by decide +kernel⟩
theorem ok_tokat {f : Addr} {fd : FuncData} (F : Fun K "_token_at" "_token_at" sTokenAt f fd) (T : TxtTok mg) (C_command_at : Cal P w K mg base CX0 2 "_command_at" ["text", "at"] spCmdAt) : FnOk P w K mg base CX0 3 f fd ["text", "at"] spTokAt := by
  have sc := scTokAt
  refine F.ok scTokAt (fun vs H Q E h => ?_) (fun cdv A outer s H vs Q E hr h => ?_)
  · obtain ⟨t, n, rfl, _⟩ := h
    rfl
  · obtain ⟨t, n, rfl, ht, hn, k⟩ := h
    have hrcommand_at : Room 2 _ := hr
    have big : t.length ≤ sizeLine := Nat.le_of_lt (small1000 ht)
    refine ⟨_, (pss_cons (ps_set (i := 2) sc.nd rfl (Or.inl rfl) (pe_ix ix_str (pv 0) (pv 1) (fun _ _ => rfl)))
  (pss_cons (ps_if (pt_cmpR op_eq (pv 2) pe_str (nomark _))
  (pss_one (ps_ret (pe_cal C_command_at hrcommand_at rfl pass0 (pa_cons (pv 0) (pa_cons (pv 1) pa_nil)))))
  pss_nil)
  (pss_one (ps_ret (pe_ifExp (PW.pt (pw_or (pt_cmpR op_in_sign (pv 2) (pe_gstr rfl T.c_SIGNS) (by rfl)) (pw_or1 (pt_cmpR op_in_sign (pv 2) (pe_gstr rfl T.c_MARKS) (by rfl))))) (pv 2) (pe_gstr rfl T.c_BAD)))))), ?_⟩
    obtain ⟨l, hl⟩ : ∃ l, t.cps.toList = l := ⟨_, rfl⟩
    have tl : t.length = l.length := by rw [← hl]; rfl
    obtain ⟨c, ec⟩ : ∃ c, l[n]? = some c := ⟨_, List.getElem?_eq_getElem (by omega)⟩
    have kk : ∀ w : Str, tokAt l n = w → ∀ H', Same H H' → Q (.str w) H' := fun w e H' s => by
      have q := k H' s
      rw [hl, e] at q
      exact q
    unfold tokAt at kk
    rw [ec] at kk
    refine ⟨_, rfl, _, rfl, t, _, c, rfl, rfl, big, by rw [hl]; exact atI_nat ec, ?_⟩
    refine ⟨_, rfl, rfl, _, rfl, ?_⟩
    by_cases c1 : (⟨#[c]⟩ : Str) = "@"
    · refine iteP (by rw [decide_eq_true_eq, c1]) ?_
      exact ⟨_, rfl, _, rfl, t, n, rfl, ht, hn, fun H1 s1 => kk _ (by rw [hl]; exact if_pos c1) H1 s1⟩
    · refine iteN (by rw [decide_eq_true_eq]; intro z; injection z with z; exact c1 z) ?_
      refine ⟨_, rfl, c, cSIGNS, rfl, rfl, _, rfl, ?_⟩
      by_cases c2 : c ∈ cSIGNS.cps.toList
      · refine iteP (decide_eq_true c2) (iteT ⟨_, rfl, kk _ ?_ H (Same.refl _)⟩)
        show (if (⟨#[c]⟩ : Str) = "@" then cmdAt l n else if c ∈ cSIGNS.cps.toList ∨ c ∈ cMARKS.cps.toList then ⟨#[c]⟩ else "bad") = _
        rw [if_neg c1, if_pos (.inl c2)]
      · refine iteN (by rw [decide_eq_true_eq]; exact c2) ?_
        refine ⟨_, rfl, c, cMARKS, rfl, rfl, _, rfl, ?_⟩
        by_cases c3 : c ∈ cMARKS.cps.toList
        · refine iteP (decide_eq_true c3) ⟨_, rfl, kk _ ?_ H (Same.refl _)⟩
          show (if (⟨#[c]⟩ : Str) = "@" then cmdAt l n else if c ∈ cSIGNS.cps.toList ∨ c ∈ cMARKS.cps.toList then ⟨#[c]⟩ else "bad") = _
          rw [if_neg c1, if_pos (.inr c3)]
        · refine iteN (by rw [decide_eq_true_eq]; exact c3) (kk _ ?_ H (Same.refl _))
          show (if (⟨#[c]⟩ : Str) = "@" then cmdAt l n else if c ∈ cSIGNS.cps.toList ∨ c ∈ cMARKS.cps.toList then ⟨#[c]⟩ else "bad") = _
          rw [if_neg c1, if_neg (fun z => z.elim c2 c3)]
/-! ### tokens_of -/
abbrev sTokensOf : Stmt := top 16
theorem cmdW_len (l : List Nat) (n : Nat) (h : n < l.length) : 1 ≤ (cmdW l n).length ∧ n + (cmdW l n).length ≤ l.length := by
  have rl := run_le (l.drop (n + 1))
  have dl : (l.drop (n + 1)).length = l.length - (n + 1) := List.length_drop
  unfold cmdW
  rw [SX.S_len, List.length_take, List.length_drop]
  omega
theorem tokAt_len {l : List Nat} {n : Nat} (h : n < l.length) (hb : tokAt l n ≠ "bad") : 1 ≤ (tokAt l n).length ∧ n + (tokAt l n).length ≤ l.length := by
  unfold tokAt at hb ⊢
  rw [List.getElem?_eq_getElem h] at hb ⊢
  dsimp only at hb ⊢
  by_cases c1 : (⟨#[l[n]]⟩ : Str) = "@"
  · rw [if_pos c1] at hb ⊢
    unfold cmdAt at hb ⊢
    split at hb
    · rename_i hc
      rw [if_pos hc]
      exact cmdW_len l n h
    · exact absurd rfl hb
  · rw [if_neg c1] at hb ⊢
    split at hb
    · rename_i hc
      rw [if_pos hc]
      exact ⟨Nat.le_refl 1, h⟩
    · exact absurd rfl hb
/-- the tokens of a text from a place on -/
def toksAt (l : List Nat) (n : Nat) : List (Nat × Str) :=
  if h : n < l.length then
    if (⟨#[l[n]]⟩ : Str) = " " then toksAt l (n + 1)
    else if tokAt l n = "bad" then [(n, "bad")] else (n, tokAt l n) :: toksAt l (n + max 1 (tokAt l n).length)
  else [(n, "end")]
termination_by l.length - n
def TokL (K : PySem.W.Frag) (H : Hp) (xs : List V) (ts : List (Nat × Str)) : Prop := xs.length = ts.length ∧ ∀ (j : Nat) (v : V) (p : Nat × Str), xs[j]? = some v → ts[j]? = some p → ∃ a, v = .ref a ∧ SqT K H a [.int (p.1 : Int), .str p.2]
theorem TokL.stay {H H' : Hp} {xs : List V} {ts : List (Nat × Str)} (h : TokL K H xs ts) (s : TupK H H') : TokL K H' xs ts := ⟨h.1, fun j v p h1 h2 => by
  obtain ⟨a, e, q⟩ := h.2 j v p h1 h2
  exact ⟨a, e, s.seq q⟩⟩
theorem TokL.snoc {H : Hp} {xs : List V} {ts : List (Nat × Str)} {a : Addr} {n : Nat} {x : Str} (h : TokL K H xs ts) (ha : SqT K H a [.int (n : Int), .str x]) : TokL K H (xs ++ [.ref a]) (ts ++ [(n, x)]) := by
  refine ⟨by rw [List.length_append, List.length_append, h.1]; rfl, fun j v p h1 h2 => ?_⟩
  by_cases hj : j < xs.length
  · rw [List.getElem?_append_left hj] at h1
    rw [List.getElem?_append_left (by rw [← h.1]; exact hj)] at h2
    exact h.2 j v p h1 h2
  · have ej : j = xs.length := by
      have := (List.getElem?_eq_some_iff.mp h1).1
      rw [List.length_append, List.length_singleton] at this
      omega
    subst ej
    rw [List.getElem?_append_right (Nat.le_refl _), Nat.sub_self] at h1
    rw [List.getElem?_append_right (by rw [h.1]; exact Nat.le_refl _), h.1, Nat.sub_self] at h2
    cases h1
    cases h2
    exact ⟨a, rfl, ha⟩
def spTokensOf (K : PySem.W.Frag) : Sp := fun vs H Q _ => ∃ (t : Str), vs = [.str t] ∧ t.length ≤ 1000 ∧ ∀ (p : Addr) (xs : List V) (H' : Hp), H p = none → Same H H' → H' p = some (.lst xs) → TokL K H' xs (toksAt t.cps.toList 0) → Q (.ref p) H'
theorem scTokensOf : FnScope ["text", "found", "at", "token"] ["text"] (defScope sTokensOf) := ⟨rfl, rfl, rfl, by decide +kernel, rfl, by decide +kernel, by decide +kernel⟩
theorem ok_tokens {f : Addr} {fd : FuncData} (F : Fun K "tokens_of" "tokens_of" sTokensOf f fd) (T : TxtTok mg) (C_token_at : Cal P w K mg base CX0 3 "_token_at" ["text", "at"] spTokAt) : FnOk P w K mg base CX0 4 f fd ["text"] (spTokensOf K) := by
  have sc := scTokensOf
  refine F.ok scTokensOf (fun vs H Q E h => ?_) (fun cdv A outer s H vs Q E hr h => ?_)
  · obtain ⟨t, rfl, _⟩ := h
    rfl
  · obtain ⟨t, rfl, ht, k⟩ := h
    have hrtoken_at : Room 3 _ := hr
    have big : t.length ≤ sizeLine := Nat.le_of_lt (small1000 ht)
    refine ⟨_, (pss_cons (ps_set (i := 1) sc.nd rfl (Or.inl rfl) (pe_lst pa_nil))
  (pss_cons (ps_set (i := 2) sc.nd rfl (Or.inl rfl) pe_int)
  (pss_cons (ps_while PassesOwn.never (pt_cmpR op_lt (pv 2) (pe_callB call_len_str (by rfl) T.b_len PySem.boot_len (pa_cons (pv 0) pa_nil)) (nomark _))
  (pss_one (ps_if (pt_cmpR op_eq (pe_ix ix_str (pv 0) (pv 2) (fun _ _ => rfl)) pe_str (nomark _))
  (pss_one (ps_aug (i := 2) sc.nd rfl (Or.inl rfl) pe_int ip_add))
  (pss_cons (ps_set (i := 3) sc.nd rfl (Or.inl rfl) (pe_cal C_token_at hrtoken_at rfl pass0 (pa_cons (pv 0) (pa_cons (pv 2) pa_nil))))
  (pss_cons (ps_expr (pe_bm PySem.F.plainAttrs_list PySem.F.slot_list_append PySem.F.type_list_append mt_append (pv 1) (pa_cons (pe_tup (pa_cons (pv 2) (pa_cons (pv 3) pa_nil))) pa_nil)))
  (pss_cons (ps_if (pt_cmpR op_eq (pv 3) (pe_gstr rfl T.c_BAD) (nomark _))
  (pss_one (ps_ret (pv 1)))
  pss_nil)
  (pss_one (ps_aug (i := 2) sc.nd rfl (Or.inl rfl) (pe_callB call_len_str (by rfl) T.b_len PySem.boot_len (pa_cons (pv 3) pa_nil)) ip_add))))))))
  (pss_cons (ps_expr (pe_bm PySem.F.plainAttrs_list PySem.F.slot_list_append PySem.F.type_list_append mt_append (pv 1) (pa_cons (pe_tup (pa_cons (pv 2) (pa_cons (pe_gstr rfl T.c_END) pa_nil))) pa_nil)))
  (pss_one (ps_ret (pv 1))))))), ?_⟩
    obtain ⟨l, hl⟩ : ∃ l, t.cps.toList = l := ⟨_, rfl⟩
    have tl : t.length = l.length := by rw [← hl]; rfl
    rw [hl] at k
    refine ⟨Nat.zero_le _, fun p np => ?_⟩
    refine ⟨fun m σ H' => ∃ (n : Nat) (x3 : Option V) (xs : List V) (pre : List (Nat × Str)), n ≤ l.length ∧ m = l.length - n ∧ σ = [some (.str t), some (.ref p), some (.int (n : Int)), x3] ∧ Same H H' ∧ H' p = some (.lst xs) ∧ TokL K H' xs pre ∧ pre.length ≤ n ∧ pre ++ toksAt l n = toksAt l 0,
      ⟨_, 0, none, [], [], Nat.zero_le _, rfl, rfl, same_new np, upd_same, ⟨rfl, fun j v q h => by simp at h⟩, Nat.le_refl _, rfl⟩, ?_⟩
    rintro m σ H' ⟨n, x3, xs, pre, hn, rfl, rfl, s1, eP, tk, pl, et⟩
    by_cases c1 : n < l.length
    · refine ⟨_, rfl, _, rfl, t, rfl, big, _, _, rfl, rfl, _, rfl, iteP (decide_eq_true (by rw [tl]; omega)) ?_⟩
      have ec : l[n]? = some l[n] := List.getElem?_eq_getElem c1
      have ea : atI t.cps.toList (n : Int) = some l[n] := by rw [hl]; exact atI_nat ec
      refine ⟨fun σ' H'' => ∃ (n' : Nat) (x3 : Option V) (xs : List V) (pre : List (Nat × Str)), n < n' ∧ n' ≤ l.length ∧ σ' = [some (.str t), some (.ref p), some (.int (n' : Int)), x3] ∧ Same H H'' ∧ H'' p = some (.lst xs) ∧ TokL K H'' xs pre ∧ pre.length ≤ n' ∧ pre ++ toksAt l n' = toksAt l 0,
        fun σ' H'' ⟨n', x3, xs, pre, q1, q2, q3⟩ => ⟨l.length - n', by omega, n', x3, xs, pre, q2, rfl, q3⟩, ?_⟩
      refine ⟨_, rfl, _, rfl, t, _, _, rfl, rfl, big, ea, rfl, _, rfl, ?_⟩
      by_cases c2 : (⟨#[l[n]]⟩ : Str) = " "
      · refine iteP (by rw [decide_eq_true_eq, c2]) ?_
        refine ⟨_, rfl, _, _, rfl, rfl, n + 1, x3, xs, pre, Nat.lt_succ_self _, c1, rfl, s1, eP, tk, by omega, ?_⟩
        rw [← et, toksAt.eq_1 l n, dif_pos c1, if_pos c2]
      · refine iteN (by rw [decide_eq_true_eq]; intro z; injection z with z; exact c2 z) ?_
        refine ⟨_, rfl, _, rfl, t, n, rfl, ht, by omega, fun H1 s2 => ?_⟩
        rw [hl]
        have eP1 := s2 _ _ eP
        refine ⟨_, rfl, .inl ⟨rfl, _, SqL.of eP1⟩, _, rfl, _, rfl, (by show 2 ≤ sizeLine; decide), fun tt nt => ?_⟩
        have st : Same H1 (upd H1 tt (.tup [.int (n : Int), .str (tokAt l n)])) := same_new nt
        have ntp : tt ≠ p := fun e => by
          rw [e, eP1] at nt
          cases nt
        refine ⟨p, _, _, rfl, rfl, st _ _ eP1, by rw [tk.1]; exact small1000 (by omega), ?_⟩
        have kt : TupK (upd H1 tt (.tup [.int (n : Int), .str (tokAt l n)])) (upd (upd H1 tt (.tup [.int (n : Int), .str (tokAt l n)])) p (.lst (xs ++ [.ref tt]))) := TupK.keep keep_upd (st _ _ eP1)
        have tk3 := (tk.stay (((TupK.of s2).trans (TupK.of st)).trans kt)).snoc (a := tt) (n := n) (x := tokAt l n) (SqT.of ((upd_ne ntp).trans upd_same))
        have s3 : Same H (upd (upd H1 tt (.tup [.int (n : Int), .str (tokAt l n)])) p (.lst (xs ++ [.ref tt]))) := same_upd_new ((s1.trans s2).trans st) np
        refine ⟨_, rfl, rfl, _, rfl, ?_⟩
        by_cases c3 : tokAt l n = "bad"
        · refine iteP (by rw [decide_eq_true_eq, c3]) ⟨_, rfl, k p _ _ np s3 upd_same ?_⟩
          rw [← et, toksAt.eq_1 l n, dif_pos c1, if_neg c2, if_pos c3]
          rw [c3] at tk3 ⊢
          exact tk3
        · refine iteN (by rw [decide_eq_true_eq]; intro z; injection z with z; exact c3 z) ?_
          obtain ⟨w1, w2⟩ := tokAt_len c1 c3
          refine ⟨_, rfl, _, rfl, tokAt l n, rfl, Nat.le_of_lt (small1000 (by omega)), _, _, rfl, rfl, n + (tokAt l n).length, _, _, _, by omega, w2, by rfl, s3, upd_same, tk3, by rw [List.length_append, List.length_singleton]; omega, ?_⟩
          rw [← et, toksAt.eq_1 l n, dif_pos c1, if_neg c2, if_neg c3, Nat.max_eq_right w1, List.append_assoc]
          rfl
    · refine ⟨_, rfl, _, rfl, t, rfl, big, _, _, rfl, rfl, _, rfl, iteN (by rw [decide_eq_true_eq, tl]; omega) ?_⟩
      refine ⟨_, rfl, .inl ⟨rfl, _, SqL.of eP⟩, _, rfl, (by show 2 ≤ sizeLine; decide), fun tt nt => ?_⟩
      have st : Same H' (upd H' tt (.tup [.int (n : Int), .str "end"])) := same_new nt
      have ntp : tt ≠ p := fun e => by
        rw [e, eP] at nt
        cases nt
      refine ⟨p, _, _, rfl, rfl, st _ _ eP, by rw [tk.1]; exact small1000 (by omega), ?_⟩
      have kt : TupK (upd H' tt (.tup [.int (n : Int), .str "end"])) (upd (upd H' tt (.tup [.int (n : Int), .str "end"])) p (.lst (xs ++ [.ref tt]))) := TupK.keep keep_upd (st _ _ eP)
      have tk3 := (tk.stay ((TupK.of st).trans kt)).snoc (a := tt) (n := n) (x := "end") (SqT.of ((upd_ne ntp).trans upd_same))
      refine ⟨_, rfl, k p _ _ np (same_upd_new (s1.trans st) np) upd_same ?_⟩
      rw [← et, toksAt.eq_1 l n, dif_neg c1]
      exact tk3
end
end
section
set_option Elab.async false
set_option linter.all false
set_option maxRecDepth 100000
set_option maxHeartbeats 1000000
open PySem L2
/-! texts made of words, with spaces behind them: their tokens -/
def txt : List (Str × Nat) → List Nat
  | [] => []
  | (w, k) :: r => w.cps.toList ++ (List.replicate k 32 ++ txt r)
def Tw (w : Str) : Prop := (∃ c, w.cps.toList = [c] ∧ c ≠ 64 ∧ (c ∈ cSIGNS.cps.toList ∨ c ∈ cMARKS.cps.toList)) ∨ isCommand w = true
def TOk : List (Str × Nat) → Prop
  | [] => True
  | (w, k) :: r => Tw w ∧ (∀ w' k' r', r = (w', k') :: r' → isCommand w = true → headLet w' = true → 1 ≤ k) ∧ TOk r
theorem cmd_cps {w : Str} (h : isCommand w = true) : ∃ L, w.cps.toList = 64 :: L ∧ 1 ≤ L.length ∧ L.length ≤ 8 ∧ ∀ c ∈ L, c ∈ lets := by
  unfold isCommand at h
  simp only [Bool.and_eq_true, decide_eq_true_eq, List.all_eq_true] at h
  obtain ⟨⟨h1, h2, h3⟩, h4⟩ := h
  cases e : w.cps.toList with
  | nil =>
    rw [e] at h2
    simp at h2
  | cons c L =>
    rw [e] at h1 h2 h3 h4
    have h1 := eq_of_beq h1
    have h5 : [c] = [64] := congrArg (fun s : Str => s.cps.toList) h1
    cases h5
    exact ⟨L, rfl, h2, h3, h4⟩
theorem cmd_first {w : Str} (h : isCommand w = true) : ∃ L, w.cps.toList = 64 :: L := by
  obtain ⟨L, e, _⟩ := cmd_cps h
  exact ⟨L, e⟩
theorem run_app : ∀ {L rest : List Nat}, (∀ c ∈ L, c ∈ lets) → (∀ c, rest[0]? = some c → c ∉ lets) → runL (L ++ rest) = L.length
  | [], [], _, _ => rfl
  | [], c :: r, _, h => by
    show runL (c :: r) = 0
    unfold runL
    rw [if_neg (h c rfl)]
  | c :: L, rest, h1, h2 => by
    show runL (c :: (L ++ rest)) = L.length + 1
    unfold runL
    rw [if_pos (h1 c List.mem_cons_self), run_app (fun d hd => h1 d (List.mem_cons_of_mem _ hd)) h2]
theorem tw_pos {w : Str} (h : Tw w) : 1 ≤ w.cps.toList.length := by
  rcases h with ⟨c, e, _⟩ | h
  · rw [e]
    exact Nat.le_refl _
  · obtain ⟨L, e, _⟩ := cmd_cps h
    rw [e, List.length_cons]
    omega
theorem tw_bad {w : Str} (h : Tw w) : w ≠ "bad" := fun z => by
  subst z
  rcases h with ⟨c, e, _⟩ | h
  · have := congrArg List.length e
    have e3 : (("bad" : Str).cps.toList).length = 3 := by decide +kernel
    rw [e3] at this
    cases this
  · exact absurd h (by decide +kernel)
theorem at64 : (⟨#[64]⟩ : Str) = "@" := by decide +kernel
theorem at_ne {c : Nat} (h : c ≠ 64) : (⟨#[c]⟩ : Str) ≠ "@" := fun z => by
  have := congrArg (fun s : Str => s.cps.toList) z
  have e : [c] = [64] := this
  cases e
  exact h rfl
theorem tw_space {w : Str} {c : Nat} {L : List Nat} (h : Tw w) (e : w.cps.toList = c :: L) : c ≠ 32 := by
  rcases h with ⟨d, e2, _, h⟩ | h
  · rw [e2] at e
    cases e
    intro z
    subst z
    revert h
    decide +kernel
  · obtain ⟨M, e2⟩ := cmd_first h
    rw [e2] at e
    cases e
    decide
theorem str_of_cps {w : Str} {l : List Nat} (h : w.cps.toList = l) : w = ⟨l.toArray⟩ := by
  subst h
  rfl
theorem tok_word {l : List Nat} {n : Nat} {w : Str} {rest : List Nat} (h : Tw w) (hd : l.drop n = w.cps.toList ++ rest) (hr : isCommand w = true → ∀ c, rest[0]? = some c → c ∉ lets) : tokAt l n = w := by
  have g : ∀ c L, w.cps.toList = c :: L → l[n]? = some c := fun c L e => by
    have : (l.drop n)[0]? = some c := by rw [hd, e]; rfl
    rwa [List.getElem?_drop, Nat.add_zero] at this
  rcases h with ⟨c, e, c64, hc⟩ | h
  · unfold tokAt
    rw [g c [] e]
    show (if (⟨#[c]⟩ : Str) = "@" then cmdAt l n else if c ∈ cSIGNS.cps.toList ∨ c ∈ cMARKS.cps.toList then ⟨#[c]⟩ else "bad") = w
    rw [if_neg (at_ne c64), if_pos hc]
    exact (str_of_cps e).symm
  · obtain ⟨L, e, _, _, hL⟩ := cmd_cps h
    unfold tokAt
    rw [g 64 L e]
    show (if (⟨#[64]⟩ : Str) = "@" then cmdAt l n else _) = w
    rw [if_pos at64]
    have hd1 : l.drop (n + 1) = L ++ rest := by
      rw [← List.drop_drop, hd, e]
      rfl
    have ew : cmdW l n = w := by
      unfold cmdW
      rw [hd1, run_app hL (hr h), hd, e]
      have : (64 :: L ++ rest).take (1 + L.length) = 64 :: L := by
        rw [Nat.add_comm, List.cons_append, List.take_succ_cons, List.take_left]
      rw [this]
      exact (str_of_cps e).symm
    unfold cmdAt
    rw [ew, if_pos h]
theorem toks_spaces {l : List Nat} {t : List Nat} : ∀ (k n : Nat), l.drop n = List.replicate k 32 ++ t → toksAt l n = toksAt l (n + k)
  | 0, n, _ => rfl
  | k + 1, n, h => by
    have hn : n < l.length := by
      apply Nat.lt_of_not_le
      intro z
      rw [List.drop_eq_nil_of_le z] at h
      cases h
    have h2 : l[n]? = some 32 := by
      have : (l.drop n)[0]? = some 32 := by rw [h]; rfl
      rwa [List.getElem?_drop, Nat.add_zero] at this
    have h3 : l[n] = 32 := (List.getElem?_eq_some_iff.mp h2).2
    have h4 : l.drop (n + 1) = List.replicate k 32 ++ t := by
      rw [← List.drop_drop, h]
      rfl
    rw [toksAt.eq_1, dif_pos hn, if_pos (by rw [h3]; decide +kernel), toks_spaces k (n + 1) h4, show n + 1 + k = n + (k + 1) by omega]
theorem headLet_of {w : Str} {c : Nat} {L : List Nat} (e : w.cps.toList = c :: L) : headLet w = decide (c ∈ lets) := by
  unfold headLet
  rw [e]
  rfl
theorem toks_txt {l : List Nat} : ∀ {ws : List (Str × Nat)} {n : Nat}, TOk ws → l.drop n = txt ws → (toksAt l n).map Prod.snd = ws.map Prod.fst ++ [("end" : Str)]
  | [], n, _, h => by
    have hn : ¬ n < l.length := fun z => by
      have := congrArg List.length h
      rw [List.length_drop] at this
      have e : (txt []).length = 0 := rfl
      omega
    rw [toksAt.eq_1, dif_neg hn]
    rfl
  | (w, k) :: r, n, ⟨tw, hs, tr⟩, h => by
    have hp := tw_pos tw
    have hd : l.drop n = w.cps.toList ++ (List.replicate k 32 ++ txt r) := h
    have hn : n < l.length := by
      apply Nat.lt_of_not_le
      intro z
      rw [List.drop_eq_nil_of_le z] at hd
      have := congrArg List.length hd
      rw [List.length_append] at this
      rw [List.length_nil] at this
      omega
    obtain ⟨c, L, e⟩ : ∃ c L, w.cps.toList = c :: L := by
      cases e : w.cps.toList with
      | nil => rw [e] at hp; cases hp
      | cons c L => exact ⟨c, L, rfl⟩
    have h2 : l[n]? = some c := by
      have : (l.drop n)[0]? = some c := by rw [hd, e]; rfl
      rwa [List.getElem?_drop, Nat.add_zero] at this
    have h3 : l[n] = c := (List.getElem?_eq_some_iff.mp h2).2
    have tk : tokAt l n = w := tok_word tw hd fun hc d hd2 => by
      cases k with
      | succ k =>
        have : d = 32 := by
          have e : (List.replicate (k + 1) 32 ++ txt r)[0]? = some 32 := rfl
          rw [e] at hd2
          exact (Option.some.inj hd2).symm
        subst this
        decide +kernel
      | zero =>
        cases r with
        | nil => cases hd2
        | cons q r' =>
          obtain ⟨w', k'⟩ := q
          have tw' : Tw w' := tr.1
          obtain ⟨c', L', e'⟩ : ∃ c L, w'.cps.toList = c :: L := by
            have hp' := tw_pos tw'
            cases e : w'.cps.toList with
            | nil => rw [e] at hp'; cases hp'
            | cons c L => exact ⟨c, L, rfl⟩
          have : d = c' := by
            have e2 : (List.replicate 0 32 ++ txt ((w', k') :: r'))[0]? = some c' := by
              show (w'.cps.toList ++ _)[0]? = _
              rw [e']
              rfl
            rw [e2] at hd2
            exact (Option.some.inj hd2).symm
          subst this
          intro hl
          have := hs w' k' r' rfl hc (by rw [headLet_of e']; exact decide_eq_true hl)
          omega
    have ne : (⟨#[l[n]]⟩ : Str) ≠ " " := fun z => by
      rw [h3] at z
      have := congrArg (fun s : Str => s.cps.toList) z
      have e5 : [c] = [32] := this
      cases e5
      exact tw_space tw e rfl
    have el : w.length = w.cps.toList.length := rfl
    rw [toksAt.eq_1, dif_pos hn, if_neg ne, tk, if_neg (tw_bad tw), List.map_cons, Nat.max_eq_right (by rw [el]; exact hp)]
    have hd2 : l.drop (n + w.length) = List.replicate k 32 ++ txt r := by
      rw [← List.drop_drop, hd, el, List.drop_left]
    rw [toks_spaces k _ hd2, toks_txt (n := n + w.length + k) tr (by rw [← List.drop_drop, hd2]; exact List.drop_left' (List.length_replicate))]
    rfl
/-! which words are tokens -/
theorem sy_tw {x : Str} (h : Sy x) : Tw x := by
  have h := h.2
  unfold isSymbol at h
  split at h
  · rename_i hl
    cases e : x.cps.toList with
    | nil => rw [e] at hl; cases hl
    | cons c L =>
      rw [e] at hl h
      cases L with
      | cons _ _ => simp at hl
      | nil =>
        have hc : c ∈ cSIGNS.cps.toList := by simpa using h
        exact .inl ⟨c, e, fun z => absurd (z ▸ hc) (by decide +kernel), .inl hc⟩
  · rw [Bool.and_eq_true] at h
    exact .inr h.1
def marks : List Str := ["{", "}", "_", "^", "&", "~", "@frac", "@root", "@left", "@right", "@grid"]
theorem mark_tw {x : Str} (h : x ∈ marks) : Tw x := by
  have h1 : ∀ x ∈ (["{", "}", "_", "^", "&", "~"] : List Str), x.cps.toList.length = 1 ∧ ∀ c ∈ x.cps.toList, c ≠ 64 ∧ c ∈ cMARKS.cps.toList := by decide +kernel
  have h2 : ∀ x ∈ (["@frac", "@root", "@left", "@right", "@grid"] : List Str), isCommand x = true := by decide +kernel
  have h3 : x ∈ (["{", "}", "_", "^", "&", "~"] : List Str) ∨ x ∈ (["@frac", "@root", "@left", "@right", "@grid"] : List Str) := by
    have e : marks = (["{", "}", "_", "^", "&", "~"] : List Str) ++ (["@frac", "@root", "@left", "@right", "@grid"] : List Str) := rfl
    rw [e] at h
    exact List.mem_append.mp h
  rcases h3 with h | h
  · obtain ⟨a, b⟩ := h1 x h
    cases e : x.cps.toList with
    | nil => rw [e] at a; cases a
    | cons c L =>
      cases L with
      | cons _ _ => rw [e] at a; simp at a
      | nil => exact .inl ⟨c, e, (b c (by rw [e]; simp)).1, .inr (b c (by rw [e]; simp)).2⟩
  · exact .inr (h2 x h)
end
end Mg
namespace Mg.Pm
section
set_option Elab.async false
set_option linter.all false
set_option maxRecDepth 100000
set_option maxHeartbeats 1000000
open PySem L2
/-! what is read keeps to sizes -/
def OkP {α : Type} (P : α → Nat → Prop) : Out α → Prop
  | .ok a j => P a j
  | _ => True
theorem okp_bind {α β : Type} {P : α → Nat → Prop} {Q : β → Nat → Prop} {o : Out α} {f : α → Nat → Out β} (h : OkP P o) (k : ∀ a j, P a j → OkP Q (f a j)) : OkP Q (o.bind f) := by
  cases o with
  | ok a j => exact k a j h
  | bad j => trivial
  | deep => trivial
def wk9 (L : List Str) : Prop := ∀ x ∈ L, 1 ≤ x.length ∧ x.length ≤ 9
theorem wk_nil : wk9 [] := fun _ h => nomatch h
theorem wk_cons {x : Str} {L : List Str} (h : 1 ≤ x.length ∧ x.length ≤ 9) (t : wk9 L) : wk9 (x :: L) := fun y hy => by
  rcases List.mem_cons.mp hy with rfl | hy
  · exact h
  · exact t y hy
theorem wk_app {L M : List Str} (h : wk9 L) (t : wk9 M) : wk9 (L ++ M) := fun y hy => by
  rcases List.mem_append.mp hy with hy | hy
  · exact h y hy
  · exact t y hy
theorem sym_len {x : Str} (h : isSymbol x = true) : 1 ≤ x.length ∧ x.length ≤ 9 := by
  unfold isSymbol at h
  by_cases c : x.cps.toList.length = 1
  · rw [str_len, c]
    omega
  · rw [if_neg c, Bool.and_eq_true] at h
    obtain ⟨L, e, l1, l8, _⟩ := cmd_cps h.1
    rw [str_len, e, List.length_cons]
    omega
section
variable (sy : Str → Bool) (ws : List Str)
def RowP (k i : Nat) (r : FRow) (j : Nat) : Prop := r.words.length + 3 * i ≤ 3 * j ∧ wk9 r.words ∧ r.dep + 1 ≤ k
def ArgP (k i : Nat) (r : FRow) (j : Nat) : Prop := r.words.length + 2 + 3 * i ≤ 3 * j ∧ wk9 r.words ∧ r.dep + 1 ≤ k
def NucP (k i : Nat) (r : FNuc) (j : Nat) : Prop := r.words.length + 3 * i ≤ 3 * j ∧ wk9 r.words ∧ r.dep ≤ k
def ItemP (k i : Nat) (r : FItem) (j : Nat) : Prop := r.words.length + 3 * i ≤ 3 * j ∧ wk9 r.words ∧ r.dep ≤ k
def CellsP (k i : Nat) (r : FCells) (j : Nat) : Prop := ∀ s : Str, (1 ≤ s.length ∧ s.length ≤ 9) → (r.words s).length + 3 * i ≤ 3 * j + 1 ∧ wk9 (r.words s) ∧ r.dep ≤ k
def GridP (k i : Nat) (r : FGrid) (j : Nat) : Prop := (r.words "~").length + 3 * i ≤ 3 * j ∧ wk9 (r.words "~") ∧ r.dep ≤ k
def RowsP (k : Nat) (R : RowR) : Prop := ∀ st i, OkP (RowP k i) (R st i)
variable {sy ws}
theorem acc_p {w : Str} {i : Nat} : OkP (fun _ j => j = i + 1) (acc ws w i) := by
  unfold acc
  split
  · rfl
  · trivial
theorem symO_p (hs : ∀ x, sy x = true → 1 ≤ x.length ∧ x.length ≤ 9) {i : Nat} : OkP (fun x j => j = i + 1 ∧ 1 ≤ x.length ∧ x.length ≤ 9) (symO sy ws i) := by
  unfold symO
  split
  · rename_i h
    exact ⟨rfl, hs _ h⟩
  · trivial
variable {R : RowR} {k : Nat}
theorem braced_p (hR : RowsP k R) {i : Nat} : OkP (ArgP k i) (bracedO ws R i) := by
  unfold bracedO
  refine okp_bind acc_p fun _ j hj => okp_bind (hR _ j) fun r l hl => okp_bind acc_p fun _ m hm => ?_
  obtain ⟨h1, h2, h3⟩ := hl
  exact ⟨by omega, h2, h3⟩
theorem arg_p (hs : ∀ x, sy x = true → 1 ≤ x.length ∧ x.length ≤ 9) (hR : RowsP k R) {dp : Bool} (hk : dp = false → 1 ≤ k) {i : Nat} : OkP (ArgP k i) (argO sy ws R dp i) := by
  unfold argO
  split
  · exact braced_p hR
  · refine okp_bind (symO_p hs) fun x j ⟨hj, hx⟩ => ?_
    cases dp with
    | true => trivial
    | false =>
      have := hk rfl
      refine ⟨?_, wk_cons hx wk_nil, ?_⟩
      · show 1 + 2 + 3 * i ≤ 3 * j
        omega
      · show max (max 0 (max 0 0)) 0 + 1 ≤ k
        simpa using this
theorem del_p (hs : ∀ x, sy x = true → 1 ≤ x.length ∧ x.length ≤ 9) {i : Nat} : OkP (fun o j => j = i + 1 ∧ 1 ≤ (delimW o).length ∧ (delimW o).length ≤ 9) (delO sy ws i) := by
  unfold delO
  refine okp_bind (symO_p hs) fun x j ⟨hj, hx⟩ => ?_
  refine ⟨hj, ?_⟩
  by_cases c : x = "."
  · rw [if_pos c]
    decide +kernel
  · rw [if_neg c]
    exact hx
theorem fence_p (hs : ∀ x, sy x = true → 1 ≤ x.length ∧ x.length ≤ 9) (hR : RowsP k R) {i : Nat} : OkP (NucP k i) (fenceO sy ws R i) := by
  unfold fenceO
  refine okp_bind acc_p fun _ a ha => okp_bind (del_p hs) fun o b ⟨hb, ho⟩ => okp_bind (hR _ b) fun r c hc => okp_bind acc_p fun _ d hd => okp_bind (del_p hs) fun q e ⟨he, hq⟩ => ?_
  obtain ⟨h1, h2, h3⟩ := hc
  refine ⟨?_, wk_cons (by decide +kernel) (wk_cons ho (wk_app h2 (wk_cons (by decide +kernel) (wk_cons hq wk_nil)))), h3⟩
  show (("@left" : Str) :: delimW o :: (r.words ++ [("@right" : Str), delimW q])).length + 3 * i ≤ 3 * e
  rw [List.length_cons, List.length_cons, List.length_append]
  simp only [List.length_cons, List.length_nil]
  omega
theorem cells_p (hR : RowsP k R) {many : Option Nat} {ends : List Str} : ∀ (n c i : Nat), OkP (CellsP k i) (cellsO ws R many ends n c i)
  | 0, _, _ => trivial
  | n + 1, c, i => by
    unfold cellsO
    refine okp_bind (hR _ i) fun r j ⟨h1, h2, h3⟩ => ?_
    split
    · refine okp_bind (cells_p hR n (c + 1) (j + 1)) fun cs l hl => ?_
      obtain ⟨g1, g2, g3⟩ := hl "&" (by decide +kernel)
      refine fun s hs => ⟨?_, wk_cons hs (wk_app h2 g2), Nat.max_le.mpr ⟨h3, g3⟩⟩
      show (s :: (r.words ++ cs.words "&")).length + 3 * i ≤ 3 * l + 1
      rw [List.length_cons, List.length_append]
      omega
    · refine fun s hs => ⟨?_, wk_cons hs (wk_app h2 wk_nil), Nat.max_le.mpr ⟨h3, Nat.zero_le _⟩⟩
      show (s :: (r.words ++ [])).length + 3 * i ≤ 3 * j + 1
      rw [List.length_cons, List.append_nil]
      omega
theorem gridR_p (hR : RowsP k R) {m : Nat} : ∀ (n c i : Nat), OkP (GridP k i) (gridR ws R m n c i)
  | 0, _, _ => trivial
  | n + 1, c, i => by
    unfold gridR
    split
    · refine okp_bind (cells_p hR _ _ _) fun cs j hj => okp_bind (gridR_p hR n (c + 1) j) fun g l ⟨h1, h2, h3⟩ => ?_
      obtain ⟨g1, g2, g3⟩ := hj "~" (by decide +kernel)
      refine ⟨?_, wk_app g2 h2, Nat.max_le.mpr ⟨g3, h3⟩⟩
      show (cs.words "~" ++ g.words "~").length + 3 * i ≤ 3 * l
      rw [List.length_append]
      omega
    · refine ⟨?_, wk_nil, Nat.zero_le _⟩
      show 0 + 3 * i ≤ 3 * i
      omega
theorem grid_p (hR : RowsP k R) {i : Nat} : OkP (NucP k i) (gridO ws R i) := by
  unfold gridO
  refine okp_bind acc_p fun _ a ha => okp_bind acc_p fun _ b hb => okp_bind (cells_p hR _ _ _) fun cs c hc => okp_bind (gridR_p hR _ _ _) fun g d ⟨h1, h2, h3⟩ => okp_bind acc_p fun _ e he => ?_
  obtain ⟨g1, g2, g3⟩ := hc "{" (by decide +kernel)
  refine ⟨?_, wk_cons (by decide +kernel) (wk_app (wk_app g2 h2) (wk_cons (by decide +kernel) wk_nil)), Nat.max_le.mpr ⟨g3, h3⟩⟩
  show (("@grid" : Str) :: ((cs.words "{" ++ g.words "~") ++ [("}" : Str)])).length + 3 * i ≤ 3 * e
  rw [List.length_cons, List.length_append, List.length_append, List.length_singleton]
  omega
theorem nuc_p (hs : ∀ x, sy x = true → 1 ≤ x.length ∧ x.length ≤ 9) (hR : RowsP k R) {dp : Bool} (hk : dp = false → 1 ≤ k) {i : Nat} : OkP (NucP k i) (nucO sy ws R dp i) := by
  unfold nucO
  split
  · refine okp_bind (braced_p hR) fun r j ⟨h1, h2, h3⟩ => ?_
    refine ⟨?_, wk_cons (by decide +kernel) (wk_app h2 (wk_cons (by decide +kernel) wk_nil)), h3⟩
    show (("{" : Str) :: (r.words ++ [("}" : Str)])).length + 3 * i ≤ 3 * j
    rw [List.length_cons, List.length_append, List.length_singleton]
    omega
  split
  · refine okp_bind (arg_p hs hR hk) fun o j ⟨h1, h2, h3⟩ => okp_bind (arg_p hs hR hk) fun u l ⟨g1, g2, g3⟩ => ?_
    refine ⟨?_, wk_cons (by decide +kernel) (wk_cons (by decide +kernel) (wk_app h2 (wk_cons (by decide +kernel) (wk_cons (by decide +kernel) (wk_app g2 (wk_cons (by decide +kernel) wk_nil)))))), Nat.max_le.mpr ⟨h3, g3⟩⟩
    show (("@frac" : Str) :: "{" :: (o.words ++ (("}" : Str) :: "{" :: (u.words ++ [("}" : Str)])))).length + 3 * i ≤ 3 * l
    rw [List.length_cons, List.length_cons, List.length_append, List.length_cons, List.length_cons, List.length_append, List.length_singleton]
    omega
  split
  · refine okp_bind (arg_p hs hR hk) fun r j ⟨h1, h2, h3⟩ => ?_
    refine ⟨?_, wk_cons (by decide +kernel) (wk_cons (by decide +kernel) (wk_app h2 (wk_cons (by decide +kernel) wk_nil))), h3⟩
    show (("@root" : Str) :: "{" :: (r.words ++ [("}" : Str)])).length + 3 * i ≤ 3 * j
    rw [List.length_cons, List.length_cons, List.length_append, List.length_singleton]
    omega
  split
  · exact fence_p hs hR
  split
  · exact grid_p hR
  · refine okp_bind (symO_p hs) fun x j ⟨hj, hx⟩ => ?_
    refine ⟨?_, wk_cons hx wk_nil, Nat.zero_le _⟩
    show 1 + 3 * i ≤ 3 * j
    omega
def ScrP (k i : Nat) (b a b' a' : FScr) (j : Nat) : Prop := (b'.words "_").length + (a'.words "^").length + 3 * i ≤ 3 * j + (b.words "_").length + (a.words "^").length ∧ wk9 (b'.words "_") ∧ wk9 (a'.words "^") ∧ b'.dep ≤ k ∧ a'.dep ≤ k
theorem scrs_p (hs : ∀ x, sy x = true → 1 ≤ x.length ∧ x.length ≤ 9) (hR : RowsP k R) {dp : Bool} (hk : dp = false → 1 ≤ k) : ∀ (n : Nat) (b a : FScr) (i : Nat), wk9 (b.words "_") → wk9 (a.words "^") → b.dep ≤ k → a.dep ≤ k → OkP (fun p j => ScrP k i b a p.1 p.2 j) (scrsO sy ws R dp n b a i)
  | 0, b, a, i, h1, h2, h3, h4 => ⟨by dsimp only; omega, h1, h2, h3, h4⟩
  | n + 1, b, a, i, h1, h2, h3, h4 => by
    unfold scrsO
    have ew : ∀ (r : FRow) (s : Str), ((FScr.yes r).words s).length = r.words.length + 3 := fun r s => by
      show (s :: "{" :: (r.words ++ [("}" : Str)])).length = _
      rw [List.length_cons, List.length_cons, List.length_append, List.length_singleton]
    split
    · rename_i c
      refine okp_bind (arg_p hs hR hk) fun r j ⟨g1, g2, g3⟩ => ?_
      have q := scrs_p hs hR hk n (.yes r) a j (wk_cons (by decide +kernel) (wk_cons (by decide +kernel) (wk_app g2 (wk_cons (by decide +kernel) wk_nil)))) h2 g3 h4
      cases e : scrsO sy ws R dp n (.yes r) a j with
      | ok p l =>
        rw [e] at q
        obtain ⟨q1, q2⟩ := q
        rw [ew] at q1
        exact ⟨by omega, q2⟩
      | bad l => trivial
      | deep => trivial
    split
    · rename_i c
      refine okp_bind (arg_p hs hR hk) fun r j ⟨g1, g2, g3⟩ => ?_
      have q := scrs_p hs hR hk n b (.yes r) j h1 (wk_cons (by decide +kernel) (wk_cons (by decide +kernel) (wk_app g2 (wk_cons (by decide +kernel) wk_nil)))) h3 g3
      cases e : scrsO sy ws R dp n b (.yes r) j with
      | ok p l =>
        rw [e] at q
        obtain ⟨q1, q2⟩ := q
        rw [ew] at q1
        exact ⟨by omega, q2⟩
      | bad l => trivial
      | deep => trivial
    · exact ⟨by dsimp only; omega, h1, h2, h3, h4⟩
theorem item_p (hs : ∀ x, sy x = true → 1 ≤ x.length ∧ x.length ≤ 9) (hR : RowsP k R) {dp : Bool} (hk : dp = false → 1 ≤ k) {i : Nat} : OkP (ItemP k i) (itemO sy ws R dp i) := by
  unfold itemO
  refine okp_bind (nuc_p hs hR hk) fun n j ⟨h1, h2, h3⟩ => okp_bind (scrs_p hs hR hk 3 .no .no j wk_nil wk_nil (Nat.zero_le _) (Nat.zero_le _)) fun p l ⟨g1, g2, g3, g4, g5⟩ => ?_
  refine ⟨?_, wk_app h2 (wk_app g2 g3), Nat.max_le.mpr ⟨h3, Nat.max_le.mpr ⟨g4, g5⟩⟩⟩
  show (n.words ++ (p.1.words "_" ++ p.2.words "^")).length + 3 * i ≤ 3 * l
  rw [List.length_append, List.length_append]
  have : (FScr.no.words "_").length = 0 := rfl
  have : (FScr.no.words "^").length = 0 := rfl
  omega
theorem rowL_p (hs : ∀ x, sy x = true → 1 ≤ x.length ∧ x.length ≤ 9) (hR : RowsP k R) {dp : Bool} (hk : dp = false → 1 ≤ k) {st : List Str} : ∀ (n i : Nat), OkP (RowP (k + 1) i) (rowL sy ws R dp st n i)
  | 0, _ => trivial
  | n + 1, i => by
    unfold rowL
    split
    · refine ⟨?_, wk_nil, ?_⟩
      · show 0 + 3 * i ≤ 3 * i
        omega
      · show 0 + 1 ≤ k + 1
        omega
    · refine okp_bind (item_p hs hR hk) fun it j ⟨h1, h2, h3⟩ => okp_bind (rowL_p hs hR hk n j) fun r l ⟨g1, g2, g3⟩ => ?_
      refine ⟨?_, wk_app h2 g2, ?_⟩
      · show (it.words ++ r.words).length + 3 * i ≤ 3 * l
        rw [List.length_append]
        omega
      · show max it.dep r.dep + 1 ≤ k + 1
        have := Nat.max_le.mpr ⟨h3, Nat.le_of_succ_le_succ g3⟩
        omega
theorem rowAt_p (hs : ∀ x, sy x = true → 1 ≤ x.length ∧ x.length ≤ 9) : ∀ k, RowsP k (rowAt sy ws k)
  | 0 => fun _ _ => trivial
  | k + 1 => fun st i => rowL_p hs (rowAt_p hs k) (fun h => by
      have : k ≠ 0 := by simpa using h
      omega) _ _
end
/-- what parse makes of a text -/
inductive PRes where
  | ok (r : FRow) | bad (z : Int) | deep | large | long
end
end Mg.Pm
namespace Mg
section
set_option Elab.async false
set_option linter.all false
set_option maxRecDepth 100000
set_option maxHeartbeats 1000000
open PySem L2
theorem flat_congr {α β : Type} {f g : α → List β} : ∀ {l : List α}, (∀ a ∈ l, f a = g a) → l.flatMap f = l.flatMap g
  | [], _ => rfl
  | a :: l, h => by rw [List.flatMap_cons, List.flatMap_cons, h a List.mem_cons_self, flat_congr fun b hb => h b (List.mem_cons_of_mem _ hb)]
theorem if_ne {α β : Type} {b : Bool} {x : α} {l : List α} {u v : β} : (if b = true ∧ x :: l ≠ [] then u else v) = if b = true then u else v := by simp
/-! the normal text as words with spaces -/
def spW : List Str → List (Str × Nat)
  | [] => []
  | [w] => [(w, 0)]
  | w :: w' :: r => (w, if (headLet w' && Txt.startswith w "@") = true then 1 else 0) :: spW (w' :: r)
theorem spW_fst : ∀ ws : List Str, (spW ws).map Prod.fst = ws
  | [] => rfl
  | [w] => rfl
  | w :: w' :: r => by rw [spW, List.map_cons, spW_fst (w' :: r)]
theorem join_cps : ∀ l : List Str, (Str.join "" l).cps.toList = l.flatMap fun x => x.cps.toList
  | [] => rfl
  | [x] => by simp [Str.join]
  | x :: y :: r => by
    show (x ++ ("" : Str) ++ Str.join "" (y :: r)).cps.toList = _
    rw [List.flatMap_cons, ← join_cps (y :: r)]
    show ((x.cps ++ (#[] : Array Nat)) ++ (Str.join "" (y :: r)).cps).toList = _
    simp
def spP (prev : Option Str) (ws : List Str) : Nat → Bool
  | 0 => match prev with
    | none => false
    | some p => headLet (ws.getD 0 "") && Txt.startswith p "@"
  | k + 1 => headLet (ws.getD (k + 1) "") && Txt.startswith (ws.getD k "") "@"
def gU (prev : Option Str) (ws : List Str) : List Nat := (List.range ws.length).flatMap fun k => (if spP prev ws k = true then [32] else []) ++ (ws.getD k "").cps.toList
theorem gU_cons (prev : Option Str) (w : Str) (r : List Str) : gU prev (w :: r) = (if spP prev (w :: r) 0 = true then [32] else []) ++ w.cps.toList ++ gU (some w) r := by
  unfold gU
  rw [List.length_cons, List.range_succ_eq_map, List.flatMap_cons, List.flatMap_map]
  congr 1
  refine flat_congr fun k _ => ?_
  cases k <;> rfl
theorem gU_txt : ∀ (p : Str) (ws : List Str), gU (some p) ws = (if spP (some p) ws 0 = true ∧ ws ≠ [] then [32] else []) ++ txt (spW ws)
  | p, [] => by
    rw [if_neg (fun z => z.2 rfl)]
    rfl
  | p, [w] => by
    rw [gU_cons]
    by_cases c : spP (some p) [w] 0 = true
    · rw [if_pos c, if_pos ⟨c, by simp⟩]
      simp [gU, spW, txt]
    · rw [if_neg c, if_neg (fun z => c z.1)]
      simp [gU, spW, txt]
  | p, w :: w' :: r => by
    rw [gU_cons, gU_txt w (w' :: r)]
    have e : txt (spW (w :: w' :: r)) = w.cps.toList ++ ((if spP (some w) (w' :: r) 0 = true ∧ w' :: r ≠ [] then [32] else []) ++ txt (spW (w' :: r))) := by
      rw [spW, txt]
      congr 2
      have e2 : spP (some w) (w' :: r) 0 = (headLet w' && Txt.startswith w "@") := rfl
      rw [e2]
      by_cases c : (headLet w' && Txt.startswith w "@") = true
      · rw [if_pos c, if_pos ⟨c, by simp⟩]
        rfl
      · rw [if_neg c, if_neg (fun z => c z.1)]
        rfl
    rw [e, List.append_assoc, if_ne, if_ne]
theorem glue_txt (ws : List Str) : (glueW ws).cps.toList = txt (spW ws) := by
  have e1 : (glueW ws).cps.toList = gU none ws := by
    unfold glueW
    rw [TL.join_eq, join_cps]
    unfold partsW gU
    rw [List.flatMap_assoc]
    refine flat_congr fun k _ => ?_
    unfold partAt
    have e2 : spaceAt ws k = spP none ws k := by
      cases k with
      | zero => rfl
      | succ k =>
        unfold spaceAt spP
        rw [decide_eq_true (Nat.succ_pos k), Bool.true_and]
        rfl
    rw [e2]
    split
    · show [(" " : Str), ws.getD k ""].flatMap _ = _
      rw [List.flatMap_cons, List.flatMap_cons, List.flatMap_nil, List.append_nil]
      rfl
    · show [ws.getD k ""].flatMap _ = _
      rw [List.flatMap_cons, List.flatMap_nil, List.append_nil]
      rfl
  rw [e1]
  cases ws with
  | nil => rfl
  | cons w r =>
    rw [gU_cons, gU_txt]
    have e0 : spP none (w :: r) 0 = false := rfl
    rw [e0, if_neg (by decide), List.nil_append]
    cases r with
    | nil =>
      rw [if_neg (fun z => z.2 rfl)]
      simp [spW, txt]
    | cons w' r =>
      have e2 : spP (some w) (w' :: r) 0 = (headLet w' && Txt.startswith w "@") := rfl
      rw [e2, spW, txt]
      congr 2
      by_cases c : (headLet w' && Txt.startswith w "@") = true
      · rw [if_pos c, if_pos ⟨c, by simp⟩]
        rfl
      · rw [if_neg c, if_neg (fun z => c z.1)]
        rfl
theorem starts_at {w : Str} (h : isCommand w = true) : Txt.startswith w "@" = true := by
  obtain ⟨L, e⟩ := cmd_first h
  rw [str_of_cps e]
  unfold Txt.startswith
  rw [Bool.and_eq_true]
  refine ⟨decide_eq_true ?_, ?_⟩
  · show 0 + 1 ≤ (64 :: L).length
    simp
  · simp [PySem.Builtin.Str.subAt]
    rfl
theorem spW_ok : ∀ {ws : List Str}, (∀ x ∈ ws, Tw x) → TOk (spW ws)
  | [], _ => trivial
  | [w], h => ⟨h w (by simp), (fun _ _ _ e => by cases e), trivial⟩
  | w :: w' :: r, h => by
    refine ⟨h w (by simp), fun v k r' e hc hl => ?_, spW_ok fun x hx => h x (List.mem_cons_of_mem _ hx)⟩
    have e2 : v = w' := by
      have := congrArg (fun l => l.map Prod.fst) e
      rw [spW_fst, List.map_cons] at this
      injection this with a b
      exact a.symm
    subst e2
    rw [if_pos (by rw [hl, starts_at hc]; rfl)]
    exact Nat.le_refl 1
end
end Mg
namespace Mg.Pm
section
set_option Elab.async false
set_option linter.all false
set_option maxRecDepth 100000
set_option maxHeartbeats 1000000
open PySem L2
/-! what the Reader makes of nested and repeated words -/
inductive EC where
  | bad (j : Nat) | deep
def EC.out {α : Type} : EC → Out α
  | .bad j => .bad j
  | .deep => .deep
theorem ec_bind {α β : Type} (e : EC) (f : α → Nat → Out β) : (e.out : Out α).bind f = e.out := by cases e <;> rfl
theorem ok_bind {α β : Type} (a : α) (j : Nat) (f : α → Nat → Out β) : (Out.ok a j).bind f = f a j := rfl
section
variable {ws : List Str} {i j k : Nat} {st : List Str} {R : RowR} {dp : Bool} {x y : Str}
theorem hd_at (h : ws[i]? = some x) : hd ws i = x := by
  unfold hd
  rw [List.getD_eq_getElem?_getD, h]
  rfl
theorem sy_nt {z : Str} (h : isSymbol x = true) (e : isSymbol z = false) : x ≠ z := fun q => by
  rw [q, e] at h
  cases h
theorem nuc_sym (h : hd ws i = x) (sx : isSymbol x = true) : nucO isSymbol ws R dp i = .ok (.sym x) (i + 1) := by
  unfold nucO symO
  rw [h, if_neg (sy_nt sx (by decide +kernel)), if_neg (sy_nt sx (by decide +kernel)), if_neg (sy_nt sx (by decide +kernel)), if_neg (sy_nt sx (by decide +kernel)), if_neg (sy_nt sx (by decide +kernel)), if_pos sx]
  rfl
theorem nuc_bad (sx : isSymbol (hd ws i) = false) (h : hd ws i ∉ (["{", "@frac", "@root", "@left", "@grid"] : List Str)) : nucO isSymbol ws R dp i = .bad i := by
  simp only [List.mem_cons, List.not_mem_nil, or_false, not_or] at h
  unfold nucO symO
  rw [if_neg h.1, if_neg h.2.1, if_neg h.2.2.1, if_neg h.2.2.2.1, if_neg h.2.2.2.2, sx]
  rfl
theorem scrs_end (h1 : hd ws i ≠ "_") (h2 : hd ws i ≠ "^") (b a : FScr) : ∀ n, scrsO isSymbol ws R dp n b a i = .ok (b, a) i
  | 0 => rfl
  | n + 1 => by
    unfold scrsO
    rw [if_neg fun z => h1 z.1, if_neg fun z => h2 z.1]
theorem item_of {n : FNuc} (hn : nucO isSymbol ws R dp i = .ok n j) (h1 : hd ws j ≠ "_") (h2 : hd ws j ≠ "^") : itemO isSymbol ws R dp i = .ok (.mk n .no .no) j := by
  unfold itemO
  rw [hn, ok_bind, scrs_end h1 h2]
  rfl
theorem item_err {e : EC} (hn : nucO isSymbol ws R dp i = e.out) : itemO isSymbol ws R dp i = e.out := by
  unfold itemO
  rw [hn, ec_bind]
theorem braced_ok {r : FRow} (h1 : hd ws i = "{") (h2 : R ["}"] (i + 1) = .ok r j) (h3 : hd ws j = "}") : bracedO ws R i = .ok r (j + 1) := by
  unfold bracedO acc
  rw [if_pos h1, ok_bind, h2, ok_bind, if_pos h3]
  rfl
theorem braced_err {e : EC} (h1 : hd ws i = "{") (h2 : R ["}"] (i + 1) = e.out) : bracedO ws R i = e.out := by
  unfold bracedO acc
  rw [if_pos h1, ok_bind, h2, ec_bind]
theorem arg_one (h : hd ws i = x) (sx : isSymbol x = true) : argO isSymbol ws R dp i = if dp = true then .deep else .ok (one x) (i + 1) := by
  unfold argO symO
  rw [h, if_neg (sy_nt sx (by decide +kernel)), if_pos sx]
  rfl
theorem arg_brace (h1 : hd ws i = "{") : argO isSymbol ws R dp i = bracedO ws R i := if_pos h1
/-- kinds of nesting -/
def bW : Nat → List Str
  | 0 => ["{"]
  | 1 => ["@root", "{"]
  | 2 => ["@left", "."]
  | 3 => ["x", "^", "{"]
  | 4 => ["@grid", "{"]
  | _ => ["@frac", "{", "}", "{"]
def eW : Nat → List Str
  | 2 => ["@right", "."]
  | _ => ["}"]
def stK : Nat → List Str
  | 2 => ["@right"]
  | 4 => ["&", "~", "}"]
  | _ => ["}"]
def itK (c : Nat) (f : FRow) : FItem := match c with
  | 0 => .mk (.group f) .no .no
  | 1 => .mk (.root f) .no .no
  | 2 => .mk (.fence none none f) .no .no
  | 3 => .mk (.sym "x") .no (.yes f)
  | 4 => .mk (.grid (.cons (.cons f .nil) .nil)) .no .no
  | _ => .mk (.frac .nil f) .no .no
theorem item_nest {c : Nat} {f : FRow} (hc : c < 6) (h : At ws i (bW c)) (hR : R (stK c) (i + (bW c).length) = .ok f j) (h5 : c = 5 → R ["}"] (i + 2) = .ok .nil (i + 2)) (he : At ws j (eW c ++ [y])) (y1 : y ≠ "_") (y2 : y ≠ "^") : itemO isSymbol ws R dp i = .ok (itK c f) (j + (eW c).length) := by
  have hy : ∀ {m : Nat}, ws[m]? = some y → hd ws m ≠ "_" ∧ hd ws m ≠ "^" := fun h => by rw [hd_at h]; exact ⟨y1, y2⟩
  match c, hc with
  | 0, _ =>
    obtain ⟨w1, _⟩ := at_cons.mp h
    obtain ⟨e1, e2⟩ := at_cons.mp he
    have e2 := (at_cons.mp e2).1
    refine item_of ?_ (hy e2).1 (hy e2).2
    unfold nucO
    rw [if_pos (hd_at w1), braced_ok (hd_at w1) hR (hd_at e1)]
    rfl
  | 1, _ =>
    obtain ⟨w1, w2⟩ := at_cons.mp h
    obtain ⟨w2, _⟩ := at_cons.mp w2
    obtain ⟨e1, e2⟩ := at_cons.mp he
    have e2 := (at_cons.mp e2).1
    refine item_of ?_ (hy e2).1 (hy e2).2
    unfold nucO
    rw [hd_at w1, if_neg (by decide +kernel), if_neg (by decide +kernel), if_pos rfl, arg_brace (hd_at w2), braced_ok (hd_at w2) hR (hd_at e1)]
    rfl
  | 2, _ =>
    obtain ⟨w1, w2⟩ := at_cons.mp h
    obtain ⟨w2, _⟩ := at_cons.mp w2
    obtain ⟨e1, e2⟩ := at_cons.mp he
    obtain ⟨e2, e3⟩ := at_cons.mp e2
    have e3 := (at_cons.mp e3).1
    refine item_of ?_ (hy e3).1 (hy e3).2
    unfold nucO fenceO delO symO acc
    rw [hd_at w1, if_neg (by decide +kernel), if_neg (by decide +kernel), if_neg (by decide +kernel), if_pos rfl, if_pos rfl, ok_bind, hd_at w2, if_pos (by decide +kernel), ok_bind, ok_bind]
    have hR : R ["@right"] (i + 1 + 1) = .ok f j := hR
    rw [hR, ok_bind, if_pos (hd_at e1), ok_bind, hd_at e2, if_pos (by decide +kernel), ok_bind, ok_bind, if_pos rfl]
    rfl
  | 3, _ =>
    obtain ⟨w1, w2⟩ := at_cons.mp h
    obtain ⟨w2, w3⟩ := at_cons.mp w2
    obtain ⟨w3, _⟩ := at_cons.mp w3
    obtain ⟨e1, e2⟩ := at_cons.mp he
    have e2 := (at_cons.mp e2).1
    unfold itemO
    rw [nuc_sym (hd_at w1) (by decide +kernel), ok_bind]
    unfold scrsO
    have hR : R ["}"] (i + 1 + 1 + 1) = .ok f j := hR
    rw [hd_at w2, if_neg (fun z => absurd z.1 (by decide +kernel)), if_pos ⟨rfl, rfl⟩, arg_brace (hd_at w3), braced_ok (hd_at w3) hR (hd_at e1), ok_bind, scrs_end (hy e2).1 (hy e2).2]
    rfl
  | 4, _ =>
    obtain ⟨w1, w2⟩ := at_cons.mp h
    obtain ⟨w2, _⟩ := at_cons.mp w2
    obtain ⟨e1, e2⟩ := at_cons.mp he
    have e2 := (at_cons.mp e2).1
    refine item_of ?_ (hy e2).1 (hy e2).2
    have hR : R (stopsC 1 none ["~", "}"]) (i + 1 + 1) = .ok f j := hR
    unfold nucO gridO acc
    rw [hd_at w1, if_neg (by decide +kernel), if_neg (by decide +kernel), if_neg (by decide +kernel), if_neg (by decide +kernel), if_pos rfl, if_pos rfl, ok_bind, if_pos (hd_at w2), ok_bind]
    unfold cellsO
    rw [hR, ok_bind, hd_at e1, if_neg (by decide +kernel), ok_bind]
    unfold gridR
    rw [hd_at e1, if_neg (by decide +kernel), ok_bind, if_pos (hd_at e1)]
    rfl
  | 5, _ =>
    obtain ⟨w1, w2⟩ := at_cons.mp h
    obtain ⟨w2, w3⟩ := at_cons.mp w2
    obtain ⟨w3, w4⟩ := at_cons.mp w3
    obtain ⟨w4, _⟩ := at_cons.mp w4
    obtain ⟨e1, e2⟩ := at_cons.mp he
    have e2 := (at_cons.mp e2).1
    refine item_of ?_ (hy e2).1 (hy e2).2
    have hR : R ["}"] (i + 1 + 1 + 1 + 1) = .ok f j := hR
    unfold nucO
    rw [hd_at w1, if_neg (by decide +kernel), if_pos rfl, arg_brace (hd_at w2), braced_ok (hd_at w2) (h5 rfl) (hd_at w3), ok_bind, arg_brace (hd_at w4), braced_ok (hd_at w4) hR (hd_at e1)]
    rfl
  | n + 6, h => omega
theorem item_nestE {c : Nat} {e : EC} (hc : c < 6) (h : At ws i (bW c)) (hR : R (stK c) (i + (bW c).length) = e.out) (h5 : c = 5 → R ["}"] (i + 2) = .ok .nil (i + 2) ∨ R ["}"] (i + 2) = e.out) : itemO isSymbol ws R dp i = e.out := by
  match c, hc with
  | 0, _ =>
    obtain ⟨w1, _⟩ := at_cons.mp h
    refine item_err ?_
    unfold nucO
    rw [if_pos (hd_at w1), braced_err (hd_at w1) hR, ec_bind]
  | 1, _ =>
    obtain ⟨w1, w2⟩ := at_cons.mp h
    obtain ⟨w2, _⟩ := at_cons.mp w2
    refine item_err ?_
    unfold nucO
    rw [hd_at w1, if_neg (by decide +kernel), if_neg (by decide +kernel), if_pos rfl, arg_brace (hd_at w2), braced_err (hd_at w2) hR, ec_bind]
  | 2, _ =>
    obtain ⟨w1, w2⟩ := at_cons.mp h
    obtain ⟨w2, _⟩ := at_cons.mp w2
    refine item_err ?_
    unfold nucO fenceO delO symO acc
    rw [hd_at w1, if_neg (by decide +kernel), if_neg (by decide +kernel), if_neg (by decide +kernel), if_pos rfl, if_pos rfl, ok_bind, hd_at w2, if_pos (by decide +kernel), ok_bind, ok_bind]
    have hR : R ["@right"] (i + 1 + 1) = e.out := hR
    rw [hR, ec_bind]
  | 3, _ =>
    obtain ⟨w1, w2⟩ := at_cons.mp h
    obtain ⟨w2, w3⟩ := at_cons.mp w2
    obtain ⟨w3, _⟩ := at_cons.mp w3
    unfold itemO
    rw [nuc_sym (hd_at w1) (by decide +kernel), ok_bind]
    unfold scrsO
    have hR : R ["}"] (i + 1 + 1 + 1) = e.out := hR
    rw [hd_at w2, if_neg (fun z => absurd z.1 (by decide +kernel)), if_pos ⟨rfl, rfl⟩, arg_brace (hd_at w3), braced_err (hd_at w3) hR, ec_bind, ec_bind]
  | 4, _ =>
    obtain ⟨w1, w2⟩ := at_cons.mp h
    obtain ⟨w2, _⟩ := at_cons.mp w2
    refine item_err ?_
    have hR : R (stopsC 1 none ["~", "}"]) (i + 1 + 1) = e.out := hR
    unfold nucO gridO acc
    rw [hd_at w1, if_neg (by decide +kernel), if_neg (by decide +kernel), if_neg (by decide +kernel), if_neg (by decide +kernel), if_pos rfl, if_pos rfl, ok_bind, if_pos (hd_at w2), ok_bind]
    unfold cellsO
    rw [hR, ec_bind, ec_bind]
  | 5, _ =>
    obtain ⟨w1, w2⟩ := at_cons.mp h
    obtain ⟨w2, w3⟩ := at_cons.mp w2
    obtain ⟨w3, w4⟩ := at_cons.mp w3
    obtain ⟨w4, _⟩ := at_cons.mp w4
    refine item_err ?_
    have hR : R ["}"] (i + 1 + 1 + 1 + 1) = e.out := hR
    unfold nucO
    rw [hd_at w1, if_neg (by decide +kernel), if_pos rfl, arg_brace (hd_at w2)]
    rcases h5 rfl with h5 | h5
    · rw [braced_ok (hd_at w2) h5 (hd_at w3), ok_bind, arg_brace (hd_at w4), braced_err (hd_at w4) hR, ec_bind]
    · rw [braced_err (hd_at w2) h5, ec_bind]
  | n + 6, h => omega
/-! rows -/
theorem row_stop (h : hd ws i ∈ st) : rowAt isSymbol ws (k + 1) st i = .ok .nil i := by
  show rowL isSymbol ws (rowAt isSymbol ws k) (k == 0) st (ws.length + 1) i = _
  unfold rowL
  rw [if_pos h]
theorem row_one {it : FItem} (h : hd ws i ∉ st) (hi : i < ws.length) (h1 : itemO isSymbol ws (rowAt isSymbol ws k) (k == 0) i = .ok it j) (h2 : hd ws j ∈ st) : rowAt isSymbol ws (k + 1) st i = .ok (.cons it .nil) j := by
  show rowL isSymbol ws (rowAt isSymbol ws k) (k == 0) st (ws.length + 1) i = _
  unfold rowL
  rw [if_neg h, h1, ok_bind]
  cases e : ws.length with
  | zero => omega
  | succ n =>
    unfold rowL
    rw [if_pos h2]
    rfl
theorem row_err {e : EC} (h : hd ws i ∉ st) (h1 : itemO isSymbol ws (rowAt isSymbol ws k) (k == 0) i = e.out) : rowAt isSymbol ws (k + 1) st i = e.out := by
  show rowL isSymbol ws (rowAt isSymbol ws k) (k == 0) st (ws.length + 1) i = _
  unfold rowL
  rw [if_neg h, h1, ec_bind]
/-- an item, then an error -/
theorem row_errB {it : FItem} {e : EC} (h : hd ws i ∉ st) (hi : i < ws.length) (h1 : itemO isSymbol ws (rowAt isSymbol ws k) (k == 0) i = .ok it j) (h2 : hd ws j ∉ st) (h3 : itemO isSymbol ws (rowAt isSymbol ws k) (k == 0) j = e.out) : rowAt isSymbol ws (k + 1) st i = e.out := by
  show rowL isSymbol ws (rowAt isSymbol ws k) (k == 0) st (ws.length + 1) i = _
  unfold rowL
  rw [if_neg h, h1, ok_bind]
  cases e' : ws.length with
  | zero => omega
  | succ n =>
    unfold rowL
    rw [if_neg h2, h3, ec_bind, ec_bind]
def aheadW : List Nat → List Str
  | [] => []
  | c :: cs => bW c ++ aheadW cs
def behindW : List Nat → List Str
  | [] => []
  | c :: cs => behindW cs ++ eW c
def fmlM (m : FRow) : List Nat → FRow
  | [] => m
  | c :: cs => .cons (itK c (fmlM m cs)) .nil
def stLast (st : List Str) : List Nat → List Str
  | [] => st
  | c :: cs => stLast (stK c) cs
theorem bW_hd : ∀ c, ∃ x r, bW c = x :: r ∧ firstOk x
  | 0 => ⟨_, _, rfl, by decide +kernel⟩
  | 1 => ⟨_, _, rfl, by decide +kernel⟩
  | 2 => ⟨_, _, rfl, by decide +kernel⟩
  | 3 => ⟨_, _, rfl, by decide +kernel⟩
  | 4 => ⟨_, _, rfl, by decide +kernel⟩
  | n + 5 => ⟨_, _, rfl, by decide +kernel⟩
theorem eW_hd : ∀ c, ∃ x r, eW c = x :: r ∧ x ∈ stK c ∧ x ∈ stopWs
  | 0 => ⟨_, _, rfl, by decide +kernel, by decide +kernel⟩
  | 1 => ⟨_, _, rfl, by decide +kernel, by decide +kernel⟩
  | 2 => ⟨_, _, rfl, by decide +kernel, by decide +kernel⟩
  | 3 => ⟨_, _, rfl, by decide +kernel, by decide +kernel⟩
  | 4 => ⟨_, _, rfl, by decide +kernel, by decide +kernel⟩
  | n + 5 => ⟨"}", [], rfl, by show ("}" : Str) ∈ (["}"] : List Str); decide +kernel, by decide +kernel⟩
theorem stK_stop : ∀ c, ∀ x ∈ stK c, x ∈ stopWs
  | 0 => by decide +kernel
  | 1 => by decide +kernel
  | 2 => by decide +kernel
  | 3 => by decide +kernel
  | 4 => by decide +kernel
  | n + 5 => by show ∀ x ∈ (["}"] : List Str), x ∈ stopWs; decide +kernel
theorem stop_scr {y : Str} (h : y ∈ stopWs) : y ≠ "_" ∧ y ≠ "^" := by
  constructor
  · intro e
    rw [e] at h
    exact absurd h (by decide +kernel)
  · intro e
    rw [e] at h
    exact absurd h (by decide +kernel)
theorem at_lt {us : List Str} (h : At ws i us) (n : us ≠ []) : i < ws.length := by
  cases us with
  | nil => exact absurd rfl n
  | cons x r => exact (List.getElem?_eq_some_iff.mp (at_cons.mp h).1).1
/-- nested rows around a row that is read -/
theorem nest_item {c : Nat} {cs : List Nat} {m : FRow} {mid : List Str} (hc : c < 6) (inner : ∀ (st : List Str) (i : Nat) (y : Str), At ws i (aheadW cs ++ (mid ++ (behindW cs ++ [y]))) → y ∈ st → (∀ z ∈ st, z ∈ stopWs) → rowAt isSymbol ws (k + 1) st i = .ok (fmlM m cs) (i + (aheadW cs ++ (mid ++ behindW cs)).length))
    (h : At ws i (aheadW (c :: cs) ++ (mid ++ (behindW (c :: cs) ++ [y])))) (y1 : y ≠ "_") (y2 : y ≠ "^") : itemO isSymbol ws (rowAt isSymbol ws (k + 1)) dp i = .ok (itK c (fmlM m cs)) (i + (aheadW (c :: cs) ++ (mid ++ behindW (c :: cs))).length) := by
  have h : At ws i ((bW c ++ aheadW cs) ++ (mid ++ ((behindW cs ++ eW c) ++ [y]))) := h
  have h : At ws i (bW c ++ ((aheadW cs ++ (mid ++ behindW cs)) ++ (eW c ++ [y]))) := by
    simpa only [List.append_assoc] using h
  obtain ⟨h1, h2⟩ := at_app.mp h
  obtain ⟨h3, h4⟩ := at_app.mp h2
  obtain ⟨x, r, ee, ex, es⟩ := eW_hd c
  have hin : At ws (i + (bW c).length) (aheadW cs ++ (mid ++ (behindW cs ++ [x]))) := by
    have : At ws (i + (bW c).length) ((aheadW cs ++ (mid ++ behindW cs)) ++ [x]) := at_app.mpr ⟨h3, by
      rw [ee] at h4
      exact at_cons.mpr ⟨(at_cons.mp h4).1, at_nil⟩⟩
    simpa only [List.append_assoc] using this
  have g := item_nest (dp := dp) (R := rowAt isSymbol ws (k + 1)) hc h1 (inner (stK c) _ x hin ex (stK_stop c)) (fun e => by
    subst e
    obtain ⟨_, w2⟩ := at_cons.mp h1
    obtain ⟨_, w3⟩ := at_cons.mp w2
    obtain ⟨w3, _⟩ := at_cons.mp w3
    exact row_stop (by rw [hd_at w3]; decide +kernel)) h4 y1 y2
  rw [g]
  congr 1
  show i + (bW c).length + _ + _ = i + ((bW c ++ aheadW cs) ++ (mid ++ (behindW cs ++ eW c))).length
  simp only [List.length_append]
  omega
theorem nest_ok {m : FRow} {mid : List Str} (hm : ∀ (st : List Str) (i : Nat) (y : Str), At ws i (mid ++ [y]) → y ∈ st → (∀ z ∈ st, z ∈ stopWs) → rowAt isSymbol ws (k + 1) st i = .ok m (i + mid.length)) : ∀ (cs : List Nat), (∀ c ∈ cs, c < 6) →
    ∀ (st : List Str) (i : Nat) (y : Str), At ws i (aheadW cs ++ (mid ++ (behindW cs ++ [y]))) → y ∈ st → (∀ z ∈ st, z ∈ stopWs) → rowAt isSymbol ws (k + cs.length + 1) st i = .ok (fmlM m cs) (i + (aheadW cs ++ (mid ++ behindW cs)).length)
  | [], _, st, i, y, h, hy, hst => by
    have : (aheadW [] ++ (mid ++ behindW [])) = mid := by
      show [] ++ (mid ++ []) = mid
      simp
    rw [this]
    exact hm st i y h hy hst
  | c :: cs, hc, st, i, y, h, hy, hst => by
    obtain ⟨y1, y2⟩ := stop_scr (hst y hy)
    have g := nest_item (k := k + cs.length) (dp := (k + (c :: cs).length) == 0) (hc c List.mem_cons_self) (nest_ok hm cs fun z hz => hc z (List.mem_cons_of_mem _ hz)) h y1 y2
    have ne : (aheadW (c :: cs) ++ (mid ++ (behindW (c :: cs) ++ [y]))) ≠ [] := by simp
    have hi := at_lt h ne
    refine row_one ?_ hi g ?_
    · obtain ⟨x, r, e, fx⟩ := bW_hd c
      have h : At ws i ((bW c ++ aheadW cs) ++ (mid ++ (behindW (c :: cs) ++ [y]))) := h
      rw [e] at h
      rw [hd_at (at_cons.mp h).1]
      exact fun z => fx.1 (hst _ z)
    · have h : At ws i ((aheadW (c :: cs) ++ (mid ++ behindW (c :: cs))) ++ [y]) := by
        simpa only [List.append_assoc] using h
      have := (at_cons.mp (at_app.mp h).2).1
      rw [hd_at this]
      exact hy
/-- nested rows around an error -/
theorem nest_err {e : EC} : ∀ (cs : List Nat), (∀ c ∈ cs, c < 6) → ∀ (st : List Str) (i : Nat), At ws i (aheadW cs) → (∀ z ∈ st, z ∈ stopWs) → (k = 0 → e = .deep) → rowAt isSymbol ws k (stLast st cs) (i + (aheadW cs).length) = e.out → rowAt isSymbol ws (k + cs.length) st i = e.out
  | [], _, st, i, h, hst, h0, hr => hr
  | c :: cs, hc, st, i, h, hst, h0, hr => by
    have h : At ws i (bW c ++ aheadW cs) := h
    obtain ⟨h1, h2⟩ := at_app.mp h
    have hr : rowAt isSymbol ws k (stLast (stK c) cs) (i + (bW c ++ aheadW cs).length) = e.out := hr
    have q := nest_err cs (fun z hz => hc z (List.mem_cons_of_mem _ hz)) (stK c) (i + (bW c).length) h2 (stK_stop c) h0 (by
      rw [List.length_append, ← Nat.add_assoc] at hr
      exact hr)
    refine row_err (k := k + cs.length) ?_ (item_nestE (hc c List.mem_cons_self) h1 q fun e5 => ?_)
    · obtain ⟨x, r, e, fx⟩ := bW_hd c
      rw [e] at h
      rw [hd_at (at_cons.mp h).1]
      exact fun z => fx.1 (hst _ z)
    · cases z : k + cs.length with
      | zero =>
        have : k = 0 := by omega
        rw [h0 this]
        exact .inr rfl
      | succ n =>
        subst e5
        obtain ⟨_, w2⟩ := at_cons.mp h1
        obtain ⟨_, w3⟩ := at_cons.mp w2
        obtain ⟨w3, _⟩ := at_cons.mp w3
        exact .inl (row_stop (by rw [hd_at w3]; decide +kernel))
/-- a block, again and again -/
def repW (B : List Str) : Nat → List Str
  | 0 => []
  | n + 1 => B ++ repW B n
def repR (it : FItem) : Nat → FRow
  | 0 => .nil
  | n + 1 => .cons it (repR it n)
theorem rep_len (B : List Str) : ∀ n, (repW B n).length = n * B.length
  | 0 => by simp [repW]
  | n + 1 => by
    rw [repW, List.length_append, rep_len B n, Nat.succ_mul]
    omega
theorem rep_row {B : List Str} {it : FItem} {b : Str} {br : List Str} (eB : B = b :: br) (fb : firstOk b) (hB : ∀ i, At ws i B → hd ws (i + B.length) ≠ "_" → hd ws (i + B.length) ≠ "^" → itemO isSymbol ws R dp i = .ok it (i + B.length)) : ∀ (n f i : Nat), n < f → At ws i (repW B n ++ [y]) → y ∈ st → (∀ z ∈ st, z ∈ stopWs) → rowL isSymbol ws R dp st f i = .ok (repR it n) (i + (repW B n).length)
  | 0, f, i, hf, h, hy, hst => by
    cases f with
    | zero => omega
    | succ f =>
      unfold rowL
      rw [if_pos (by rw [hd_at (at_cons.mp h).1]; exact hy)]
      rfl
  | n + 1, f, i, hf, h, hy, hst => by
    cases f with
    | zero => omega
    | succ f =>
      have h : At ws i ((B ++ repW B n) ++ [y]) := h
      rw [List.append_assoc] at h
      obtain ⟨h1, h2⟩ := at_app.mp h
      have nx : hd ws (i + B.length) ≠ "_" ∧ hd ws (i + B.length) ≠ "^" := by
        cases n with
        | zero =>
          rw [hd_at (at_cons.mp h2).1]
          exact stop_scr (hst y hy)
        | succ n =>
          have h2 : At ws (i + B.length) ((B ++ repW B n) ++ [y]) := h2
          rw [eB] at h2
          rw [eB, hd_at (at_cons.mp h2).1]
          exact fb.2
      unfold rowL
      rw [if_neg (by
        rw [eB] at h1
        rw [hd_at (at_cons.mp h1).1]
        exact fun z => fb.1 (hst _ z)), hB i h1 nx.1 nx.2, ok_bind, rep_row eB fb hB n f (i + B.length) (by omega) h2 hy hst]
      show Out.ok _ _ = Out.ok _ _
      rw [show (repW B (n + 1)) = B ++ repW B n from rfl, List.length_append, Nat.add_assoc]
      rfl
theorem rep_rowAt {B : List Str} {it : FItem} {b : Str} {br : List Str} (eB : B = b :: br) (fb : firstOk b) (hB : ∀ i, At ws i B → hd ws (i + B.length) ≠ "_" → hd ws (i + B.length) ≠ "^" → itemO isSymbol ws (rowAt isSymbol ws k) (k == 0) i = .ok it (i + B.length)) (n i : Nat) (h : At ws i (repW B n ++ [y])) (hy : y ∈ st) (hst : ∀ z ∈ st, z ∈ stopWs) : rowAt isSymbol ws (k + 1) st i = .ok (repR it n) (i + (repW B n).length) := by
  refine rep_row eB fb hB n (ws.length + 1) i ?_ h hy hst
  have : (repW B n ++ [y]).length ≤ ws.length := by
    obtain ⟨z, hz⟩ := h
    have := congrArg List.length hz
    rw [List.length_append, List.length_drop] at this
    omega
  rw [List.length_append, rep_len, eB, List.length_cons, Nat.mul_succ] at this
  omega
theorem itX (i : Nat) (sx : isSymbol x = true) (h : At ws i [x]) (h1 : hd ws (i + 1) ≠ "_") (h2 : hd ws (i + 1) ≠ "^") : itemO isSymbol ws R dp i = .ok (.mk (.sym x) .no .no) (i + 1) := item_of (nuc_sym (hd_at (at_cons.mp h).1) sx) h1 h2
theorem itXS (i : Nat) (sx : isSymbol x = true) (sy : isSymbol y = true) (h : At ws i [x, "^", y]) (h1 : hd ws (i + 3) ≠ "_") (h2 : hd ws (i + 3) ≠ "^") : itemO isSymbol ws R false i = .ok (.mk (.sym x) .no (.yes (one y))) (i + 3) := by
  obtain ⟨w1, w2⟩ := at_cons.mp h
  obtain ⟨w2, w3⟩ := at_cons.mp w2
  obtain ⟨w3, _⟩ := at_cons.mp w3
  unfold itemO
  rw [nuc_sym (hd_at w1) sx, ok_bind]
  unfold scrsO
  rw [hd_at w2, if_neg (fun z => absurd z.1 (by decide +kernel)), if_pos ⟨rfl, rfl⟩, arg_one (hd_at w3) sy, if_neg (by decide), ok_bind, scrs_end h1 h2]
  rfl
/-- a script that is too deep -/
theorem itXD (i : Nat) (sx : isSymbol x = true) (sy : isSymbol y = true) (h : At ws i [x, "^", y]) : itemO isSymbol ws R true i = .deep := by
  obtain ⟨w1, w2⟩ := at_cons.mp h
  obtain ⟨w2, w3⟩ := at_cons.mp w2
  obtain ⟨w3, _⟩ := at_cons.mp w3
  unfold itemO
  rw [nuc_sym (hd_at w1) sx, ok_bind]
  unfold scrsO
  rw [hd_at w2, if_neg (fun z => absurd z.1 (by decide +kernel)), if_pos ⟨rfl, rfl⟩, arg_one (hd_at w3) sy, if_pos rfl]
  rfl
theorem itXB (i : Nat) {z : Str} (sx : isSymbol x = true) (sy : isSymbol y = true) (sz : isSymbol z = true) (h : At ws i [x, "_", y, "^", z]) (h1 : hd ws (i + 5) ≠ "_") (h2 : hd ws (i + 5) ≠ "^") : itemO isSymbol ws R false i = .ok (.mk (.sym x) (.yes (one y)) (.yes (one z))) (i + 5) := by
  obtain ⟨w1, w2⟩ := at_cons.mp h
  obtain ⟨w2, w3⟩ := at_cons.mp w2
  obtain ⟨w3, w4⟩ := at_cons.mp w3
  obtain ⟨w4, w5⟩ := at_cons.mp w4
  obtain ⟨w5, _⟩ := at_cons.mp w5
  unfold itemO
  rw [nuc_sym (hd_at w1) sx, ok_bind]
  unfold scrsO
  rw [hd_at w2, if_pos ⟨rfl, rfl⟩, arg_one (hd_at w3) sy, if_neg (by decide), ok_bind]
  unfold scrsO
  rw [hd_at w4, if_neg (fun z => absurd z.1 (by decide +kernel)), if_pos ⟨rfl, rfl⟩, arg_one (hd_at w5) sz, if_neg (by decide), ok_bind, scrs_end h1 h2]
  rfl
end
end
end Mg.Pm
namespace Mg
section
set_option Elab.async false
set_option linter.all false
set_option maxRecDepth 100000
set_option maxHeartbeats 1000000
open PySem L2
/-! an object that reads a list of words, at a place -/
def rf (tl : Addr) (i : Nat) : List (Str × V) := [("_tokens", .ref tl), ("_at", .int (i : Int))]
theorem nTA : ¬ (("_tokens" : Str) = "_at") := by decide +kernel
theorem rf_tok (tl : Addr) (i : Nat) : (rf tl i).lookup ("_tokens" : Str) = some (.ref tl) := by
  unfold rf
  rw [List.lookup_cons_self]
theorem rf_at (tl : Addr) (i : Nat) : (rf tl i).lookup ("_at" : Str) = some (.int (i : Int)) := by
  have e : (("_at" : Str) == "_tokens") = false := by decide +kernel
  unfold rf
  rw [List.lookup_cons, e]
  show List.lookup ("_at" : Str) [("_at", V.int (i : Int))] = _
  rw [List.lookup_cons_self]
theorem rf_no {tl : Addr} {i : Nat} {m : Str} (h1 : (m == "_tokens") = false) (h2 : (m == "_at") = false) : (rf tl i).lookup m = none := by
  unfold rf
  rw [List.lookup_cons, h1]
  show List.lookup m [("_at", V.int (i : Int))] = _
  rw [List.lookup_cons, h2]
  rfl
theorem rf_put (tl : Addr) (i j : Nat) : putF "_at" (.int (j : Int)) (rf tl i) = rf tl j := by
  unfold rf
  rw [putF, if_neg nTA, putF, if_pos rfl]
theorem rf_new (tl : Addr) (j : Nat) : putF "_at" (.int (j : Int)) (putF "_tokens" (.ref tl) []) = rf tl j := by
  show putF "_at" (.int (j : Int)) [(("_tokens" : Str), V.ref tl)] = rf tl j
  rw [putF, if_neg nTA]
  rfl
abbrev up1 (H : Hp) (p C dx tl : Addr) (j : Nat) : Hp := upd H p (.ins C dx (rf tl j))
structure TxtR (K : PySem.W.Frag) (C : Addr) : Prop where
  cl : Cls K C
  nT : NoAttr K C "_tokens"
  nA : NoAttr K C "_at"
structure RdAt (K : PySem.W.Frag) (C p tl : Addr) (ws : List Str) (i : Nat) (H : Hp) : Prop where
  ob : ∃ dx, H p = some (.ins C dx (rf tl i))
  tk : ∃ xs, H tl = some (.lst xs) ∧ xs.length = ws.length ∧ ∀ (j : Nat) (v : V) (x : Str), xs[j]? = some v → ws[j]? = some x → ∃ (a : Addr) (n : Int), v = .ref a ∧ SqT K H a [.int n, .str x]
  sz : ws.length ≤ 1000000
section
variable {K : PySem.W.Frag} {C p tl q : Addr} {ws us : List Str} {i j k : Nat} {H H' H0 H1 : Hp} {σ : L2.St} {te ta tb : TE} {tas : TA} {d : PyData} {ds es : List PyData} {tz tu : TS} {D : Ends} {x : Str} {E : XK} {m : Str}
theorem RdAt.ne (a : RdAt K C p tl ws i H) : tl ≠ p := fun e => by
  obtain ⟨dx, h⟩ := a.ob
  obtain ⟨xs, h2, _⟩ := a.tk
  rw [e, h] at h2
  cases h2
theorem RdAt.tup (a : RdAt K C p tl ws i H) (s : KeepB p H H') : TupK H H' := fun b ys h => by
  obtain ⟨dx, hp⟩ := a.ob
  have n : ∀ o, H b = some o → (∀ D x f, o ≠ .ins D x f) → b ≠ p := fun o e z q => by
    rw [q, hp] at e
    exact z _ _ _ (Option.some.inj e).symm
  rcases h with h | ⟨o, h⟩
  · exact .inl (s _ _ h (n _ h fun _ _ _ z => nomatch z))
  · exact .inr ⟨o, s _ _ h (n _ h fun _ _ _ z => nomatch z)⟩
theorem RdAt.move (a : RdAt K C p tl ws i H) (t : TupK H H') (ht : H' tl = H tl) (hp : ∃ dx, H' p = some (.ins C dx (rf tl j))) : RdAt K C p tl ws j H' := by
  obtain ⟨xs, h1, h2, h3⟩ := a.tk
  refine ⟨hp, ⟨xs, ht.trans h1, h2, fun n v x e1 e2 => ?_⟩, a.sz⟩
  obtain ⟨b, z, e, sq⟩ := h3 n v x e1 e2
  exact ⟨b, z, e, t.seq sq⟩
theorem RdAt.same (a : RdAt K C p tl ws i H) (s : Same H H') : RdAt K C p tl ws i H' := by
  obtain ⟨dx, hp⟩ := a.ob
  obtain ⟨xs, h1, _⟩ := a.tk
  exact a.move (.of s) ((s _ _ h1).trans h1.symm) ⟨dx, s _ _ hp⟩
/-- a list that the object does not know, changed -/
theorem RdAt.upd (a : RdAt K C p tl ws i H) {xs ys : List V} (e : H q = some (.lst xs)) (n : q ≠ tl) : RdAt K C p tl ws i (upd H q (.lst ys)) := by
  obtain ⟨dx, hp⟩ := a.ob
  have np : p ≠ q := fun z => by
    rw [← z, hp] at e
    cases e
  exact a.move (.keep keep_upd e) (upd_ne (Ne.symm n)) ⟨dx, (upd_ne np).trans hp⟩
theorem RdAt.tok (a : RdAt K C p tl ws i H) (hx : ws[i]? = some x) : ∃ xs b n, H tl = some (.lst xs) ∧ atI xs (i : Int) = some (.ref b) ∧ SqT K H b [.int n, .str x] := by
  obtain ⟨xs, h1, h2, h3⟩ := a.tk
  have hi : i < xs.length := by
    rw [h2]
    exact (List.getElem?_eq_some_iff.mp hx).1
  obtain ⟨b, n, e, sq⟩ := h3 i xs[i] x (List.getElem?_eq_getElem hi) hx
  exact ⟨xs, b, n, h1, by rw [← e]; exact atI_nat (List.getElem?_eq_getElem hi), sq⟩
theorem RdAt.next (a : RdAt K C p tl ws i H) {dx : Addr} (hp : H p = some (.ins C dx (rf tl i))) : RdAt K C p tl ws (i + 1) (Mg.up1 H p C dx tl (i + 1)) := a.move (a.tup keep_upd) (upd_ne a.ne) ⟨dx, upd_same⟩
/-- what a method of the object promises -/
def spRd (K : PySem.W.Frag) (C : Addr) (R : List PyData → List Str → Nat → Nat → PyData → Prop) : Sp := fun vs H Q _ => ∃ (p tl : Addr) (ws : List Str) (i j : Nat) (us : List V) (ds : List PyData) (d : PyData), vs = .ref p :: us ∧ TpL K H us ds ∧ RdAt K C p tl ws i H ∧ R ds ws i j d ∧
  ∀ v H', KeepB p H H' → RdAt K C p tl ws j H' → Tp K H' v d → Q v H'
/-- what an expression makes of it -/
def EvR (K : PySem.W.Frag) (C p tl : Addr) (ws : List Str) (te : TE) (σ : L2.St) (H : Hp) (i j : Nat) (d : PyData) : Prop := ∀ H1, KeepB p H H1 → RdAt K C p tl ws i H1 → ∀ Q : VK, (∀ v H2, KeepB p H1 H2 → RdAt K C p tl ws j H2 → Tp K H2 v d → Q v H2) → te σ H1 Q
def EvRA (K : PySem.W.Frag) (C p tl : Addr) (ws : List Str) (ta : TA) (σ : L2.St) (H : Hp) (i j : Nat) (ds : List PyData) : Prop := ∀ H1, KeepB p H H1 → RdAt K C p tl ws i H1 → ∀ Q : List V → Hp → Prop, (∀ vs H2, KeepB p H1 H2 → RdAt K C p tl ws j H2 → TpL K H2 vs ds → Q vs H2) → ta σ H1 Q
theorem r_pure (h : ∀ H1, KeepB p H H1 → EvD K te σ H1 d) : EvR K C p tl ws te σ H i i d := fun H1 kb a Q q => h H1 kb H1 (Same.refl _) Q fun v H2 s t => q v H2 (.of s) (a.same s) t
theorem ra_pure (h : ∀ H1, KeepB p H H1 → EvDA K tas σ H1 ds) : EvRA K C p tl ws tas σ H i i ds := fun H1 kb a Q q => h H1 kb H1 (Same.refl _) Q fun v H2 s t => q v H2 (.of s) (a.same s) t
theorem r_var {n : Nat} {v : V} (a : RdAt K C p tl ws k H) (h : σ[n]? = some (some v)) (t : Tp K H v d) : EvR K C p tl ws (tVar n) σ H i i d := r_pure fun H1 kb => e_var h (t.stay (a.tup kb))
theorem ra_nil : EvRA K C p tl ws tNil σ H i i [] := ra_pure fun _ _ => a_nil
theorem ra_cons (h : EvR K C p tl ws te σ H i j d) (hs : EvRA K C p tl ws tas σ H j k ds) : EvRA K C p tl ws (tCons te tas) σ H i k (d :: ds) := fun H1 kb a Q q =>
  h H1 kb a _ fun v H2 k2 a2 t => hs H2 (kb.trans k2) a2 _ fun vs H3 k3 a3 l => q _ H3 (k2.trans k3) a3 (.cons (t.stay (a2.tup k3)) l)
theorem r_tup (h : EvRA K C p tl ws tas σ H i j ds) (hl : ds.length ≤ 1000) : EvR K C p tl ws (tTup tas) σ H i j (.tuple ds) := fun H1 kb a Q q => h H1 kb a _ fun vs H2 k2 a2 l =>
  ⟨by rw [l.len]; exact sz5 (by omega), fun c hc => q _ _ (k2.trans (.of (same_new hc))) (a2.same (same_new hc)) (.mk (SqT.of upd_same) (l.stay (.of (same_new hc))))⟩
theorem r_call {R : List PyData → List Str → Nat → Nat → PyData → Prop} (h0 : σ[0]? = some (some (.ref p))) (h1 : (m == "_tokens") = false) (h2 : (m == "_at") = false) (ha : EvRA K C p tl ws tas σ H i k ds) (r : R ds ws k j d) : EvR K C p tl ws (tMeth C m (spRd K C R) [] E (tVar 0) tas) σ H i j d := fun H1 kb a Q q => by
  obtain ⟨dx, hp⟩ := a.ob
  refine ⟨_, h0, p, dx, _, rfl, hp, rf_no h1 h2, ha H1 kb a _ fun vs H2 k2 a2 l => ?_⟩
  exact ⟨p, tl, ws, k, j, vs, ds, d, by rw [List.append_nil], l, a2, r, fun v H3 k3 a3 t => q v H3 (k2.trans k3) a3 t⟩
theorem r_if {t : TT} {b : Bool} (h : ∀ H1, KeepB p H H1 → RdAt K C p tl ws i H1 → ∀ Q : Bool → Hp → Prop, (∀ H2, KeepB p H1 H2 → RdAt K C p tl ws k H2 → Q b H2) → t σ H1 Q) (h1 : b = true → EvR K C p tl ws ta σ H k j d) (h2 : b = false → EvR K C p tl ws tb σ H k j d) : EvR K C p tl ws (tIf t ta tb) σ H i j d := fun H1 kb a Q q => h H1 kb a _ fun H2 k2 a2 => by
  cases b with
  | true => exact iteT (h1 rfl H2 (kb.trans k2) a2 Q fun v H3 k3 a3 t3 => q v H3 (k2.trans k3) a3 t3)
  | false => exact iteF (h2 rfl H2 (kb.trans k2) a2 Q fun v H3 k3 a3 t3 => q v H3 (k2.trans k3) a3 t3)
/-- statements -/
theorem g_set {n : Nat} (h : EvR K C p tl ws te σ H i j d) (a : RdAt K C p tl ws i H) (q : ∀ v H', KeepB p H H' → RdAt K C p tl ws j H' → Tp K H' v d → tz D (σ.set n (some v)) H') : tSeq (tAsg te (gName n)) tz D σ H := h H (.refl _ _) a _ q
theorem g_drop (h : EvR K C p tl ws te σ H i j d) (a : RdAt K C p tl ws i H) (q : ∀ H', KeepB p H H' → RdAt K C p tl ws j H' → tz D σ H') : tSeq (tDrop te) tz D σ H := h H (.refl _ _) a _ fun v H' kb a' _ => q H' kb a'
theorem g_dropE (h : EvR K C p tl ws te σ H i j d) (a : RdAt K C p tl ws i H) (q : ∀ H', KeepB p H H' → RdAt K C p tl ws j H' → D.nx σ H') : tDrop te D σ H := h H (.refl _ _) a _ fun v H' kb a' _ => q H' kb a'
theorem g_ret (h : EvR K C p tl ws te σ H i j d) (a : RdAt K C p tl ws i H) (q : ∀ v H', KeepB p H H' → RdAt K C p tl ws j H' → Tp K H' v d → D.rt v H') : tRet te D σ H := h H (.refl _ _) a _ q
/-- tests of the word at the place -/
def EvRT (K : PySem.W.Frag) (C p tl : Addr) (ws : List Str) (tt : TT) (σ : L2.St) (H : Hp) (i : Nat) (b : Bool) : Prop := ∀ H1, KeepB p H H1 → RdAt K C p tl ws i H1 → ∀ Q : Bool → Hp → Prop, (∀ H2, KeepB p H1 H2 → RdAt K C p tl ws i H2 → Q b H2) → tt σ H1 Q
theorem rt_eq {r : R2} {b : Bool} {x y : Str} (h : EvR K C p tl ws te σ H i i (.str x)) (hr : RD K r (.str x) (.str y) (.bool b)) : EvRT K C p tl ws (tTest (tOp r te (tC (.str y)))) σ H i b := fun H1 kb a Q q => h H1 kb a _ fun v H2 k2 a2 t =>
  hr v _ H2 _ t (.str y) fun u H3 s3 t3 => ⟨b, tp_bool t3, q H3 (k2.trans (.of s3)) (a2.same s3)⟩
theorem g_when {t : TT} {b : Bool} (h : EvRT K C p tl ws t σ H i b) (a : RdAt K C p tl ws i H) (h1 : b = true → ∀ H', KeepB p H H' → RdAt K C p tl ws i H' → tu { D with nx := tz D } σ H') (h2 : b = false → ∀ H', KeepB p H H' → RdAt K C p tl ws i H' → tz D σ H') : tSeq (tIfS t tu tNext) tz D σ H := h H (.refl _ _) a _ fun H' kb a' => by
  cases b with
  | true => exact iteT (h1 rfl H' kb a')
  | false => exact iteF (h2 rfl H' kb a')
end
end
end Mg
namespace Mg.Pm
section
set_option Elab.async false
set_option linter.all false
set_option maxRecDepth 100000
set_option maxHeartbeats 1000000
open PySem L2
/-! the Reader's object with the places of its tokens, and promises with three ends -/
abbrev Tk := List (Nat × Str)
def wsP (ps : Tk) : List Str := ps.map Prod.snd
def plc (ps : Tk) (j : Nat) : Int := (((ps[j]?).map Prod.fst).getD 0 : Nat)
structure RdP (K : PySem.W.Frag) (C p tl : Addr) (ps : Tk) (i : Nat) (H : Hp) : Prop where
  ob : ∃ dx, H p = some (.ins C dx (rf tl i))
  tk : ∃ xs, H tl = some (.lst xs) ∧ xs.length = ps.length ∧ ∀ (j : Nat) (v : V) (x : Nat × Str), xs[j]? = some v → ps[j]? = some x → ∃ (a : Addr), v = .ref a ∧ SqT K H a [.int (x.1 : Int), .str x.2]
  sz : ps.length ≤ 2000
  en : Ends isSymbol (wsP ps)
  pl : ∀ x ∈ ps, x.1 ≤ 5000 ∧ x.2.length ≤ 1000
  lt : i < ps.length
section
variable {K : PySem.W.Frag} {C CF CD p tl q : Addr} {ps : Tk} {i j k : Nat} {H H' H0 H1 : Hp} {σ : L2.St} {te ta tb : TE} {tas : TA} {d : PyData} {ds es : List PyData} {tz tu tw : TS} {D : L2.Ends} {x : Str} {E X : XK} {m : Str} {α β : Type}
theorem wsP_len : (wsP ps).length = ps.length := List.length_map _
theorem RdP.ne (a : RdP K C p tl ps i H) : tl ≠ p := fun e => by
  obtain ⟨dx, h⟩ := a.ob
  obtain ⟨xs, h2, _⟩ := a.tk
  rw [e, h] at h2
  cases h2
theorem RdP.tup (a : RdP K C p tl ps i H) (s : KeepB p H H') : TupK H H' := fun b ys h => by
  obtain ⟨dx, hp⟩ := a.ob
  have n : ∀ o, H b = some o → (∀ D x f, o ≠ .ins D x f) → b ≠ p := fun o e z q => by
    rw [q, hp] at e
    exact z _ _ _ (Option.some.inj e).symm
  rcases h with h | ⟨o, h⟩
  · exact .inl (s _ _ h (n _ h fun _ _ _ z => nomatch z))
  · exact .inr ⟨o, s _ _ h (n _ h fun _ _ _ z => nomatch z)⟩
theorem RdP.move (a : RdP K C p tl ps i H) (t : TupK H H') (ht : H' tl = H tl) (hp : ∃ dx, H' p = some (.ins C dx (rf tl j))) (hj : j < ps.length) : RdP K C p tl ps j H' := by
  obtain ⟨xs, h1, h2, h3⟩ := a.tk
  refine ⟨hp, ⟨xs, ht.trans h1, h2, fun n v x e1 e2 => ?_⟩, a.sz, a.en, a.pl, hj⟩
  obtain ⟨b, e, sq⟩ := h3 n v x e1 e2
  exact ⟨b, e, t.seq sq⟩
theorem RdP.same (a : RdP K C p tl ps i H) (s : Same H H') : RdP K C p tl ps i H' := by
  obtain ⟨dx, hp⟩ := a.ob
  obtain ⟨xs, h1, _⟩ := a.tk
  exact a.move (.of s) ((s _ _ h1).trans h1.symm) ⟨dx, s _ _ hp⟩ a.lt
theorem RdP.upd (a : RdP K C p tl ps i H) {xs ys : List V} (e : H q = some (.lst xs)) (n : q ≠ tl) : RdP K C p tl ps i (upd H q (.lst ys)) := by
  obtain ⟨dx, hp⟩ := a.ob
  have np : p ≠ q := fun z => by
    rw [← z, hp] at e
    cases e
  exact a.move (.keep keep_upd e) (upd_ne (Ne.symm n)) ⟨dx, (upd_ne np).trans hp⟩ a.lt
theorem RdP.tok (a : RdP K C p tl ps i H) : ∃ (xs : List V) (b : Addr) (z : Nat) (y : Str), H tl = some (.lst xs) ∧ ps[i]? = some (z, y) ∧ atI xs (i : Int) = some (.ref b) ∧ SqT K H b [.int (z : Int), .str y] ∧ z ≤ 5000 ∧ y.length ≤ 1000 ∧ plc ps i = (z : Int) ∧ hd (wsP ps) i = y := by
  obtain ⟨xs, h1, h2, h3⟩ := a.tk
  have hi := a.lt
  have hx : i < xs.length := by rw [h2]; exact hi
  have e0 : ps[i]? = some ps[i] := List.getElem?_eq_getElem hi
  obtain ⟨b, e, sq⟩ := h3 i xs[i] ps[i] (List.getElem?_eq_getElem hx) e0
  have m := a.pl ps[i] (List.getElem_mem hi)
  refine ⟨xs, b, ps[i].1, ps[i].2, h1, e0, by rw [← e]; exact atI_nat (List.getElem?_eq_getElem hx), sq, m.1, m.2, ?_, ?_⟩
  · unfold plc
    rw [e0]
    rfl
  · unfold hd wsP
    rw [List.getD_eq_getElem?_getD, List.getElem?_map, e0]
    rfl
/-- what is promised behind -/
def Post (K : PySem.W.Frag) (C CF CD p tl : Addr) (ps : Tk) (Df : α → PyData) (Q : VK) (E : XK) (H : Hp) : Out α → Prop
  | .ok a j => ∀ v H', KeepB p H H' → RdP K C p tl ps j H' → Tp K H' v (Df a) → Q v H'
  | .bad j => ∀ a H', KeepB p H H' → H' a = some (.xd [("place", .int (plc ps j))]) → E (.ref CF) (some a) H'
  | .deep => ∀ H', KeepB p H H' → E (.ref CD) none H'
def PostL (K : PySem.W.Frag) (C CF CD p tl : Addr) (ps : Tk) (Df : α → List PyData) (Q : List V → Hp → Prop) (E : XK) (H : Hp) : Out α → Prop
  | .ok a j => ∀ vs H', KeepB p H H' → RdP K C p tl ps j H' → TpL K H' vs (Df a) → Q vs H'
  | .bad j => ∀ a H', KeepB p H H' → H' a = some (.xd [("place", .int (plc ps j))]) → E (.ref CF) (some a) H'
  | .deep => ∀ H', KeepB p H H' → E (.ref CD) none H'
variable {Df : α → PyData} {Dg : β → PyData} {DL : α → List PyData} {Q Q0 : VK} {o : Out α} {f : α → Nat → Out β}
theorem Post.keep (k : Post K C CF CD p tl ps Df Q E H o) (kb : KeepB p H H1) : Post K C CF CD p tl ps Df Q E H1 o := by
  cases o with
  | ok a j => exact fun v H' k1 => k v H' (kb.trans k1)
  | bad j => exact fun a H' k1 => k a H' (kb.trans k1)
  | deep => exact fun H' k1 => k H' (kb.trans k1)
theorem Post.into (k : Post K C CF CD p tl ps Dg Q0 E H (o.bind f)) (q : ∀ a j v H', o = .ok a j → KeepB p H H' → RdP K C p tl ps j H' → Tp K H' v (Df a) → Post K C CF CD p tl ps Dg Q0 E H' (f a j) → Q v H') : Post K C CF CD p tl ps Df Q E H o := by
  cases o with
  | ok a j => exact fun v H' k1 a1 t1 => q a j v H' rfl k1 a1 t1 (Post.keep (o := f a j) k k1)
  | bad j => exact k
  | deep => exact k
theorem Post.fin {g : α → β} (k : Post K C CF CD p tl ps Dg Q E H (o.bind fun a j => .ok (g a) j)) (e : ∀ a, Dg (g a) = Df a) : Post K C CF CD p tl ps Df Q E H o := by
  cases o with
  | ok a j => exact fun v H' k1 a1 t1 => k v H' k1 a1 (by rw [e]; exact t1)
  | bad j => exact k
  | deep => exact k
/-- what a method of the object promises -/
def spRo (K : PySem.W.Frag) (C CF CD : Addr) (Df : α → PyData) (F : List PyData → List Str → Nat → Out α → Prop) : Sp := fun vs H Q E => ∃ (p tl : Addr) (ps : Tk) (i : Nat) (us : List V) (ds : List PyData) (o : Out α), vs = .ref p :: us ∧ TpL K H us ds ∧ RdP K C p tl ps i H ∧ F ds (wsP ps) i o ∧ Post K C CF CD p tl ps Df Q E H o
/-- what an expression makes of it -/
def EvO (K : PySem.W.Frag) (C CF CD p tl : Addr) (ps : Tk) (E : XK) (te : TE) (σ : L2.St) (H : Hp) (i : Nat) (o : Out α) (Df : α → PyData) : Prop := ∀ H1, KeepB p H H1 → RdP K C p tl ps i H1 → ∀ Q : VK, Post K C CF CD p tl ps Df Q E H1 o → te σ H1 Q
def EvOA (K : PySem.W.Frag) (C CF CD p tl : Addr) (ps : Tk) (E : XK) (ta : TA) (σ : L2.St) (H : Hp) (i : Nat) (o : Out α) (Df : α → List PyData) : Prop := ∀ H1, KeepB p H H1 → RdP K C p tl ps i H1 → ∀ Q : List V → Hp → Prop, PostL K C CF CD p tl ps Df Q E H1 o → ta σ H1 Q
theorem o_pure {a : α} (h : ∀ H1, KeepB p H H1 → EvD K te σ H1 (Df a)) : EvO K C CF CD p tl ps E te σ H i (.ok a i) Df := fun H1 kb r Q q => h H1 kb H1 (Same.refl _) Q fun v H2 s t => q v H2 (.of s) (r.same s) t
theorem o_var {n : Nat} {v : V} {a : α} (r : RdP K C p tl ps k H) (h : σ[n]? = some (some v)) (t : Tp K H v (Df a)) : EvO K C CF CD p tl ps E (tVar n) σ H i (.ok a i) Df := o_pure fun H1 kb => e_var h (t.stay (r.tup kb))
theorem oa_pure {a : α} (h : ∀ H1, KeepB p H H1 → EvDA K tas σ H1 (DL a)) : EvOA K C CF CD p tl ps E tas σ H i (.ok a i) DL := fun H1 kb r Q q => h H1 kb H1 (Same.refl _) Q fun v H2 s t => q v H2 (.of s) (r.same s) t
theorem oa_consP (h : ∀ H1, KeepB p H H1 → EvD K te σ H1 d) (hs : EvOA K C CF CD p tl ps E tas σ H i o DL) : EvOA K C CF CD p tl ps E (tCons te tas) σ H i o (fun a => d :: DL a) := fun H1 kb r Q q =>
  h H1 kb H1 (Same.refl _) _ fun v H2 s t => hs H2 (kb.trans (.of s)) (r.same s) _ (by
    cases o with
    | ok a j => exact fun vs H3 k3 a3 l => q _ H3 ((KeepB.of s).trans k3) a3 (.cons (t.stay ((r.same s).tup k3)) l)
    | bad j => exact fun a H' k1 => q a H' ((KeepB.of s).trans k1)
    | deep => exact fun H' k1 => q H' ((KeepB.of s).trans k1))
theorem oa_consE (h : EvO K C CF CD p tl ps E te σ H i o Df) (hs : ∀ H1, KeepB p H H1 → EvDA K tas σ H1 ds) : EvOA K C CF CD p tl ps E (tCons te tas) σ H i o (fun a => Df a :: ds) := fun H1 kb r Q q =>
  h H1 kb r _ (by
    cases o with
    | ok a j => exact fun v H2 k2 a2 t => hs H2 (kb.trans k2) H2 (Same.refl _) _ fun vs H3 s3 l => q _ H3 (k2.trans (.of s3)) (a2.same s3) (.cons (t.stay (.of s3)) l)
    | bad j => exact q
    | deep => exact q)
theorem o_tup (h : EvOA K C CF CD p tl ps E tas σ H i o DL) (hl : ∀ a, (DL a).length ≤ 1000) : EvO K C CF CD p tl ps E (tTup tas) σ H i o (fun a => .tuple (DL a)) := fun H1 kb r Q q => h H1 kb r _ (by
  cases o with
  | ok a j => exact fun vs H2 k2 a2 l => ⟨by rw [l.len]; exact sz5 (by have := hl a; omega), fun c hc => q _ _ (k2.trans (.of (same_new hc))) (a2.same (same_new hc)) (.mk (SqT.of upd_same) (l.stay (.of (same_new hc))))⟩
  | bad j => exact q
  | deep => exact q)
theorem o_call {F : List PyData → List Str → Nat → Out α → Prop} (h0 : σ[0]? = some (some (.ref p))) (h1 : (m == "_tokens") = false) (h2 : (m == "_at") = false) (ha : ∀ H1, KeepB p H H1 → EvDA K tas σ H1 ds) (r : F ds (wsP ps) i o) : EvO K C CF CD p tl ps E (tMeth C m (spRo K C CF CD Df F) [] E (tVar 0) tas) σ H i o Df := fun H1 kb a Q q => by
  obtain ⟨dx, hp⟩ := a.ob
  refine ⟨_, h0, p, dx, _, rfl, hp, rf_no h1 h2, ha H1 kb H1 (Same.refl _) _ fun vs H2 s2 l => ?_⟩
  exact ⟨p, tl, ps, i, vs, ds, o, by rw [List.append_nil], l, a.same s2, r, q.keep (.of s2)⟩
/-- statements -/
theorem g_set {n : Nat} (h : EvO K C CF CD p tl ps E te σ H i o Df) (a : RdP K C p tl ps i H) (k : Post K C CF CD p tl ps Dg Q0 E H (o.bind f)) (q : ∀ x j v H', o = .ok x j → KeepB p H H' → RdP K C p tl ps j H' → Tp K H' v (Df x) → Post K C CF CD p tl ps Dg Q0 E H' (f x j) → tz D (σ.set n (some v)) H') : tSeq (tAsg te (gName n)) tz D σ H := h H (.refl _ _) a _ (k.into q)
theorem g_drop (h : EvO K C CF CD p tl ps E te σ H i o Df) (a : RdP K C p tl ps i H) (k : Post K C CF CD p tl ps Dg Q0 E H (o.bind f)) (q : ∀ x j H', o = .ok x j → KeepB p H H' → RdP K C p tl ps j H' → Post K C CF CD p tl ps Dg Q0 E H' (f x j) → tz D σ H') : tSeq (tDrop te) tz D σ H := h H (.refl _ _) a _ (k.into fun x j v H' e kb a' _ => q x j H' e kb a')
theorem g_ret {g : α → β} (h : EvO K C CF CD p tl ps E te σ H i o Df) (a : RdP K C p tl ps i H) (k : Post K C CF CD p tl ps Dg D.rt E H (o.bind fun a j => .ok (g a) j)) (e : ∀ a, Dg (g a) = Df a) : tRet te D σ H := h H (.refl _ _) a _ (k.fin e)
theorem g_ret0 (h : EvO K C CF CD p tl ps E te σ H i o Df) (a : RdP K C p tl ps i H) (k : Post K C CF CD p tl ps Df D.rt E H o) : tRet te D σ H := h H (.refl _ _) a _ k
/-- tests of the word at the place -/
def OT (K : PySem.W.Frag) (C p tl : Addr) (ps : Tk) (tt : TT) (σ : L2.St) (H : Hp) (i : Nat) (b : Bool) : Prop := ∀ H1, KeepB p H H1 → RdP K C p tl ps i H1 → ∀ Q : Bool → Hp → Prop, (∀ H2, KeepB p H1 H2 → RdP K C p tl ps i H2 → Q b H2) → tt σ H1 Q
theorem ot_eq {r : R2} {b : Bool} {x y : Str} (h : EvO K C CF CD p tl ps E te σ H i (.ok x i) PyData.str) (hr : RD K r (.str x) (.str y) (.bool b)) : OT K C p tl ps (tTest (tOp r te (tC (.str y)))) σ H i b := fun H1 kb a Q q => h H1 kb a _ fun v H2 k2 a2 t =>
  hr v _ H2 _ t (.str y) fun u H3 s3 t3 => ⟨b, tp_bool t3, q H3 (k2.trans (.of s3)) (a2.same s3)⟩
theorem ot_pure {t : TT} {b : Bool} (h : ∀ H1, KeepB p H H1 → EvDT K t σ H1 b) : OT K C p tl ps t σ H i b := fun H1 kb a Q q => h H1 kb H1 (Same.refl _) Q fun H2 s => q H2 (.of s) (a.same s)
theorem ot_notIn {n : Nat} {v : V} {stops : List Str} (h : EvO K C CF CD p tl ps E te σ H i (.ok x i) PyData.str) (a : RdP K C p tl ps k H) (hv : σ[n]? = some (some v)) (tv : Tp K H v (.tuple (stops.map .str))) : OT K C p tl ps (tTest (tOp (rIn K true) te (tVar n))) σ H i (!(stops.any fun r => r == x)) := fun H1 kb b Q q => h H1 kb b _ fun v2 H2 k2 a2 t => by
  cases tp_str t
  obtain ⟨c, xs, rfl, sq, l⟩ := (tv.stay (a.tup (kb.trans k2))).inv
  obtain rfl := l.strs
  refine ⟨_, hv, c, _, rfl, .inr sq, rfl, flat_strs2 _, !(stops.any fun r => r == x), ?_, q H2 k2 a2⟩
  show V.bl (!inV (V.str x) _) = _
  rw [in_strs]
theorem ot_none {n : Nat} {v : V} {d : PyData} (a : RdP K C p tl ps k H) (hv : σ[n]? = some (some v)) (tv : Tp K H v d) : OT K C p tl ps (tTest (tOp (fun x y H Q => y = .non ∧ Q (.bl (decide (x = .non))) H) (tVar n) (tC .non))) σ H i (noneD d) := fun H1 kb b Q q =>
  ⟨v, hv, rfl, _, (by rw [none_dec (tv.stay (a.tup kb))]), q H1 (.refl _ _) b⟩
theorem ot_and {t u : TT} {b c : Bool} (h : OT K C p tl ps t σ H i b) (h2 : b = true → OT K C p tl ps u σ H i c) : OT K C p tl ps (tAnd t u) σ H i (b && c) := fun H1 kb a Q q => h H1 kb a _ fun H2 k2 a2 => by
  cases b with
  | true => exact iteT (h2 rfl H2 (kb.trans k2) a2 Q fun H3 k3 a3 => q H3 (k2.trans k3) a3)
  | false => exact iteF (q H2 k2 a2)
theorem g_when {t : TT} {b : Bool} (h : OT K C p tl ps t σ H i b) (a : RdP K C p tl ps i H) (h1 : b = true → ∀ H', KeepB p H H' → RdP K C p tl ps i H' → tu { D with nx := tz D } σ H') (h2 : b = false → ∀ H', KeepB p H H' → RdP K C p tl ps i H' → tz D σ H') : tSeq (tIfS t tu tNext) tz D σ H := h H (.refl _ _) a _ fun H' kb a' => by
  cases b with
  | true => exact iteT (h1 rfl H' kb a')
  | false => exact iteF (h2 rfl H' kb a')
theorem g_if {t : TT} {b : Bool} (h : OT K C p tl ps t σ H i b) (a : RdP K C p tl ps i H) (h1 : b = true → ∀ H', KeepB p H H' → RdP K C p tl ps i H' → tu D σ H') (h2 : b = false → ∀ H', KeepB p H H' → RdP K C p tl ps i H' → tw D σ H') : tIfS t tu tw D σ H := h H (.refl _ _) a _ fun H' kb a' => by
  cases b with
  | true => exact iteT (h1 rfl H' kb a')
  | false => exact iteF (h2 rfl H' kb a')
theorem g_app {n : Nat} {xs : List V} {as : List PyData} (hq : σ[n]? = some (some (.ref q))) (e : H q = some (.lst xs)) (l : TpL K H xs as) (np : q ≠ p) (nt : q ≠ tl) (h : EvO K C CF CD p tl ps E te σ H i o Df) (a : RdP K C p tl ps i H) (z : as.length < 1000000) (k : Post K C CF CD p tl ps Dg Q0 E H (o.bind f))
    (g : ∀ y j v H1, o = .ok y j → KeepB p H H1 → RdP K C p tl ps j (L2.upd H1 q (.lst (xs ++ [v]))) → TpL K (L2.upd H1 q (.lst (xs ++ [v]))) (xs ++ [v]) (as ++ [Df y]) → Post K C CF CD p tl ps Dg Q0 E H1 (f y j) → D.nx σ (L2.upd H1 q (.lst (xs ++ [v])))) : tDrop (tBM K "list" rAppend (tVar n) (tCons te tNil)) D σ H := by
  refine ⟨_, hq, .inl ⟨rfl, _, SqL.of e⟩, h H (.refl _ _) a _ (k.into fun y j v H1 ey kb a1 tv k1 => ?_)⟩
  have e1 := kb _ _ e np
  exact ⟨q, xs, v, rfl, rfl, e1, by rw [l.len]; exact sz6 z, g y j v H1 ey kb (a1.upd e1 nt) (((l.stay (a.tup kb)).app (.one tv)).stay (.keep keep_upd e1)) k1⟩
/-- a heap that keeps all but the reader and one own list -/
theorem Post.keep2 (k : Post K C CF CD p tl ps Df Q E H o) (kb : KeepB p H H1) (nq : H q = none) {z : HO} : Post K C CF CD p tl ps Df Q E (L2.upd H1 q z) o := k.keep fun b x e n => by
  rw [upd_ne (ne_of_none e nq)]
  exact kb b x e n
end
end
end Mg.Pm
namespace Mg
section
set_option Elab.async false
set_option linter.all false
set_option maxRecDepth 100000
set_option maxHeartbeats 1000000
open PySem L2 StX
abbrev sRInit : Stmt := inClass (top 22) 0
abbrev sRRead : Stmt := inClass (top 22) 1
abbrev sPeek : Stmt := inClass (top 22) 2
abbrev sAccept : Stmt := inClass (top 22) 3
abbrev sRSymbol : Stmt := inClass (top 22) 4
abbrev sRRow : Stmt := inClass (top 22) 5
abbrev sRItem : Stmt := inClass (top 22) 6
abbrev sRNucleus : Stmt := inClass (top 22) 7
abbrev sRBraced : Stmt := inClass (top 22) 8
abbrev sArgument : Stmt := inClass (top 22) 9
abbrev sRFence : Stmt := inClass (top 22) 10
abbrev sDelimiter : Stmt := inClass (top 22) 11
abbrev sRGrid : Stmt := inClass (top 22) 12
abbrev sRCells : Stmt := inClass (top 22) 13
abbrev sCheckDepth0 : Stmt := top 23
abbrev sCellStops : Stmt := top 24
structure TxtRd (K : PySem.W.Frag) (mg : Str → Option Value) (C : Addr) : Prop extends TxtR K C where
  b_len : mg "len" = none
  b_tuple : mg "tuple" = none
  c_END : ∃ t, mg "END" = some (.str "end" t)
  c_DEEPEST : ∃ t, mg "DEEPEST" = some (.int 7 t)
  c_MOST_CELLS : ∃ t, mg "MOST_CELLS" = some (.int 6 t)
section
variable {P : Program} {w : World} {K : PySem.W.Frag} {mg : Str → Option Value} {base : Heap} {C : Addr}
abbrev RR := List PyData → List Str → Nat → Nat → PyData → Prop
def RPeek : RR := fun ds ws i j d => ds = [] ∧ j = i ∧ ∃ x, ws[i]? = some x ∧ d = .str x
def RAcc : RR := fun ds ws i j d => ∃ x, ds = [.str x] ∧ j = i + 1 ∧ ws[i]? = some x ∧ d = .none
def RSym : RR := fun ds ws i j d => ds = [] ∧ j = i + 1 ∧ ∃ x, ws[i]? = some x ∧ Sy x ∧ d = .str x
def RDelim : RR := fun ds ws i j d => ds = [] ∧ j = i + 1 ∧ ∃ x, ws[i]? = some x ∧ Sy x ∧ d = optD (optW x)
theorem scPeek : FnScope ["self"] ["self"] (defScope sPeek) := ⟨rfl, rfl, rfl, by decide +kernel, rfl, by decide +kernel, by decide +kernel⟩
theorem ok_peek {f : Addr} {fd : FuncData} (F : Fun K "_peek" "Reader._peek" sPeek f fd) (T : TxtRd K mg C) : FnOk P w K mg base CX0 1 f fd ["self"] (spRd K C RPeek) := by
  have sc := scPeek
  refine F.ok scPeek (fun vs H Q E h => ?_) (fun cdv A outer s H vs Q E hr h => ?_)
  · obtain ⟨p, tl, ws, i, j, us, ds, d, rfl, l, a, ⟨rfl, _⟩, _⟩ := h
    cases l
    rfl
  · obtain ⟨p, tl, ws, i, j, us, ds, d, rfl, l, a, ⟨rfl, rfl, x, hx, rfl⟩, k⟩ := h
    cases l
    refine ⟨_, (pss_one (ps_ret (pe_ix ix_tup (pe_ix ix_list (pe_fld (pv 0) rfl) (pe_fld (pv 0) rfl) (fun _ _ => rfl)) pe_int (fun _ _ => rfl)))), ?_⟩
    obtain ⟨xs, b, n, h1, h2, h3⟩ := a.tok hx
    obtain ⟨dx, hp⟩ := a.ob
    exact ⟨_, rfl, p, C, dx, _, _, rfl, hp, T.cl, T.nT, rf_tok _ _, _, rfl, p, C, dx, _, _, rfl, hp, T.cl, T.nA, rf_at _ _, tl, xs, _, _, rfl, rfl, SqL.of h1, h2, b, _, 1, .str x, rfl, rfl, h3, rfl, k _ _ (.refl _ _) a (.str x)⟩
theorem scAccept : FnScope ["self", "wanted", "place", "word"] ["self", "wanted"] (defScope sAccept) := ⟨rfl, rfl, rfl, by decide +kernel, rfl, by decide +kernel, by decide +kernel⟩
theorem ok_accept {f : Addr} {fd : FuncData} (F : Fun K "_accept" "Reader._accept" sAccept f fd) (T : TxtRd K mg C) : FnOk P w K mg base CX0 1 f fd ["self", "wanted"] (spRd K C RAcc) := by
  have sc := scAccept
  refine F.ok scAccept (fun vs H Q E h => ?_) (fun cdv A outer s H vs Q E hr h => ?_)
  · obtain ⟨p, tl, ws, i, j, us, ds, d, rfl, l, a, ⟨x, rfl, _⟩, _⟩ := h
    cases l with
    | cons _ l => cases l; rfl
  · obtain ⟨p, tl, ws, i, j, us, ds, d, rfl, l, a, ⟨x, rfl, rfl, hx, rfl⟩, k⟩ := h
    cases l with
    | cons t l => cases l with
    | nil =>
    cases tp_str t
    refine ⟨_, (pss_cons (ps_asg (pe_ix ix_list (pe_fld (pv 0) rfl) (pe_fld (pv 0) rfl) (fun _ _ => rfl)) (pg_tup rfl (pgs_cons (pg_name (i := 2) sc.nd rfl (Or.inl rfl)) (pgs_cons (pg_name (i := 3) sc.nd rfl (Or.inl rfl)) pgs_nil))))
  (pss_cons (ps_if (pt_cmpR op_ne (pv 3) (pv 1) (nomark _))
  (pss_one ps_never)
  pss_nil)
  (pss_one (ps_fldaug (pv 0) pe_int in_add)))), ?_⟩
    obtain ⟨xs, b, n, h1, h2, h3⟩ := a.tok hx
    obtain ⟨dx, hp⟩ := a.ob
    refine ⟨_, rfl, p, C, dx, _, _, rfl, hp, T.cl, T.nT, rf_tok _ _, _, rfl, p, C, dx, _, _, rfl, hp, T.cl, T.nA, rf_at _ _, tl, xs, _, _, rfl, rfl, SqL.of h1, h2, b, _, rfl, h3, rfl, V.int _, _, rfl, V.str _, _, rfl, rfl, ?_⟩
    refine q_no (K := K) (b := !decide (x = x)) (t_test (e_op (e_var rfl (.str x)) (e_var rfl (.str x)) r_neS)) (by simp) fun H1 s1 => ?_
    have a1 := a.same s1
    have hp1 := s1 _ _ hp
    refine ⟨_, rfl, p, C, dx, _, _, rfl, hp1, T.cl, T.nA, rf_at _ _, _, _, rfl, rfl, dx, _, hp1, (by show 2 < 1000; decide), ?_⟩
    have e : putF "_at" (.int ((i : Int) + 1)) (rf tl i) = rf tl (i + 1) := rf_put tl i (i + 1)
    rw [e]
    exact k _ _ ((KeepB.of s1).trans keep_upd) (a1.next hp1) .non
theorem scRSymbol : FnScope ["self", "place", "word"] ["self"] (defScope sRSymbol) := ⟨rfl, rfl, rfl, by decide +kernel, rfl, by decide +kernel, by decide +kernel⟩
theorem ok_rsymbol {f : Addr} {fd : FuncData} (F : Fun K "_symbol" "Reader._symbol" sRSymbol f fd) (T : TxtRd K mg C) (C_is_symbol : Cal P w K mg base CX0 2 "is_symbol" ["word"] spIsSymbol) : FnOk P w K mg base CX0 3 f fd ["self"] (spRd K C RSym) := by
  have sc := scRSymbol
  refine F.ok scRSymbol (fun vs H Q E h => ?_) (fun cdv A outer s H vs Q E hr h => ?_)
  · obtain ⟨p, tl, ws, i, j, us, ds, d, rfl, l, a, ⟨rfl, _⟩, _⟩ := h
    cases l
    rfl
  · obtain ⟨p, tl, ws, i, j, us, ds, d, rfl, l, a, ⟨rfl, rfl, x, hx, ⟨xl, xs'⟩, rfl⟩, k⟩ := h
    cases l
    refine ⟨_, (pss_cons (ps_asg (pe_ix ix_list (pe_fld (pv 0) rfl) (pe_fld (pv 0) rfl) (fun _ _ => rfl)) (pg_tup rfl (pgs_cons (pg_name (i := 1) sc.nd rfl (Or.inl rfl)) (pgs_cons (pg_name (i := 2) sc.nd rfl (Or.inl rfl)) pgs_nil))))
  (pss_cons (ps_if (pt_not (pt_val (pe_cal C_is_symbol (hr.mono (by omega)) rfl pass0 (pa_cons (pv 2) pa_nil))))
  (pss_one ps_never)
  pss_nil)
  (pss_cons (ps_fldaug (pv 0) pe_int in_add)
  (pss_one (ps_ret (pv 2)))))), ?_⟩
    obtain ⟨xs, b, n, h1, h2, h3⟩ := a.tok hx
    obtain ⟨dx, hp⟩ := a.ob
    refine ⟨_, rfl, p, C, dx, _, _, rfl, hp, T.cl, T.nT, rf_tok _ _, _, rfl, p, C, dx, _, _, rfl, hp, T.cl, T.nA, rf_at _ _, tl, xs, _, _, rfl, rfl, SqL.of h1, h2, b, _, rfl, h3, rfl, V.int _, _, rfl, V.str _, _, rfl, rfl, ?_⟩
    dsimp only
    refine q_no (K := K) (b := !true) (t_not (t_B (e_callV (us := [.str x]) (fun H1 s1 Q q => ⟨_, rfl, q H1 (.refl _)⟩) fun H1 s1 Q q => ⟨x, rfl, xl, fun H2 s2 => q _ H2 s2 (by rw [xs']; exact .bl true)⟩))) rfl fun H1 s1 => ?_
    have a1 := a.same s1
    have hp1 := s1 _ _ hp
    refine ⟨_, rfl, p, C, dx, _, _, rfl, hp1, T.cl, T.nA, rf_at _ _, _, _, rfl, rfl, dx, _, hp1, (by show 2 < 1000; decide), ?_⟩
    have e : putF "_at" (.int ((i : Int) + 1)) (rf tl i) = rf tl (i + 1) := rf_put tl i (i + 1)
    rw [e]
    exact ⟨_, rfl, k _ _ ((KeepB.of s1).trans keep_upd) (a1.next hp1) (.str x)⟩
theorem scDelimiter : FnScope ["self", "name"] ["self"] (defScope sDelimiter) := ⟨rfl, rfl, rfl, by decide +kernel, rfl, by decide +kernel, by decide +kernel⟩
theorem ok_delimiter {f : Addr} {fd : FuncData} (F : Fun K "_delimiter" "Reader._delimiter" sDelimiter f fd) (T : TxtRd K mg C) (C_symbol : CalM P w K mg base CX0 3 C "_symbol" ["self"] (spRd K C RSym)) : FnOk P w K mg base CX0 4 f fd ["self"] (spRd K C RDelim) := by
  have sc := scDelimiter
  refine F.ok scDelimiter (fun vs H Q E h => ?_) (fun cdv A outer s H vs Q E hr h => ?_)
  · obtain ⟨p, tl, ws, i, j, us, ds, d, rfl, l, a, ⟨rfl, _⟩, _⟩ := h
    cases l
    rfl
  · obtain ⟨p, tl, ws, i, j, us, ds, d, rfl, l, a, ⟨rfl, rfl, x, hx, sx, rfl⟩, k⟩ := h
    cases l
    refine ⟨_, (pss_cons (ps_set (i := 1) sc.nd rfl (Or.inl rfl) (pe_calm0 (pv 0) T.cl C_symbol (hr.mono (by omega)) pass0))
  (pss_one (ps_ret (pe_ifExp (pt_cmpR op_eq (pv 1) pe_str (nomark _)) pe_non (pv 1))))), ?_⟩
    refine g_set (r_call rfl (by decide +kernel) (by decide +kernel) ra_nil (⟨rfl, rfl, x, hx, sx, rfl⟩ : RSym [] ws i (i + 1) (.str x))) a fun v H1 k1 a1 t1 => ?_
    cases tp_str t1
    refine g_ret (j := i + 1) (d := optD (optW x)) (r_if (b := decide (x = ".")) (rt_eq (r_var a1 rfl (.str x)) r_eqS) (fun z => ?_) fun z => ?_) a1 fun v H2 k2 a2 t2 => k v H2 (k1.trans k2) a2 t2
    · have z := of_decide_eq_true z
      subst z
      exact r_pure fun _ _ => e_non
    · have z := of_decide_eq_false z
      rw [show optW x = some x from if_neg z]
      exact r_var a1 rfl (.str x)
/-! check_depth, where nothing is raised -/
def spCheckDepth0 : Sp := fun vs H Q _ => ∃ n : Int, vs = [.int n] ∧ n ≤ 7 ∧ Q .non H
theorem scCheckDepth0 : FnScope ["depth"] ["depth"] (defScope sCheckDepth0) := ⟨rfl, rfl, rfl, by decide +kernel, rfl, by decide +kernel, by decide +kernel⟩
theorem ok_checkdepth0 {f : Addr} {fd : FuncData} (F : Fun K "check_depth" "check_depth" sCheckDepth0 f fd) (T : TxtRd K mg C) : FnOk P w K mg base CX0 1 f fd ["depth"] spCheckDepth0 := by
  have sc := scCheckDepth0
  refine F.ok scCheckDepth0 (fun vs H Q E h => ?_) (fun cdv A outer s H vs Q E hr h => ?_)
  · obtain ⟨n, rfl, _⟩ := h
    rfl
  · obtain ⟨n, rfl, hn, k⟩ := h
    refine ⟨_, (pss_one (ps_if (pt_cmpR op_gt (pv 0) (pe_gint rfl T.c_DEEPEST) (nomark _)) (pss_one ps_never) pss_nil)), ?_⟩
    exact ⟨_, rfl, _, _, rfl, rfl, _, rfl, iteN (by simp; omega) k⟩
/-! cell_stops -/
def RStops (ds : List PyData) (d : PyData) : Prop := ∃ (c : Int) (m : PyData) (ends : List Str), ds = [.int c, m, .tuple (ends.map .str)] ∧ ends.length ≤ 10 ∧ ((m = .none ∧ d = if c < 6 then .tuple ((("&" : Str) :: ends).map .str) else .tuple (ends.map .str)) ∨ ∃ n : Int, m = .int n ∧ d = if c < n then .tuple [.str "&"] else .tuple (ends.map .str))
theorem scCellStops : FnScope ["count", "many", "ends"] ["count", "many", "ends"] (defScope sCellStops) := ⟨rfl, rfl, rfl, by decide +kernel, rfl, by decide +kernel, by decide +kernel⟩
theorem a_is {σ : L2.St} {H : Hp} {tas : TA} {ds es : List PyData} (h : EvDA K tas σ H ds) (e : ds = es) : EvDA K tas σ H es := e ▸ h
theorem e_star {σ : L2.St} {H : Hp} {te : TE} {tas : TA} {ds es : List PyData} (h : EvD K te σ H (.tuple ds)) (hs : EvDA K tas σ H es) : EvDA K (tStar K te tas) σ H (ds ++ es) := fun H1 s Q q =>
  h H1 s _ fun v H2 s2 hd => by
    obtain ⟨p, xs, rfl, sq, l⟩ := hd.inv
    exact ⟨p, xs, rfl, .inl sq, hs H2 (s.trans s2) _ fun vs H3 s3 hds => q _ H3 (s2.trans s3) ((l.stay (.of s3)).app hds)⟩
theorem ok_cellstops {f : Addr} {fd : FuncData} (F : Fun K "cell_stops" "cell_stops" sCellStops f fd) (T : TxtRd K mg C) : FnOk P w K mg base CX0 1 f fd ["count", "many", "ends"] (spR K RStops) := by
  have sc := scCellStops
  refine F.ok scCellStops (fun vs H Q E h => ?_) (fun cdv A outer s H vs Q E hr h => ?_)
  · obtain ⟨ds, d, l, ⟨c, m, ends, rfl, _⟩, _⟩ := h
    cases l with
    | cons _ l => cases l with
    | cons _ l => cases l with
    | cons _ l => cases l; rfl
  · obtain ⟨ds, d, l, ⟨c, m, ends, rfl, hl, hc⟩, k⟩ := h
    cases l with
    | cons t1 l => cases l with
    | cons t2 l => cases l with
    | cons t3 l => cases l with
    | nil =>
    cases tp_int t1
    refine ⟨_, (pss_cons (ps_if (pt_cmpR op_isN (pv 1) pe_non (nomark _))
  (pss_one (ps_ret (pe_ifExp (pt_cmpR op_lt (pv 0) (pe_gint rfl T.c_MOST_CELLS) (nomark _)) (pe_tup (pa_cons pe_str (pa_star (pv 2) pa_nil))) (pv 2))))
  pss_nil)
  (pss_one (ps_ret (pe_ifExp (pt_cmpR op_lt (pv 0) (pv 1) (nomark _)) (pe_tup (pa_cons pe_str pa_nil)) (pv 2))))), ?_⟩
    rcases hc with ⟨rfl, e⟩ | ⟨n, rfl, e⟩
    · refine q_yes (b := noneD .none) (t_test (e_op (e_var rfl t2) e_non r_isN)) rfl fun H1 s1 => ?_
      refine retD k s1 (d := d) (e_if (b := decide (c < 6)) (t_test (e_op (e_var rfl (.int c)) e_int r_I0b)) (fun z => ?_) fun z => ?_) rfl
      · rw [e, if_pos (of_decide_eq_true z)]
        refine e_tup (a_cons e_str (a_is (e_star (e_var rfl (t3.stay (.of s1))) a_nil) (List.append_nil _))) ?_
        rw [List.length_map, List.length_cons]
        omega
      · rw [e, if_neg (of_decide_eq_false z)]
        exact e_var rfl (t3.stay (.of s1))
    · refine q_no (b := noneD (.int n)) (t_test (e_op (e_var rfl t2) e_non r_isN)) rfl fun H1 s1 => ?_
      refine retD k s1 (d := d) (e_if (b := decide (c < n)) (t_test (e_op (e_var rfl (.int c)) (e_var rfl (t2.stay (.of s1))) r_I0b)) (fun z => ?_) fun z => ?_) rfl
      · rw [e, if_pos (of_decide_eq_true z)]
        exact e_tup (a_cons e_str a_nil) (by decide)
      · rw [e, if_neg (of_decide_eq_false z)]
        exact e_var rfl (t3.stay (.of s1))
end
end
section
set_option Elab.async false
set_option linter.all false
set_option maxRecDepth 100000
set_option maxHeartbeats 1000000
open PySem L2 StX
section
variable {K : PySem.W.Frag} {C p tl q : Addr} {ws us : List Str} {i j k : Nat} {H H' H0 H1 : Hp} {σ : L2.St} {te ta tb : TE} {tas : TA} {d : PyData} {ds es : List PyData} {tz tu tw : TS} {D : Ends} {x : Str} {E : XK} {m : Str}
theorem keepB_new {o : HO} (s : KeepB p H H') (h : H q = none) : KeepB p H (upd H' q o) := fun b x e n => by
  rw [upd_ne (ne_of_none e h)]
  exact s b x e n
theorem rt_notIn {n : Nat} {v : V} {stops : List Str} (h : EvR K C p tl ws te σ H i i (.str x)) (a : RdAt K C p tl ws k H) (hv : σ[n]? = some (some v)) (tv : Tp K H v (.tuple (stops.map .str))) : EvRT K C p tl ws (tTest (tOp (rIn K true) te (tVar n))) σ H i (!(stops.any fun r => r == x)) := fun H1 kb b Q q => h H1 kb b _ fun v2 H2 k2 a2 t => by
  cases tp_str t
  obtain ⟨c, xs, rfl, sq, l⟩ := (tv.stay (a.tup (kb.trans k2))).inv
  obtain rfl := l.strs
  refine ⟨_, hv, c, _, rfl, .inr sq, rfl, flat_strs2 _, !(stops.any fun r => r == x), ?_, q H2 k2 a2⟩
  show V.bl (!inV (V.str x) _) = _
  rw [in_strs]
theorem rt_none {n : Nat} {v : V} {d : PyData} (a : RdAt K C p tl ws k H) (hv : σ[n]? = some (some v)) (tv : Tp K H v d) : EvRT K C p tl ws (tTest (tOp (fun x y H Q => y = .non ∧ Q (.bl (decide (x = .non))) H) (tVar n) (tC .non))) σ H i (noneD d) := fun H1 kb b Q q =>
  ⟨v, hv, rfl, _, (by rw [none_dec (tv.stay (a.tup kb))]), q H1 (.refl _ _) b⟩
theorem rt_and {t u : TT} {b c : Bool} (h : EvRT K C p tl ws t σ H i b) (h2 : b = true → EvRT K C p tl ws u σ H i c) : EvRT K C p tl ws (tAnd t u) σ H i (b && c) := fun H1 kb a Q q => h H1 kb a _ fun H2 k2 a2 => by
  cases b with
  | true => exact iteT (h2 rfl H2 (kb.trans k2) a2 Q fun H3 k3 a3 => q H3 (k2.trans k3) a3)
  | false => exact iteF (q H2 k2 a2)
theorem rt_is {t : TT} {b c : Bool} (h : EvRT K C p tl ws t σ H i b) (e : b = c) : EvRT K C p tl ws t σ H i c := e ▸ h
theorem g_if {t : TT} {b : Bool} (h : EvRT K C p tl ws t σ H i b) (a : RdAt K C p tl ws i H) (h1 : b = true → ∀ H', KeepB p H H' → RdAt K C p tl ws i H' → tu D σ H') (h2 : b = false → ∀ H', KeepB p H H' → RdAt K C p tl ws i H' → tw D σ H') : tIfS t tu tw D σ H := h H (.refl _ _) a _ fun H' kb a' => by
  cases b with
  | true => exact iteT (h1 rfl H' kb a')
  | false => exact iteF (h2 rfl H' kb a')
theorem g_app {n : Nat} {xs : List V} {as : List PyData} (hq : σ[n]? = some (some (.ref q))) (e : H q = some (.lst xs)) (l : TpL K H xs as) (np : q ≠ p) (nt : q ≠ tl) (h : EvR K C p tl ws te σ H i j d) (a : RdAt K C p tl ws i H) (z : as.length < 1000000)
    (f : ∀ v H1, KeepB p H H1 → RdAt K C p tl ws j (upd H1 q (.lst (xs ++ [v]))) → TpL K (upd H1 q (.lst (xs ++ [v]))) (xs ++ [v]) (as ++ [d]) → D.nx σ (upd H1 q (.lst (xs ++ [v])))) : tDrop (tBM K "list" rAppend (tVar n) (tCons te tNil)) D σ H := by
  refine ⟨_, hq, .inl ⟨rfl, _, SqL.of e⟩, h H (.refl _ _) a _ fun v H1 kb a1 tv => ?_⟩
  have e1 := kb _ _ e np
  exact ⟨q, xs, v, rfl, rfl, e1, by rw [l.len]; exact sz6 z, f v H1 kb (a1.upd e1 nt) (((l.stay (a.tup kb)).app (.one tv)).stay (.keep keep_upd e1))⟩
end
/-! what the methods read -/
def RBraced (n : Nat) : RR := fun ds ws i j d => ∃ (r : CRow) (dep : Int), ds = [.int dep] ∧ r.ok ∧ r.h < n ∧ dep + (r.h : Int) ≤ 7 ∧ At ws i ("{" :: (r.ws ++ [("}" : Str)])) ∧ j = i + (r.ws.length + 2) ∧ d = r.f.d
def RArg (n : Nat) : RR := fun ds ws i j d => ∃ (r : CArg) (dep : Int), ds = [.int dep] ∧ r.ok ∧ r.h < n ∧ dep + (r.h : Int) ≤ 7 ∧ At ws i r.ws ∧ j = i + r.ws.length ∧ d = r.f.d
def RRow (n : Nat) : RR := fun ds ws i j d => ∃ (r : CRow) (dep : Int) (stops : List Str), ds = [.int dep, .tuple (stops.map .str)] ∧ (∀ x ∈ stops, x ∈ stopWs) ∧ r.ok ∧ r.h < n ∧ dep + (r.h : Int) ≤ 7 ∧ (∃ x : Str, x ∈ stops ∧ At ws i (r.ws ++ [x])) ∧ j = i + r.ws.length ∧ d = r.f.d
def RFence (n : Nat) : RR := fun ds ws i j d => ∃ (o c : Str) (r : CRow) (dep : Int), ds = [.int dep] ∧ Sy o ∧ Sy c ∧ r.ok ∧ r.h < n ∧ dep + (r.h : Int) ≤ 7 ∧ At ws i (CNuc.fence o c r).ws ∧ j = i + (CNuc.fence o c r).ws.length ∧ d = (CNuc.fence o c r).f.d
def restW : List CRow → List Str
  | [] => []
  | r :: rs => "&" :: (r.ws ++ restW rs)
def cellW : List CRow → List Str
  | [] => []
  | r :: rs => r.ws ++ restW rs
def RCells (n : Nat) : RR := fun ds ws i j d => ∃ (rs : List CRow) (dep : Int) (m : PyData) (ends : List Str), ds = [.int dep, m, .tuple (ends.map .str)] ∧ (∀ x ∈ ends, x ∈ stopWs) ∧ ends.length ≤ 5 ∧ 1 ≤ rs.length ∧ rs.length ≤ 6 ∧ (∀ r ∈ rs, r.ok ∧ r.h < n ∧ dep + (r.h : Int) ≤ 7) ∧ (m = .none ∨ m = .int (rs.length : Int)) ∧
  (∃ x : Str, x ∈ ends ∧ x ≠ "&" ∧ At ws i (cellW rs ++ [x])) ∧ j = i + (cellW rs).length ∧ d = .tuple (rs.map fun r => r.f.d)
def RGrid (n : Nat) : RR := fun ds ws i j d => ∃ (g : CGrid) (dep : Int), ds = [.int dep] ∧ (CNuc.grid g).ok ∧ g.h ≤ n ∧ dep + (g.h : Int) ≤ 8 ∧ At ws i (CNuc.grid g).ws ∧ j = i + (CNuc.grid g).ws.length ∧ d = (CNuc.grid g).f.d
def RNuc (n : Nat) : RR := fun ds ws i j d => ∃ (r : CNuc) (dep : Int), ds = [.int dep] ∧ r.ok ∧ r.h ≤ n ∧ dep + (r.h : Int) ≤ 7 ∧ At ws i r.ws ∧ j = i + r.ws.length ∧ d = r.f.d
def RItem (n : Nat) : RR := fun ds ws i j d => ∃ (r : CItem) (dep : Int), ds = [.int dep] ∧ r.ok ∧ r.h ≤ n ∧ dep + (r.h : Int) ≤ 7 ∧ (∃ x : Str, x ≠ "_" ∧ x ≠ "^" ∧ At ws i (r.ws ++ [x])) ∧ j = i + r.ws.length ∧ d = r.f.d
/-! cells in their lines -/
theorem cells_restW : ∀ c : CCells, c.ws "&" = restW c.rows
  | .nil => rfl
  | .cons r c => by rw [CCells.ws, CCells.rows, restW, cells_restW c]
theorem cells_cellW {s : Str} : ∀ c : CCells, c.rows ≠ [] → c.ws s = s :: cellW c.rows
  | .nil, h => absurd rfl h
  | .cons r c, _ => by rw [CCells.ws, CCells.rows, cellW, cells_restW c]
section
variable {P : Program} {w : World} {K : PySem.W.Frag} {mg : Str → Option Value} {base : Heap} {C : Addr}
theorem scRBraced : FnScope ["self", "depth", "row"] ["self", "depth"] (defScope sRBraced) := ⟨rfl, rfl, rfl, by decide +kernel, rfl, by decide +kernel, by decide +kernel⟩
theorem ok_rbraced {n : Nat} {f : Addr} {fd : FuncData} (F : Fun K "_braced" "Reader._braced" sRBraced f fd) (T : TxtRd K mg C) (C_accept : CalM P w K mg base CX0 1 C "_accept" ["self", "wanted"] (spRd K C RAcc)) (C_row : CalM P w K mg base CX0 (6 * n + 4) C "_row" ["self", "depth", "stops"] (spRd K C (RRow n))) : FnOk P w K mg base CX0 (6 * n + 5) f fd ["self", "depth"] (spRd K C (RBraced n)) := by
  have sc := scRBraced
  refine F.ok scRBraced (fun vs H Q E h => ?_) (fun cdv A outer s H vs Q E hr h => ?_)
  · obtain ⟨p, tl, ws, i, j, us, ds, d, rfl, l, a, ⟨r, dep, rfl, _⟩, _⟩ := h
    cases l with
    | cons _ l => cases l; rfl
  · obtain ⟨p, tl, ws, i, j, us, ds, d, rfl, l, a, ⟨r, dep, rfl, ok, hn, hd, hw, rfl, rfl⟩, k⟩ := h
    cases l with
    | cons t l => cases l with
    | nil =>
    cases tp_int t
    refine ⟨_, (pss_cons (ps_expr (pe_calm (pv 0) T.cl C_accept (hr.mono (by omega)) pass0 (pa_cons pe_str pa_nil)))
  (pss_cons (ps_set (i := 2) sc.nd rfl (Or.inl rfl) (pe_calm (pv 0) T.cl C_row (hr.mono (by omega)) pass0 (pa_cons (pv 1) (pa_cons (pe_tup (pa_cons pe_str pa_nil)) pa_nil))))
  (pss_cons (ps_expr (pe_calm (pv 0) T.cl C_accept (hr.mono (by omega)) pass0 (pa_cons pe_str pa_nil)))
  (pss_one (ps_ret (pv 2)))))), ?_⟩
    obtain ⟨w1, w2⟩ := at_cons.mp hw
    obtain ⟨w3, w4⟩ := at_app.mp w2
    obtain ⟨w5, _⟩ := at_cons.mp w4
    refine g_drop (r_call rfl (by decide +kernel) (by decide +kernel) (ra_pure fun _ _ => a_cons e_str a_nil) (⟨"{", rfl, rfl, w1, rfl⟩ : RAcc [.str "{"] ws i (i + 1) .none)) a fun H1 k1 a1 => ?_
    refine g_set (r_call rfl (by decide +kernel) (by decide +kernel) (ra_pure fun _ _ => a_cons (e_var rfl (.int dep)) (a_cons (e_tup (ds := [.str "}"]) (a_cons e_str a_nil) (by decide)) a_nil)) (⟨r, dep, ["}"], rfl, by decide +kernel, ok, hn, hd, ⟨"}", by decide +kernel, w2⟩, rfl, rfl⟩ : RRow n _ ws (i + 1) (i + 1 + r.ws.length) r.f.d)) a1 fun v H2 k2 a2 t2 => ?_
    refine g_drop (r_call rfl (by decide +kernel) (by decide +kernel) (ra_pure fun _ _ => a_cons e_str a_nil) (⟨"}", rfl, rfl, w5, rfl⟩ : RAcc [.str "}"] ws (i + 1 + r.ws.length) (i + 1 + r.ws.length + 1) .none)) a2 fun H3 k3 a3 => ?_
    refine g_ret (r_var (i := i + 1 + r.ws.length + 1) a3 rfl (t2.stay (a2.tup k3))) a3 fun v' H4 k4 a4 t4 => k v' H4 (((k1.trans k2).trans k3).trans k4) ?_ t4
    rw [show i + (r.ws.length + 2) = i + 1 + r.ws.length + 1 by omega]
    exact a4
theorem scArgument : FnScope ["self", "depth", "name"] ["self", "depth"] (defScope sArgument) := ⟨rfl, rfl, rfl, by decide +kernel, rfl, by decide +kernel, by decide +kernel⟩
theorem ok_argument {n : Nat} {f : Addr} {fd : FuncData} (F : Fun K "_argument" "Reader._argument" sArgument f fd) (T : TxtRd K mg C) (C_peek : CalM P w K mg base CX0 1 C "_peek" ["self"] (spRd K C RPeek)) (C_symbol : CalM P w K mg base CX0 3 C "_symbol" ["self"] (spRd K C RSym)) (C_check_depth : Cal P w K mg base CX0 1 "check_depth" ["depth"] spCheckDepth0) (C_braced : CalM P w K mg base CX0 (6 * n + 5) C "_braced" ["self", "depth"] (spRd K C (RBraced n))) :
    FnOk P w K mg base CX0 (6 * n + 6) f fd ["self", "depth"] (spRd K C (RArg n)) := by
  have sc := scArgument
  refine F.ok scArgument (fun vs H Q E h => ?_) (fun cdv A outer s H vs Q E hr h => ?_)
  · obtain ⟨p, tl, ws, i, j, us, ds, d, rfl, l, a, ⟨r, dep, rfl, _⟩, _⟩ := h
    cases l with
    | cons _ l => cases l; rfl
  · obtain ⟨p, tl, ws, i, j, us, ds, d, rfl, l, a, ⟨r, dep, rfl, ok, hn, hd, hw, rfl, rfl⟩, k⟩ := h
    cases l with
    | cons t l => cases l with
    | nil =>
    cases tp_int t
    refine ⟨_, (pss_cons (ps_if (pt_cmpR op_eq (pe_calm0 (pv 0) T.cl C_peek (hr.mono (by omega)) pass0) pe_str (nomark _))
  (pss_one (ps_ret (pe_calm (pv 0) T.cl C_braced (hr.mono (by omega)) pass0 (pa_cons (pv 1) pa_nil))))
  pss_nil)
  (pss_cons (ps_set (i := 2) sc.nd rfl (Or.inl rfl) (pe_calm0 (pv 0) T.cl C_symbol (hr.mono (by omega)) pass0))
  (pss_cons (ps_expr (pe_cal C_check_depth (hr.mono (by omega)) rfl pass0 (pa_cons (pv 1) pa_nil)))
  (pss_one (ps_ret (pe_tup (pa_cons (pe_tup (pa_cons (pe_tup (pa_cons pe_str (pa_cons (pv 2) pa_nil))) (pa_cons pe_non (pa_cons pe_non pa_nil)))) pa_nil))))))), ?_⟩
    have pk : ∀ {x : Str} {H : Hp} {E : XK}, ws[i]? = some x → EvR K C p tl ws (tMeth C "_peek" (spRd K C RPeek) [] E (tVar 0) tNil) (L2.start ["self", "depth", "name"] [.ref p, .int dep]) H i i (.str x) := fun hx => r_call rfl (by decide +kernel) (by decide +kernel) ra_nil ⟨rfl, rfl, _, hx, rfl⟩
    cases r with
    | brace r =>
      refine g_when (b := decide (("{" : Str) = "{")) (rt_eq (pk (at_cons.mp hw).1) r_eqS) a (fun _ H1 k1 a1 => ?_) (fun z => absurd z (by decide +kernel))
      refine g_ret (r_call rfl (by decide +kernel) (by decide +kernel) (ra_pure fun _ _ => a_cons (e_var rfl (.int dep)) a_nil) (⟨r, dep, rfl, ok, hn, hd, hw, rfl, rfl⟩ : RBraced n _ ws i (i + (r.ws.length + 2)) r.f.d)) a1 fun v' H4 k4 a4 t4 => k v' H4 (k1.trans k4) ?_ t4
      rw [show (CArg.brace r).ws.length = r.ws.length + 2 by simp [CArg.ws]]
      exact a4
    | one x =>
      have hx : ws[i]? = some x := (at_cons.mp hw).1
      have ok : Sy x := ok
      refine g_when (b := decide (x = "{")) (rt_eq (pk hx) r_eqS) a (fun z => absurd (of_decide_eq_true z) (sy_ne ok (by decide +kernel))) fun _ H1 k1 a1 => ?_
      refine g_set (r_call rfl (by decide +kernel) (by decide +kernel) ra_nil (⟨rfl, rfl, x, hx, ok, rfl⟩ : RSym [] ws i (i + 1) (.str x))) a1 fun v H2 k2 a2 t2 => ?_
      cases tp_str t2
      refine ⟨_, rfl, dep, rfl, by have : (0 : Int) ≤ ((CArg.one x).h : Int) := Int.ofNat_nonneg _; omega, ?_⟩
      refine g_ret (i := i + 1) (r_pure fun _ _ => e_tup (ds := [.tuple [.tuple [.str "symbol", .str x], .none, .none]]) (a_cons (e_tup (a_cons (e_tup (a_cons e_str (a_cons (e_var rfl (.str x)) a_nil)) (Nat.le_of_ble_eq_true rfl)) (a_cons e_non (a_cons e_non a_nil))) (Nat.le_of_ble_eq_true rfl)) a_nil) (Nat.le_of_ble_eq_true rfl)) a2 fun v' H4 k4 a4 t4 => k v' H4 ((k1.trans k2).trans k4) a4 t4
theorem scRFence : FnScope ["self", "depth", "opening", "row"] ["self", "depth"] (defScope sRFence) := ⟨rfl, rfl, rfl, by decide +kernel, rfl, by decide +kernel, by decide +kernel⟩
theorem ok_rfence {n : Nat} {f : Addr} {fd : FuncData} (F : Fun K "_fence" "Reader._fence" sRFence f fd) (T : TxtRd K mg C) (C_accept : CalM P w K mg base CX0 1 C "_accept" ["self", "wanted"] (spRd K C RAcc)) (C_delimiter : CalM P w K mg base CX0 4 C "_delimiter" ["self"] (spRd K C RDelim)) (C_row : CalM P w K mg base CX0 (6 * n + 4) C "_row" ["self", "depth", "stops"] (spRd K C (RRow n))) :
    FnOk P w K mg base CX0 (6 * n + 5) f fd ["self", "depth"] (spRd K C (RFence n)) := by
  have sc := scRFence
  refine F.ok scRFence (fun vs H Q E h => ?_) (fun cdv A outer s H vs Q E hr h => ?_)
  · obtain ⟨p, tl, ws, i, j, us, ds, d, rfl, l, a, ⟨o, c, r, dep, rfl, _⟩, _⟩ := h
    cases l with
    | cons _ l => cases l; rfl
  · obtain ⟨p, tl, ws, i, j, us, ds, d, rfl, l, a, ⟨o, c, r, dep, rfl, so, sc', ok, hn, hd, hw, rfl, rfl⟩, k⟩ := h
    cases l with
    | cons t l => cases l with
    | nil =>
    cases tp_int t
    refine ⟨_, (pss_cons (ps_expr (pe_calm (pv 0) T.cl C_accept (hr.mono (by omega)) pass0 (pa_cons pe_str pa_nil)))
  (pss_cons (ps_set (i := 2) sc.nd rfl (Or.inl rfl) (pe_calm0 (pv 0) T.cl C_delimiter (hr.mono (by omega)) pass0))
  (pss_cons (ps_set (i := 3) sc.nd rfl (Or.inl rfl) (pe_calm (pv 0) T.cl C_row (hr.mono (by omega)) pass0 (pa_cons (pv 1) (pa_cons (pe_tup (pa_cons pe_str pa_nil)) pa_nil))))
  (pss_cons (ps_expr (pe_calm (pv 0) T.cl C_accept (hr.mono (by omega)) pass0 (pa_cons pe_str pa_nil)))
  (pss_one (ps_ret (pe_tup (pa_cons pe_str (pa_cons (pv 2) (pa_cons (pe_calm0 (pv 0) T.cl C_delimiter (hr.mono (by omega)) pass0) (pa_cons (pv 3) pa_nil))))))))))), ?_⟩
    obtain ⟨w1, w2⟩ := at_cons.mp hw
    obtain ⟨w2, w3⟩ := at_cons.mp w2
    obtain ⟨w4, w5⟩ := at_app.mp w3
    obtain ⟨w5, w6⟩ := at_cons.mp w5
    obtain ⟨w6, _⟩ := at_cons.mp w6
    have w7 : At ws (i + 1 + 1) (r.ws ++ [("@right" : Str)]) := at_app.mpr ⟨w4, at_cons.mpr ⟨w5, at_nil⟩⟩
    refine g_drop (r_call rfl (by decide +kernel) (by decide +kernel) (ra_pure fun _ _ => a_cons e_str a_nil) (⟨"@left", rfl, rfl, w1, rfl⟩ : RAcc [.str "@left"] ws i (i + 1) .none)) a fun H1 k1 a1 => ?_
    refine g_set (r_call rfl (by decide +kernel) (by decide +kernel) ra_nil (⟨rfl, rfl, o, w2, so, rfl⟩ : RDelim [] ws (i + 1) (i + 1 + 1) (optD (optW o)))) a1 fun v2 H2 k2 a2 t2 => ?_
    refine g_set (r_call rfl (by decide +kernel) (by decide +kernel) (ra_pure fun _ _ => a_cons (e_var rfl (.int dep)) (a_cons (e_tup (ds := [.str "@right"]) (a_cons e_str a_nil) (by decide)) a_nil)) (⟨r, dep, ["@right"], rfl, by decide +kernel, ok, hn, hd, ⟨"@right", by decide +kernel, w7⟩, rfl, rfl⟩ : RRow n _ ws (i + 1 + 1) (i + 1 + 1 + r.ws.length) r.f.d)) a2 fun v3 H3 k3 a3 t3 => ?_
    refine g_drop (r_call rfl (by decide +kernel) (by decide +kernel) (ra_pure fun _ _ => a_cons e_str a_nil) (⟨"@right", rfl, rfl, w5, rfl⟩ : RAcc [.str "@right"] ws (i + 1 + 1 + r.ws.length) (i + 1 + 1 + r.ws.length + 1) .none)) a3 fun H4 k4 a4 => ?_
    refine g_ret (r_tup (ds := [.str "fence", optD (optW o), optD (optW c), r.f.d]) (ra_cons (r_pure fun _ _ => e_str) (ra_cons (r_var a4 rfl ((t2.stay (a2.tup k3)).stay (a3.tup k4))) (ra_cons (r_call rfl (by decide +kernel) (by decide +kernel) ra_nil (⟨rfl, rfl, c, w6, sc', rfl⟩ : RDelim [] ws (i + 1 + 1 + r.ws.length + 1) (i + 1 + 1 + r.ws.length + 1 + 1) (optD (optW c)))) (ra_cons (r_var a4 rfl (t3.stay (a3.tup k4))) ra_nil)))) (Nat.le_of_ble_eq_true rfl)) a4 fun v' H5 k5 a5 t5 => k v' H5 ((((k1.trans k2).trans k3).trans k4).trans k5) ?_ t5
    rw [show (CNuc.fence o c r).ws.length = r.ws.length + 4 by simp [CNuc.ws], show i + (r.ws.length + 4) = i + 1 + 1 + r.ws.length + 1 + 1 by omega]
    exact a5
end
end
end Mg
namespace Mg.Pm
section
set_option Elab.async false
set_option linter.all false
set_option maxRecDepth 100000
set_option maxHeartbeats 1000000
open PySem L2 StX
section
variable {P : Program} {w : World} {K : PySem.W.Frag} {mg : Str → Option Value} {base : Heap} {C CF CD : Addr}
def dU : Unit → PyData := fun _ => .none
def RoPeek : List PyData → List Str → Nat → Out Str → Prop := fun ds ws i o => ds = [] ∧ o = .ok (hd ws i) i
def RoAcc : List PyData → List Str → Nat → Out Unit → Prop := fun ds ws i o => ∃ x : Str, ds = [.str x] ∧ x ≠ "end" ∧ x ≠ "bad" ∧ o = acc ws x i
def RoSym : List PyData → List Str → Nat → Out Str → Prop := fun ds ws i o => ds = [] ∧ o = symO isSymbol ws i
def RoDel : List PyData → List Str → Nat → Out (Option Str) → Prop := fun ds ws i o => ds = [] ∧ o = delO isSymbol ws i
abbrev spPk (K : PySem.W.Frag) (C CF CD : Addr) : Sp := spRo K C CF CD PyData.str RoPeek
abbrev spAc (K : PySem.W.Frag) (C CF CD : Addr) : Sp := spRo K C CF CD dU RoAcc
abbrev spSy (K : PySem.W.Frag) (C CF CD : Addr) : Sp := spRo K C CF CD PyData.str RoSym
abbrev spDl (K : PySem.W.Frag) (C CF CD : Addr) : Sp := spRo K C CF CD optD RoDel
theorem scPeekX : FnScope ["self"] ["self"] (defScope sPeek) := ⟨rfl, rfl, rfl, by decide +kernel, rfl, by decide +kernel, by decide +kernel⟩
theorem ok_peekx {f : Addr} {fd : FuncData} (F : Fun K "_peek" "Reader._peek" sPeek f fd) (T : TxtRd K mg C) : FnOk P w K mg base CX0 1 f fd ["self"] (spPk K C CF CD) := by
  have sc := scPeekX
  refine F.ok scPeekX (fun vs H Q E h => ?_) (fun cdv A outer s H vs Q E hr h => ?_)
  · obtain ⟨p, tl, ps, i, us, ds, o, rfl, l, a, ⟨rfl, _⟩, _⟩ := h
    cases l
    rfl
  · obtain ⟨p, tl, ps, i, us, ds, o, rfl, l, a, ⟨rfl, rfl⟩, k⟩ := h
    cases l
    refine ⟨_, (pss_one (ps_ret (pe_ix ix_tup (pe_ix ix_list (pe_fld (pv 0) rfl) (pe_fld (pv 0) rfl) (fun _ _ => rfl)) pe_int (fun _ _ => rfl)))), ?_⟩
    obtain ⟨xs, b, z, y, h1, h0, h2, h3, z5, yl, ez, ey⟩ := a.tok
    obtain ⟨dx, hp⟩ := a.ob
    refine ⟨_, rfl, p, C, dx, _, _, rfl, hp, T.cl, T.nT, rf_tok _ _, _, rfl, p, C, dx, _, _, rfl, hp, T.cl, T.nA, rf_at _ _, tl, xs, _, _, rfl, rfl, SqL.of h1, h2, b, _, 1, .str y, rfl, rfl, h3, rfl, ?_⟩
    rw [← ey]
    exact k _ _ (.refl _ _) a (.str _)
theorem step_at {ps : Tk} {p tl dx : Addr} {i : Nat} {H : Hp} (a : RdP K C p tl ps i H) (hp : H p = some (.ins C dx (rf tl i))) (h : i + 1 < ps.length) : RdP K C p tl ps (i + 1) (Mg.up1 H p C dx tl (i + 1)) := a.move (a.tup keep_upd) (upd_ne a.ne) ⟨dx, upd_same⟩ h
theorem scAcceptX : FnScope ["self", "wanted", "place", "word"] ["self", "wanted"] (defScope sAccept) := ⟨rfl, rfl, rfl, by decide +kernel, rfl, by decide +kernel, by decide +kernel⟩
theorem ok_acceptx {f : Addr} {fd : FuncData} (F : Fun K "_accept" "Reader._accept" sAccept f fd) (T : TxtRd K mg C) (U : MkF P K mg CF) : FnOk P w K mg base (L2.CX P w) 2 f fd ["self", "wanted"] (spAc K C CF CD) := by
  have sc := scAcceptX
  refine F.okX scAcceptX (fun vs H Q E h => ?_) (fun cdv A outer s H vs Q E hr h => ?_)
  · obtain ⟨p, tl, ps, i, us, ds, o, rfl, l, a, ⟨x, rfl, _⟩, _⟩ := h
    cases l with
    | cons _ l => cases l; rfl
  · obtain ⟨p, tl, ps, i, us, ds, o, rfl, l, a, ⟨x, rfl, x1, x2, rfl⟩, k⟩ := h
    cases l with
    | cons t l => cases l with
    | nil =>
    cases tp_str t
    refine ⟨_, (pss_cons (ps_asg (pe_ix ix_list (pe_fld (pv 0) rfl) (pe_fld (pv 0) rfl) (fun _ _ => rfl)) (pg_tup rfl (pgs_cons (pg_name (i := 2) sc.nd rfl (Or.inl rfl)) (pgs_cons (pg_name (i := 3) sc.nd rfl (Or.inl rfl)) pgs_nil))))
  (pss_cons (ps_if (pt_cmpR op_ne (pv 3) (pv 1) (nomark _))
  (pss_one (ps_raise rfl (takes_of rfl rfl rfl rfl) (U rfl rfl rfl hr (by omega) (pv 2) rfl)))
  pss_nil)
  (pss_one (ps_fldaug (pv 0) pe_int in_add)))), ?_⟩
    obtain ⟨xs, b, z, y, h1, h0, h2, h3, z5, yl, ez, ey⟩ := a.tok
    obtain ⟨dx, hp⟩ := a.ob
    refine ⟨_, rfl, p, C, dx, _, _, rfl, hp, T.cl, T.nT, rf_tok _ _, _, rfl, p, C, dx, _, _, rfl, hp, T.cl, T.nA, rf_at _ _, tl, xs, _, _, rfl, rfl, SqL.of h1, h2, b, _, rfl, h3, rfl, V.int _, _, rfl, V.str _, _, rfl, rfl, ?_⟩
    have tst : ∀ (σ : L2.St), σ[3]? = some (some (.str y)) → σ[1]? = some (some (.str x)) → EvDT K (tTest (tOp rNe (tVar 3) (tVar 1))) σ H (!decide (y = x)) := fun σ h3 h4 => t_test (e_op (e_var h3 (.str y)) (e_var h4 (.str x)) r_neS)
    dsimp only
    by_cases c : y = x
    · refine q_no (K := K) (b := !decide (y = x)) (tst _ (by rfl) (by rfl)) (by simp [c]) fun H1 s1 => ?_
      have a1 := a.same s1
      have hp1 := s1 _ _ hp
      have hl : i + 1 < ps.length := by
        have := hd_next (ws := wsP ps) a.en x1 x2 (i := i) (by rw [wsP_len]; exact a.lt) (ey.trans c)
        rwa [wsP_len] at this
      refine ⟨_, rfl, p, C, dx, _, _, rfl, hp1, T.cl, T.nA, rf_at _ _, _, _, rfl, rfl, dx, _, hp1, (by show 2 < 1000; decide), ?_⟩
      have e : putF "_at" (.int ((i : Int) + 1)) (rf tl i) = rf tl (i + 1) := rf_put tl i (i + 1)
      rw [e]
      rw [show acc (wsP ps) x i = .ok () (i + 1) from if_pos (ey.trans c)] at k
      exact k _ _ ((KeepB.of s1).trans keep_upd) (step_at a1 hp1 hl) .non
    · refine q_yes (K := K) (b := !decide (y = x)) (tst _ (by rfl) (by rfl)) (by simp [c]) fun H1 s1 => ?_
      rw [show acc (wsP ps) x i = .bad i from if_neg (fun e => c (ey.symm.trans e))] at k
      refine ⟨_, rfl, (z : Int), rfl, by omega, fun d hd => k d _ ?_ ?_⟩
      · exact KeepB.of (s1.trans (same_new hd))
      · rw [ez]
        exact upd_same
theorem scRSymbolX : FnScope ["self", "place", "word"] ["self"] (defScope sRSymbol) := ⟨rfl, rfl, rfl, by decide +kernel, rfl, by decide +kernel, by decide +kernel⟩
theorem ok_rsymbolx {f : Addr} {fd : FuncData} (F : Fun K "_symbol" "Reader._symbol" sRSymbol f fd) (T : TxtRd K mg C) (U : MkF P K mg CF) (C_is_symbol : Cal P w K mg base CX0 2 "is_symbol" ["word"] spIsSymbol) : FnOk P w K mg base (L2.CX P w) 3 f fd ["self"] (spSy K C CF CD) := by
  have sc := scRSymbolX
  refine F.okX scRSymbolX (fun vs H Q E h => ?_) (fun cdv A outer s H vs Q E hr h => ?_)
  · obtain ⟨p, tl, ps, i, us, ds, o, rfl, l, a, ⟨rfl, _⟩, _⟩ := h
    cases l
    rfl
  · obtain ⟨p, tl, ps, i, us, ds, o, rfl, l, a, ⟨rfl, rfl⟩, k⟩ := h
    cases l
    refine ⟨_, (pss_cons (ps_asg (pe_ix ix_list (pe_fld (pv 0) rfl) (pe_fld (pv 0) rfl) (fun _ _ => rfl)) (pg_tup rfl (pgs_cons (pg_name (i := 1) sc.nd rfl (Or.inl rfl)) (pgs_cons (pg_name (i := 2) sc.nd rfl (Or.inl rfl)) pgs_nil))))
  (pss_cons (ps_if (pt_not (pt_val (pe_cal C_is_symbol (hr.mono (by omega)) rfl pass0 (pa_cons (pv 2) pa_nil))))
  (pss_one (ps_raise rfl (takes_of rfl rfl rfl rfl) (U rfl rfl rfl hr (by omega) (pv 1) rfl)))
  pss_nil)
  (pss_cons (ps_fldaug (pv 0) pe_int in_add)
  (pss_one (ps_ret (pv 2)))))), ?_⟩
    obtain ⟨xs, b, z, y, h1, h0, h2, h3, z5, yl, ez, ey⟩ := a.tok
    obtain ⟨dx, hp⟩ := a.ob
    refine ⟨_, rfl, p, C, dx, _, _, rfl, hp, T.cl, T.nT, rf_tok _ _, _, rfl, p, C, dx, _, _, rfl, hp, T.cl, T.nA, rf_at _ _, tl, xs, _, _, rfl, rfl, SqL.of h1, h2, b, _, rfl, h3, rfl, V.int _, _, rfl, V.str _, _, rfl, rfl, ?_⟩
    have tst : ∀ (σ : L2.St), σ[2]? = some (some (.str y)) → EvDT K (tNot (tTest (tCall spIsSymbol [] E0 (tCons (tVar 2) tNil)))) σ H (!isSymbol y) := fun σ h => t_not (t_test (e_callV (us := [.str y]) (fun H1 s1 Q q => ⟨_, h, q H1 (.refl _)⟩) fun H1 s1 Q q => ⟨y, rfl, yl, fun H2 s2 => q _ H2 s2 (.bl _)⟩))
    dsimp only
    cases c : isSymbol y with
    | true =>
      refine q_no (K := K) (b := !isSymbol y) (tst _ rfl) (by rw [c]; rfl) fun H1 s1 => ?_
      have a1 := a.same s1
      have hp1 := s1 _ _ hp
      have e1 : symO isSymbol (wsP ps) i = .ok y (i + 1) := by
        unfold symO
        rw [ey, if_pos c]
      have hl : i + 1 < ps.length := by
        have f := sym_fwd a.en (i := i) (by rw [wsP_len]; exact a.lt)
        rw [e1] at f
        have := f.2
        rwa [wsP_len] at this
      rw [e1] at k
      refine ⟨_, rfl, p, C, dx, _, _, rfl, hp1, T.cl, T.nA, rf_at _ _, _, _, rfl, rfl, dx, _, hp1, (by show 2 < 1000; decide), ?_⟩
      have e : putF "_at" (.int ((i : Int) + 1)) (rf tl i) = rf tl (i + 1) := rf_put tl i (i + 1)
      rw [e]
      exact ⟨_, rfl, k _ _ ((KeepB.of s1).trans keep_upd) (step_at a1 hp1 hl) (.str y)⟩
    | false =>
      refine q_yes (K := K) (b := !isSymbol y) (tst _ rfl) (by rw [c]; rfl) fun H1 s1 => ?_
      have e1 : symO isSymbol (wsP ps) i = .bad i := by
        unfold symO
        rw [ey, if_neg (by rw [c]; decide)]
      rw [e1] at k
      refine ⟨_, rfl, (z : Int), rfl, by omega, fun d hd => k d _ ?_ ?_⟩
      · exact KeepB.of (s1.trans (same_new hd))
      · rw [ez]
        exact upd_same
theorem scDelimiterX : FnScope ["self", "name"] ["self"] (defScope sDelimiter) := ⟨rfl, rfl, rfl, by decide +kernel, rfl, by decide +kernel, by decide +kernel⟩
theorem ok_delimiterx {f : Addr} {fd : FuncData} (F : Fun K "_delimiter" "Reader._delimiter" sDelimiter f fd) (T : TxtRd K mg C) (C_symbol : CalM P w K mg base (L2.CX P w) 3 C "_symbol" ["self"] (spSy K C CF CD)) : FnOk P w K mg base (L2.CX P w) 4 f fd ["self"] (spDl K C CF CD) := by
  have sc := scDelimiterX
  refine F.okX scDelimiterX (fun vs H Q E h => ?_) (fun cdv A outer s H vs Q E hr h => ?_)
  · obtain ⟨p, tl, ps, i, us, ds, o, rfl, l, a, ⟨rfl, _⟩, _⟩ := h
    cases l
    rfl
  · obtain ⟨p, tl, ps, i, us, ds, o, rfl, l, a, ⟨rfl, rfl⟩, k⟩ := h
    cases l
    refine ⟨_, (pss_cons (ps_set (i := 1) sc.nd rfl (Or.inl rfl) (pe_calm0 (pv 0) T.cl C_symbol (hr.mono (by omega)) passX))
  (pss_one (ps_ret (pe_ifExp (pt_cmpR op_eq (pv 1) pe_str (nomark _)) pe_non (pv 1))))), ?_⟩
    refine g_set (o_call rfl (by decide +kernel) (by decide +kernel) (fun _ _ => a_nil) (⟨rfl, rfl⟩ : RoSym [] (wsP ps) i _)) a k fun x j v H1 e1 k1 a1 t1 k => ?_
    cases tp_str t1
    have k : Post K C CF CD p tl ps optD Q E H1 (.ok (optW x) j) := k
    refine g_ret0 (o := .ok (optW x) j) (Df := optD) ?_ a1 k
    exact o_pure (fun H2 k2 => e_if (b := decide (x = ".")) (t_test (e_op (e_var rfl (.str x)) e_str r_eqS)) (fun z => by
      have z := of_decide_eq_true z
      subst z
      exact e_non) fun z => by
      have z := of_decide_eq_false z
      rw [show optW x = some x from if_neg z]
      exact e_var rfl (.str x))
/-! the methods that read rows, by depth -/
def RoRow (n : Nat) : List PyData → List Str → Nat → Out FRow → Prop := fun ds ws i o => ∃ (k : Nat) (dep : Int) (st : List Str), ds = [.int dep, .tuple (st.map .str)] ∧ k < n ∧ dep = 8 - (k : Int) ∧ st.length ≤ 10 ∧ o = rowAt isSymbol ws k st i
def RoBr (n : Nat) : List PyData → List Str → Nat → Out FRow → Prop := fun ds ws i o => ∃ (k : Nat) (dep : Int), ds = [.int dep] ∧ k < n ∧ dep = 8 - (k : Int) ∧ o = bracedO ws (rowAt isSymbol ws k) i
def RoArg (n : Nat) : List PyData → List Str → Nat → Out FRow → Prop := fun ds ws i o => ∃ (k : Nat) (dep : Int), ds = [.int dep] ∧ k < n ∧ dep = 8 - (k : Int) ∧ o = argO isSymbol ws (rowAt isSymbol ws k) (k == 0) i
def RoFe (n : Nat) : List PyData → List Str → Nat → Out FNuc → Prop := fun ds ws i o => ∃ (k : Nat) (dep : Int), ds = [.int dep] ∧ k < n ∧ dep = 8 - (k : Int) ∧ o = fenceO isSymbol ws (rowAt isSymbol ws k) i
theorem scRBracedX : FnScope ["self", "depth", "row"] ["self", "depth"] (defScope sRBraced) := ⟨rfl, rfl, rfl, by decide +kernel, rfl, by decide +kernel, by decide +kernel⟩
theorem ok_rbracedx {n : Nat} {f : Addr} {fd : FuncData} (F : Fun K "_braced" "Reader._braced" sRBraced f fd) (T : TxtRd K mg C) (C_accept : CalM P w K mg base (L2.CX P w) 2 C "_accept" ["self", "wanted"] (spAc K C CF CD)) (C_row : CalM P w K mg base (L2.CX P w) (6 * n + 4) C "_row" ["self", "depth", "stops"] (spRo K C CF CD FRow.d (RoRow n))) : FnOk P w K mg base (L2.CX P w) (6 * n + 5) f fd ["self", "depth"] (spRo K C CF CD FRow.d (RoBr n)) := by
  have sc := scRBracedX
  refine F.okX scRBracedX (fun vs H Q E h => ?_) (fun cdv A outer s H vs Q E hr h => ?_)
  · obtain ⟨p, tl, ps, i, us, ds, o, rfl, l, a, ⟨_, dep, rfl, _⟩, _⟩ := h
    cases l with
    | cons _ l => cases l; rfl
  · obtain ⟨p, tl, ps, i, us, ds, o, rfl, l, a, ⟨m, dep, rfl, hm, hd, rfl⟩, k⟩ := h
    cases l with
    | cons t l => cases l with
    | nil =>
    cases tp_int t
    refine ⟨_, (pss_cons (ps_expr (pe_calm (pv 0) T.cl C_accept (hr.mono (by omega)) passX (pa_cons pe_str pa_nil)))
  (pss_cons (ps_set (i := 2) sc.nd rfl (Or.inl rfl) (pe_calm (pv 0) T.cl C_row (hr.mono (by omega)) passX (pa_cons (pv 1) (pa_cons (pe_tup (pa_cons pe_str pa_nil)) pa_nil))))
  (pss_cons (ps_expr (pe_calm (pv 0) T.cl C_accept (hr.mono (by omega)) passX (pa_cons pe_str pa_nil)))
  (pss_one (ps_ret (pv 2)))))), ?_⟩
    refine g_drop (o_call rfl (by decide +kernel) (by decide +kernel) (fun _ _ => a_cons e_str a_nil) (⟨"{", rfl, by decide +kernel, by decide +kernel, rfl⟩ : RoAcc _ _ _ _)) a k fun _ j1 H1 e1 k1 a1 k => ?_
    refine g_set (o_call rfl (by decide +kernel) (by decide +kernel) (fun _ _ => a_cons (e_var rfl (.int dep)) (a_cons (e_tup (ds := [.str "}"]) (a_cons e_str a_nil) (by decide)) a_nil)) (⟨m, dep, ["}"], rfl, hm, hd, by decide, rfl⟩ : RoRow n _ _ _ _)) a1 k fun r j2 v H2 e2 k2 a2 t2 k => ?_
    refine g_drop (o_call rfl (by decide +kernel) (by decide +kernel) (fun _ _ => a_cons e_str a_nil) (⟨"}", rfl, by decide +kernel, by decide +kernel, rfl⟩ : RoAcc _ _ _ _)) a2 k fun _ j3 H3 e3 k3 a3 k => ?_
    exact g_ret0 (o_var a3 rfl (t2.stay (a2.tup k3))) a3 k
theorem scArgumentX : FnScope ["self", "depth", "name"] ["self", "depth"] (defScope sArgument) := ⟨rfl, rfl, rfl, by decide +kernel, rfl, by decide +kernel, by decide +kernel⟩
theorem ok_argumentx {n : Nat} {f : Addr} {fd : FuncData} (F : Fun K "_argument" "Reader._argument" sArgument f fd) (T : TxtRd K mg C) (C_peek : CalM P w K mg base CX0 1 C "_peek" ["self"] (spPk K C CF CD)) (C_symbol : CalM P w K mg base (L2.CX P w) 3 C "_symbol" ["self"] (spSy K C CF CD)) (C_check_depth : Cal P w K mg base (L2.CX P w) 1 "check_depth" ["depth"] (spCheckDepth CD)) (C_braced : CalM P w K mg base (L2.CX P w) (6 * n + 5) C "_braced" ["self", "depth"] (spRo K C CF CD FRow.d (RoBr n))) :
    FnOk P w K mg base (L2.CX P w) (6 * n + 6) f fd ["self", "depth"] (spRo K C CF CD FRow.d (RoArg n)) := by
  have sc := scArgumentX
  refine F.okX scArgumentX (fun vs H Q E h => ?_) (fun cdv A outer s H vs Q E hr h => ?_)
  · obtain ⟨p, tl, ps, i, us, ds, o, rfl, l, a, ⟨_, dep, rfl, _⟩, _⟩ := h
    cases l with
    | cons _ l => cases l; rfl
  · obtain ⟨p, tl, ps, i, us, ds, o, rfl, l, a, ⟨m, dep, rfl, hm, hd, rfl⟩, k⟩ := h
    cases l with
    | cons t l => cases l with
    | nil =>
    cases tp_int t
    refine ⟨_, (pss_cons (ps_if (pt_cmpR op_eq (pe_calm0 (pv 0) T.cl C_peek (hr.mono (by omega)) pass0) pe_str (nomark _))
  (pss_one (ps_ret (pe_calm (pv 0) T.cl C_braced (hr.mono (by omega)) passX (pa_cons (pv 1) pa_nil))))
  pss_nil)
  (pss_cons (ps_set (i := 2) sc.nd rfl (Or.inl rfl) (pe_calm0 (pv 0) T.cl C_symbol (hr.mono (by omega)) passX))
  (pss_cons (ps_expr (pe_cal C_check_depth (hr.mono (by omega)) rfl passX (pa_cons (pv 1) pa_nil)))
  (pss_one (ps_ret (pe_tup (pa_cons (pe_tup (pa_cons (pe_tup (pa_cons pe_str (pa_cons (pv 2) pa_nil))) (pa_cons pe_non (pa_cons pe_non pa_nil)))) pa_nil))))))), ?_⟩
    refine g_when (b := decide (Pm.hd (wsP ps) i = "{")) (ot_eq (E := E0) (CF := CF) (CD := CD) (o_call rfl (by decide +kernel) (by decide +kernel) (fun _ _ => a_nil) (⟨rfl, rfl⟩ : RoPeek [] (wsP ps) i _)) r_eqS) a (fun c H1 k1 a1 => ?_) fun c H1 k1 a1 => ?_
    · have k := k.keep k1
      unfold argO at k
      rw [if_pos (of_decide_eq_true c)] at k
      exact g_ret0 (o_call rfl (by decide +kernel) (by decide +kernel) (fun _ _ => a_cons (e_var rfl (.int dep)) a_nil) (⟨m, dep, rfl, hm, hd, rfl⟩ : RoBr n _ _ _ _)) a1 k
    · have k := k.keep k1
      unfold argO at k
      rw [if_neg (of_decide_eq_false c)] at k
      refine g_set (o_call rfl (by decide +kernel) (by decide +kernel) (fun _ _ => a_nil) (⟨rfl, rfl⟩ : RoSym [] (wsP ps) i _)) a1 k fun x j v H2 e2 k2 a2 t2 k => ?_
      cases tp_str t2
      refine ⟨_, rfl, dep, rfl, fun d7 => ?_, fun d7 => ?_⟩
      · have m0 : (m == 0) = false := by
          simp
          omega
        rw [m0] at k
        have k : Post K C CF CD p tl ps FRow.d Q E H2 (.ok (one x) j) := k
        exact g_ret0 (show EvO K C CF CD p tl ps E _ _ _ j (.ok (one x) j) FRow.d from o_pure fun _ _ => e_tup (ds := [.tuple [.tuple [.str "symbol", .str x], .none, .none]]) (a_cons (e_tup (a_cons (e_tup (a_cons e_str (a_cons (e_var rfl (.str x)) a_nil)) (Nat.le_of_ble_eq_true rfl)) (a_cons e_non (a_cons e_non a_nil))) (Nat.le_of_ble_eq_true rfl)) a_nil) (Nat.le_of_ble_eq_true rfl)) a2 k
      · have m0 : (m == 0) = true := by
          simp
          omega
        rw [m0] at k
        exact k _ (.refl _ _)
theorem scRFenceX : FnScope ["self", "depth", "opening", "row"] ["self", "depth"] (defScope sRFence) := ⟨rfl, rfl, rfl, by decide +kernel, rfl, by decide +kernel, by decide +kernel⟩
theorem ok_rfencex {n : Nat} {f : Addr} {fd : FuncData} (F : Fun K "_fence" "Reader._fence" sRFence f fd) (T : TxtRd K mg C) (C_accept : CalM P w K mg base (L2.CX P w) 2 C "_accept" ["self", "wanted"] (spAc K C CF CD)) (C_delimiter : CalM P w K mg base (L2.CX P w) 4 C "_delimiter" ["self"] (spDl K C CF CD)) (C_row : CalM P w K mg base (L2.CX P w) (6 * n + 4) C "_row" ["self", "depth", "stops"] (spRo K C CF CD FRow.d (RoRow n))) :
    FnOk P w K mg base (L2.CX P w) (6 * n + 5) f fd ["self", "depth"] (spRo K C CF CD FNuc.d (RoFe n)) := by
  have sc := scRFenceX
  refine F.okX scRFenceX (fun vs H Q E h => ?_) (fun cdv A outer s H vs Q E hr h => ?_)
  · obtain ⟨p, tl, ps, i, us, ds, o, rfl, l, a, ⟨_, dep, rfl, _⟩, _⟩ := h
    cases l with
    | cons _ l => cases l; rfl
  · obtain ⟨p, tl, ps, i, us, ds, o, rfl, l, a, ⟨m, dep, rfl, hm, hd, rfl⟩, k⟩ := h
    cases l with
    | cons t l => cases l with
    | nil =>
    cases tp_int t
    refine ⟨_, (pss_cons (ps_expr (pe_calm (pv 0) T.cl C_accept (hr.mono (by omega)) passX (pa_cons pe_str pa_nil)))
  (pss_cons (ps_set (i := 2) sc.nd rfl (Or.inl rfl) (pe_calm0 (pv 0) T.cl C_delimiter (hr.mono (by omega)) passX))
  (pss_cons (ps_set (i := 3) sc.nd rfl (Or.inl rfl) (pe_calm (pv 0) T.cl C_row (hr.mono (by omega)) passX (pa_cons (pv 1) (pa_cons (pe_tup (pa_cons pe_str pa_nil)) pa_nil))))
  (pss_cons (ps_expr (pe_calm (pv 0) T.cl C_accept (hr.mono (by omega)) passX (pa_cons pe_str pa_nil)))
  (pss_one (ps_ret (pe_tup (pa_cons pe_str (pa_cons (pv 2) (pa_cons (pe_calm0 (pv 0) T.cl C_delimiter (hr.mono (by omega)) passX) (pa_cons (pv 3) pa_nil))))))))))), ?_⟩
    refine g_drop (o_call rfl (by decide +kernel) (by decide +kernel) (fun _ _ => a_cons e_str a_nil) (⟨"@left", rfl, by decide +kernel, by decide +kernel, rfl⟩ : RoAcc _ _ _ _)) a k fun _ j1 H1 e1 k1 a1 k => ?_
    refine g_set (o_call rfl (by decide +kernel) (by decide +kernel) (fun _ _ => a_nil) (⟨rfl, rfl⟩ : RoDel [] _ _ _)) a1 k fun oq j2 v2 H2 e2 k2 a2 t2 k => ?_
    refine g_set (o_call rfl (by decide +kernel) (by decide +kernel) (fun _ _ => a_cons (e_var rfl (.int dep)) (a_cons (e_tup (ds := [.str "@right"]) (a_cons e_str a_nil) (by decide)) a_nil)) (⟨m, dep, ["@right"], rfl, hm, hd, by decide, rfl⟩ : RoRow n _ _ _ _)) a2 k fun r j3 v3 H3 e3 k3 a3 t3 k => ?_
    refine g_drop (o_call rfl (by decide +kernel) (by decide +kernel) (fun _ _ => a_cons e_str a_nil) (⟨"@right", rfl, by decide +kernel, by decide +kernel, rfl⟩ : RoAcc _ _ _ _)) a3 k fun _ j4 H4 e4 k4 a4 k => ?_
    exact g_ret (o_tup (oa_consP (d := .str "fence") (fun _ _ => e_str) (oa_consP (d := optD oq) (fun H5 k5 => e_var rfl ((t2.stay (a2.tup k3)).stay (a3.tup (k4.trans k5)))) (oa_consE (o_call rfl (by decide +kernel) (by decide +kernel) (fun _ _ => a_nil) (⟨rfl, rfl⟩ : RoDel [] _ _ _)) (ds := [r.d]) (fun H5 k5 => a_cons (e_var rfl (t3.stay (a3.tup (k4.trans k5)))) a_nil)))) (fun _ => Nat.le_of_ble_eq_true rfl)) a4 k (fun _ => rfl)
end
end
end Mg.Pm
namespace Mg
section
set_option Elab.async false
set_option linter.all false
set_option maxRecDepth 100000
set_option maxHeartbeats 1000000
open PySem L2 StX
section
variable {P : Program} {w : World} {K : PySem.W.Frag} {mg : Str → Option Value} {base : Heap} {C : Addr}
theorem scRRow : FnScope ["self", "depth", "stops", "items"] ["self", "depth", "stops"] (defScope sRRow) := ⟨rfl, rfl, rfl, by decide +kernel, rfl, by decide +kernel, by decide +kernel⟩
theorem ok_rrow {n : Nat} {f : Addr} {fd : FuncData} (F : Fun K "_row" "Reader._row" sRRow f fd) (T : TxtRd K mg C) (C_peek : CalM P w K mg base CX0 1 C "_peek" ["self"] (spRd K C RPeek)) (C_check_depth : Cal P w K mg base CX0 1 "check_depth" ["depth"] spCheckDepth0) (C_item : CalM P w K mg base CX0 (6 * n + 8) C "_item" ["self", "depth"] (spRd K C (RItem n))) :
    FnOk P w K mg base CX0 (6 * n + 10) f fd ["self", "depth", "stops"] (spRd K C (RRow (n + 1))) := by
  have sc := scRRow
  refine F.ok scRRow (fun vs H Q E h => ?_) (fun cdv A outer s H vs Q E hr h => ?_)
  · obtain ⟨p, tl, ws, i, j, us, ds, d, rfl, l, a, ⟨r, dep, stops, rfl, _⟩, _⟩ := h
    cases l with
    | cons _ l => cases l with
    | cons _ l => cases l; rfl
  · obtain ⟨p, tl, ws, i, j, us, ds, d, rfl, l, a, ⟨r, dep, stops, rfl, hst, ok, hn, hd, ⟨x, hx, hw⟩, rfl, rfl⟩, k⟩ := h
    cases l with
    | cons t l => cases l with
    | cons t2 l => cases l with
    | nil =>
    rename_i vst
    cases tp_int t
    refine ⟨_, (pss_cons (ps_expr (pe_cal C_check_depth (hr.mono (by omega)) rfl pass0 (pa_cons (pv 1) pa_nil)))
  (pss_cons (ps_set (i := 3) sc.nd rfl (Or.inl rfl) (pe_lst pa_nil))
  (pss_cons (ps_while PassesOwn.never (pt_cmpR op_notIn_seq (pe_calm0 (pv 0) T.cl C_peek (hr.mono (by omega)) pass0) (pv 2) (by rfl))
  (pss_one (ps_expr (pe_bm PySem.F.plainAttrs_list PySem.F.slot_list_append PySem.F.type_list_append mt_append (pv 3) (pa_cons (pe_calm (pv 0) T.cl C_item (hr.mono (by omega)) pass0 (pa_cons (pv 1) pa_nil)) pa_nil)))))
  (pss_one (ps_ret (pe_callTy call_tuple_of (by rfl) T.b_tuple (by decide +kernel) (pa_cons (pv 3) pa_nil))))))), ?_⟩
    have h0 : (0 : Int) ≤ (r.h : Int) := Int.ofNat_nonneg _
    refine ⟨_, rfl, dep, rfl, by omega, ?_⟩
    refine ⟨Nat.zero_le _, fun q nq => ?_⟩
    have ne1 : q ≠ p := fun e => by
      obtain ⟨dx, hp⟩ := a.ob
      rw [e, hp] at nq
      cases nq
    have ne2 : q ≠ tl := fun e => by
      obtain ⟨xs, hp, _⟩ := a.tk
      rw [e, hp] at nq
      cases nq
    have okI := CRow.ok_iff.mp ok
    have hI := (CRow.h_le (n := r.h)).mp (Nat.le_refl _)
    have hL : r.items.length ≤ 1000000 := by
      have h1 : r.items.length ≤ r.ws.length := by
        rw [CRow.ws_eq]
        have : ∀ L : List CItem, (∀ z ∈ L, z.ok) → L.length ≤ (L.flatMap CItem.ws).length := by
          intro L
          induction L with
          | nil => intro _; exact Nat.zero_le _
          | cons z L ih =>
            intro h
            obtain ⟨y, r', e, _⟩ := CItem.first (h z (List.mem_cons_self))
            have := ih fun y hy => h y (List.mem_cons_of_mem _ hy)
            rw [List.flatMap_cons, List.length_append, List.length_cons, e, List.length_cons]
            omega
        exact this r.items okI
      have h2 : r.ws.length ≤ ws.length := by
        obtain ⟨z, hz⟩ := hw
        have := congrArg List.length hz
        rw [List.length_append, List.length_append, List.length_drop] at this
        omega
      exact Nat.le_trans h1 (Nat.le_trans h2 a.sz)
    refine ⟨fun m σ H' => ∃ (done rest : List CItem) (xs : List V), m = rest.length ∧ r.items = done ++ rest ∧ σ = [some (.ref p), some (.int dep), some vst, some (.ref q)] ∧ KeepB p H H' ∧ RdAt K C p tl ws (i + (done.flatMap CItem.ws).length) H' ∧ H' q = some (.lst xs) ∧ TpL K H' xs (done.map fun z => z.f.d),
      ⟨_, [], r.items, [], rfl, rfl, rfl, KeepB.of (same_new nq), a.same (same_new nq), upd_same, .nil⟩, ?_⟩
    rintro m σ H' ⟨done, rest, xs, rfl, er, rfl, kb, a1, eq, lx⟩
    have hw' : At ws (i + (done.flatMap CItem.ws).length) (rest.flatMap CItem.ws ++ [x]) := by
      rw [CRow.ws_eq, er, List.flatMap_append, List.append_assoc] at hw
      exact (at_app.mp hw).2
    have tst := t2.stay (a.tup kb)
    have pk : ∀ {y : Str}, ws[i + (done.flatMap CItem.ws).length]? = some y → EvRT K C p tl ws (tTest (tOp (rIn K true) (tMeth C "_peek" (spRd K C RPeek) [] E0 (tVar 0) tNil) (tVar 2))) [some (.ref p), some (.int dep), some vst, some (.ref q)] H' (i + (done.flatMap CItem.ws).length) (!(stops.any fun r => r == y)) := fun hy =>
      rt_notIn (r_call rfl (by decide +kernel) (by decide +kernel) ra_nil ⟨rfl, rfl, _, hy, rfl⟩) a1 rfl tst
    cases rest with
    | nil =>
      have hx0 := (at_cons.mp hw').1
      refine pk hx0 H' (.refl _ _) a1 _ fun H2 k2 a2 => ?_
      have e : (!(stops.any fun r => r == x)) = false := by
        have : (stops.any fun r => r == x) = true := List.any_eq_true.mpr ⟨x, hx, by simp⟩
        rw [this]
        rfl
      refine iteN (by rw [e]; decide) ?_
      have eq2 := k2 _ _ eq ne1
      rw [List.append_nil] at er
      refine ⟨_, rfl, q, xs, rfl, .inl ⟨SqL.of eq2, fun c hc => ?_⟩⟩
      refine k _ _ ((kb.trans k2).trans (.of (same_new hc))) ?_ ?_
      · rw [CRow.ws_eq, er]
        exact a2.same (same_new hc)
      · show Tp K _ _ (.tuple r.f.ds)
        rw [CRow.ds_eq, er]
        exact .mk (SqT.of upd_same) ((lx.stay (a1.tup k2)).stay (.of (same_new hc)))
    | cons it rest =>
      have oki := okI it (by rw [er]; simp)
      obtain ⟨y, r', ey, fy⟩ := CItem.first oki
      have hw2 : At ws (i + (done.flatMap CItem.ws).length) (it.ws ++ (rest.flatMap CItem.ws ++ [x])) := by
        rw [List.flatMap_cons, List.append_assoc] at hw'
        exact hw'
      have hy : ws[i + (done.flatMap CItem.ws).length]? = some y := by
        rw [ey] at hw2
        exact (at_cons.mp hw2).1
      refine pk hy H' (.refl _ _) a1 _ fun H2 k2 a2 => ?_
      have e : (!(stops.any fun r => r == y)) = true := by
        have : (stops.any fun r => r == y) = false := List.any_eq_false.mpr fun z hz => by
          have : z ≠ y := fun e => fy.1 (e ▸ hst z hz)
          simpa using this
        rw [this]
        rfl
      refine iteP e ?_
      have nxt : ∃ z : Str, z ≠ "_" ∧ z ≠ "^" ∧ At ws (i + (done.flatMap CItem.ws).length) (it.ws ++ [z]) := by
        obtain ⟨g1, g2⟩ := at_app.mp hw2
        cases rest with
        | nil =>
          have hs := hst x hx
          refine ⟨x, fun e => ?_, fun e => ?_, at_app.mpr ⟨g1, g2⟩⟩
          · rw [e] at hs; exact absurd hs (by decide +kernel)
          · rw [e] at hs; exact absurd hs (by decide +kernel)
        | cons it2 rest =>
          obtain ⟨y2, r2, ey2, fy2⟩ := CItem.first (okI it2 (by rw [er]; simp))
          rw [List.flatMap_cons, ey2] at g2
          exact ⟨y2, fy2.2.1, fy2.2.2, at_app.mpr ⟨g1, at_cons.mpr ⟨(at_cons.mp g2).1, at_nil⟩⟩⟩
      have hit : it.h ≤ r.h := hI it (by rw [er]; simp)
      have eq2 := k2 _ _ eq ne1
      have len : done.length + (rest.length + 1) = r.items.length := by rw [er, List.length_append, List.length_cons]
      refine ⟨_, fun σ' H'' h => h, g_app (n := 3) rfl eq2 (lx.stay (a1.tup k2)) ne1 ne2 (r_call (R := RItem n) (j := i + (done.flatMap CItem.ws).length + it.ws.length) (d := it.f.d) rfl (by decide +kernel) (by decide +kernel) (ra_pure fun _ _ => a_cons (e_var rfl (.int dep)) a_nil) ⟨it, dep, rfl, oki, by omega, by omega, nxt, rfl, rfl⟩) a2 (by rw [List.length_map]; omega) fun v H3 k3 a3 l3 => ?_⟩
      refine ⟨rest.length, Nat.lt_succ_self _, done ++ [it], rest, _, rfl, by rw [er, List.append_assoc]; rfl, rfl, keepB_new ((kb.trans k2).trans k3) nq, ?_, upd_same, ?_⟩
      · rw [List.flatMap_append, List.length_append, ← Nat.add_assoc, List.flatMap_cons, List.flatMap_nil, List.append_nil]
        exact a3
      · rw [List.map_append]
        exact l3
end
end
section
set_option Elab.async false
set_option linter.all false
set_option maxRecDepth 100000
set_option maxHeartbeats 1000000
open PySem L2 StX
/-! scripts as they come -/
def CScr.pcs : CScr → List (Bool × CArg)
  | .no => []
  | .b x => [(false, x)]
  | .a x => [(true, x)]
  | .ba x y => [(false, x), (true, y)]
  | .ab x y => [(true, x), (false, y)]
def pcW : Bool × CArg → List Str
  | (false, x) => "_" :: x.ws
  | (true, x) => "^" :: x.ws
def pcsOk : List (Bool × CArg) → FScr → FScr → Prop
  | [], _, _ => True
  | (false, x) :: r, lo, hi => lo = .no ∧ pcsOk r (.yes x.f) hi
  | (true, x) :: r, lo, hi => hi = .no ∧ pcsOk r lo (.yes x.f)
def pcsFin : List (Bool × CArg) → FScr → FScr → FScr × FScr
  | [], lo, hi => (lo, hi)
  | (false, x) :: r, _, hi => pcsFin r (.yes x.f) hi
  | (true, x) :: r, lo, _ => pcsFin r lo (.yes x.f)
theorem CScr.pcs_ws : ∀ s : CScr, s.ws = s.pcs.flatMap pcW
  | .no => rfl
  | .b x => by simp [CScr.ws, CScr.pcs, pcW]
  | .a x => by simp [CScr.ws, CScr.pcs, pcW]
  | .ba x y => by simp [CScr.ws, CScr.pcs, pcW]
  | .ab x y => by simp [CScr.ws, CScr.pcs, pcW]
theorem CScr.pcs_ok : ∀ s : CScr, pcsOk s.pcs .no .no
  | .no => trivial
  | .b x => ⟨rfl, trivial⟩
  | .a x => ⟨rfl, trivial⟩
  | .ba x y => ⟨rfl, rfl, trivial⟩
  | .ab x y => ⟨rfl, rfl, trivial⟩
theorem CScr.pcs_fin : ∀ s : CScr, pcsFin s.pcs .no .no = (s.lo, s.hi)
  | .no => rfl
  | .b x => rfl
  | .a x => rfl
  | .ba x y => rfl
  | .ab x y => rfl
theorem CScr.pcs_mem : ∀ {s : CScr} {z : Bool × CArg}, z ∈ s.pcs → s.ok → z.2.ok ∧ z.2.h + 1 ≤ s.h
  | .no, z, h, _ => nomatch h
  | .b x, z, h, o => by
    cases List.mem_singleton.mp h
    exact ⟨o, Nat.le_refl _⟩
  | .a x, z, h, o => by
    cases List.mem_singleton.mp h
    exact ⟨o, Nat.le_refl _⟩
  | .ba x y, z, h, o => by
    simp only [CScr.pcs, List.mem_cons, List.not_mem_nil, or_false] at h
    rcases h with rfl | rfl
    · exact ⟨o.1, Nat.le_max_left _ _⟩
    · exact ⟨o.2, Nat.le_max_right _ _⟩
  | .ab x y, z, h, o => by
    simp only [CScr.pcs, List.mem_cons, List.not_mem_nil, or_false] at h
    rcases h with rfl | rfl
    · exact ⟨o.1, Nat.le_max_left _ _⟩
    · exact ⟨o.2, Nat.le_max_right _ _⟩
section
variable {P : Program} {w : World} {K : PySem.W.Frag} {mg : Str → Option Value} {base : Heap} {C : Addr}
theorem scRItem : FnScope ["self", "depth", "nucleus", "below", "above"] ["self", "depth"] (defScope sRItem) := ⟨rfl, rfl, rfl, by decide +kernel, rfl, by decide +kernel, by decide +kernel⟩
theorem ok_ritem {n : Nat} {f : Addr} {fd : FuncData} (F : Fun K "_item" "Reader._item" sRItem f fd) (T : TxtRd K mg C) (C_peek : CalM P w K mg base CX0 1 C "_peek" ["self"] (spRd K C RPeek)) (C_accept : CalM P w K mg base CX0 1 C "_accept" ["self", "wanted"] (spRd K C RAcc)) (C_argument : CalM P w K mg base CX0 (6 * n + 6) C "_argument" ["self", "depth"] (spRd K C (RArg n)))
    (C_nucleus : CalM P w K mg base CX0 (6 * n + 7) C "_nucleus" ["self", "depth"] (spRd K C (RNuc n))) : FnOk P w K mg base CX0 (6 * n + 8) f fd ["self", "depth"] (spRd K C (RItem n)) := by
  have sc := scRItem
  refine F.ok scRItem (fun vs H Q E h => ?_) (fun cdv A outer s H vs Q E hr h => ?_)
  · obtain ⟨p, tl, ws, i, j, us, ds, d, rfl, l, a, ⟨r, dep, rfl, _⟩, _⟩ := h
    cases l with
    | cons _ l => cases l; rfl
  · obtain ⟨p, tl, ws, i, j, us, ds, d, rfl, l, a, ⟨⟨nu, scr⟩, dep, rfl, ok, hn, hd, ⟨x, x1, x2, hw⟩, rfl, rfl⟩, k⟩ := h
    cases l with
    | cons t l => cases l with
    | nil =>
    cases tp_int t
    refine ⟨_, (pss_cons (ps_set (i := 2) sc.nd rfl (Or.inl rfl) (pe_calm (pv 0) T.cl C_nucleus (hr.mono (by omega)) pass0 (pa_cons (pv 1) pa_nil)))
  (pss_cons (ps_set (i := 3) sc.nd rfl (Or.inl rfl) pe_non)
  (pss_cons (ps_set (i := 4) sc.nd rfl (Or.inl rfl) pe_non)
  (pss_one (ps_while PassesOwn.never (pt_val pe_bl)
  (pss_one (ps_if (PW.pt (pw_and (pt_cmpR op_eq (pe_calm0 (pv 0) T.cl C_peek (hr.mono (by omega)) pass0) pe_str (nomark _)) (pw_and1 (pt_cmpR op_isN (pv 3) pe_non (nomark _)))))
  (pss_cons (ps_expr (pe_calm (pv 0) T.cl C_accept (hr.mono (by omega)) pass0 (pa_cons pe_str pa_nil)))
  (pss_one (ps_set (i := 3) sc.nd rfl (Or.inl rfl) (pe_calm (pv 0) T.cl C_argument (hr.mono (by omega)) pass0 (pa_cons (pe_op op_add (pv 1) pe_int) pa_nil)))))
  (pss_one (ps_if (PW.pt (pw_and (pt_cmpR op_eq (pe_calm0 (pv 0) T.cl C_peek (hr.mono (by omega)) pass0) pe_str (nomark _)) (pw_and1 (pt_cmpR op_isN (pv 4) pe_non (nomark _)))))
  (pss_cons (ps_expr (pe_calm (pv 0) T.cl C_accept (hr.mono (by omega)) pass0 (pa_cons pe_str pa_nil)))
  (pss_one (ps_set (i := 4) sc.nd rfl (Or.inl rfl) (pe_calm (pv 0) T.cl C_argument (hr.mono (by omega)) pass0 (pa_cons (pe_op op_add (pv 1) pe_int) pa_nil)))))
  (pss_one (ps_ret (pe_tup (pa_cons (pv 2) (pa_cons (pv 3) (pa_cons (pv 4) pa_nil))))))))))))))), ?_⟩
    have hnu : nu.h ≤ (CItem.mk nu scr).h := Nat.le_max_left _ _
    have hsc : scr.h ≤ (CItem.mk nu scr).h := Nat.le_max_right _ _
    rw [show (CItem.mk nu scr).ws = nu.ws ++ scr.ws from rfl, List.append_assoc] at hw
    obtain ⟨w1, w2⟩ := at_app.mp hw
    rw [CScr.pcs_ws] at w2
    refine g_set (r_call (R := RNuc n) (j := i + nu.ws.length) (d := nu.f.d) rfl (by decide +kernel) (by decide +kernel) (ra_pure fun _ _ => a_cons (e_var rfl (.int dep)) a_nil) ⟨nu, dep, rfl, ok.1, by omega, by omega, w1, rfl, rfl⟩) a fun v2 H1 k1 a1 t2 => ?_
    refine ⟨fun m σ H' => ∃ (rest : List (Bool × CArg)) (lo hi : FScr) (v3 v4 : V) (i' : Nat), m = rest.length ∧ σ = [some (.ref p), some (.int dep), some v2, some v3, some v4] ∧ KeepB p H1 H' ∧ RdAt K C p tl ws i' H' ∧ At ws i' (rest.flatMap pcW ++ [x]) ∧ i' + (rest.flatMap pcW).length = i + nu.ws.length + (scr.pcs.flatMap pcW).length ∧
        Tp K H' v3 lo.d ∧ Tp K H' v4 hi.d ∧ pcsOk rest lo hi ∧ pcsFin rest lo hi = (scr.lo, scr.hi) ∧ ∀ z ∈ rest, z ∈ scr.pcs, ⟨_, scr.pcs, .no, .no, .non, .non, _, rfl, rfl, .refl _ _, a1, w2, rfl, .non, .non, CScr.pcs_ok _, CScr.pcs_fin _, fun _ h => h⟩, ?_⟩
    rintro m σ H' ⟨rest, lo, hi, v3, v4, i', rfl, rfl, kb, a2, w3, hl, t3, t4, po, pf, pm⟩
    refine ⟨true, rfl, iteP rfl ?_⟩
    refine ⟨_, fun σ' H'' h => h, ?_⟩
    have pk : ∀ {y z : Str} {H : Hp} {b : Bool}, ws[i']? = some y → b = decide (y = z) → EvRT K C p tl ws (tTest (tOp rEq (tMeth C "_peek" (spRd K C RPeek) [] E0 (tVar 0) tNil) (tC (.str z)))) [some (.ref p), some (.int dep), some v2, some v3, some v4] H i' b := fun hy e =>
      e ▸ rt_eq (r_call rfl (by decide +kernel) (by decide +kernel) ra_nil ⟨rfl, rfl, _, hy, rfl⟩) r_eqS
    cases rest with
    | nil =>
      have hx0 := (at_cons.mp w3).1
      refine g_if (b := false && false) (rt_and (pk hx0 (decide_eq_false x1).symm) (fun z => nomatch z)) a2 (fun z => nomatch z) fun _ H3 k3 a3 => ?_
      refine g_if (b := false && false) (rt_and (pk hx0 (decide_eq_false x2).symm) (fun z => nomatch z)) a3 (fun z => nomatch z) fun _ H4 k4 a4 => ?_
      have kk := k3.trans k4
      refine g_ret (i := i') (r_tup (ds := [nu.f.d, lo.d, hi.d]) (ra_cons (r_var a4 rfl (t2.stay (a1.tup (kb.trans kk)))) (ra_cons (r_var a4 rfl (t3.stay (a2.tup kk))) (ra_cons (r_var a4 rfl (t4.stay (a2.tup kk))) ra_nil))) (Nat.le_of_ble_eq_true rfl)) a4 fun v' H5 k5 a5 t5 => k v' H5 (((k1.trans kb).trans kk).trans k5) ?_ ?_
      · rw [show (CItem.mk nu scr).ws.length = nu.ws.length + (scr.pcs.flatMap pcW).length by rw [show (CItem.mk nu scr).ws = nu.ws ++ scr.ws from rfl, List.length_append, CScr.pcs_ws]]
        have e : i' = i + (nu.ws.length + (scr.pcs.flatMap pcW).length) := by
          rw [List.flatMap_nil, List.length_nil] at hl
          omega
        rw [← e]
        exact a5
      · have e1 : lo = scr.lo := congrArg Prod.fst pf
        have e2 : hi = scr.hi := congrArg Prod.snd pf
        rw [e1, e2] at t5
        exact t5
    | cons z rest =>
      obtain ⟨b, y⟩ := z
      obtain ⟨oky, hy⟩ := CScr.pcs_mem (pm _ (List.mem_cons_self)) ok.2
      have oky : y.ok := oky
      have hy : y.h + 1 ≤ scr.h := hy
      cases b with
      | false =>
        have w3 : At ws i' ((("_" : Str) :: y.ws) ++ (rest.flatMap pcW ++ [x])) := by
          rw [List.flatMap_cons, List.append_assoc] at w3
          exact w3
        obtain ⟨g1, g2⟩ := at_app.mp w3
        obtain ⟨g0, g1⟩ := at_cons.mp g1
        obtain ⟨rfl, po⟩ := po
        refine g_if (b := true && true) (rt_and (pk g0 rfl) (fun _ => rt_none a2 rfl t3)) a2 (fun _ H3 k3 a3 => ?_) (fun z => nomatch z)
        refine g_drop (r_call rfl (by decide +kernel) (by decide +kernel) (ra_pure fun _ _ => a_cons e_str a_nil) (⟨"_", rfl, rfl, g0, rfl⟩ : RAcc [.str "_"] ws i' (i' + 1) .none)) a3 fun H4 k4 a4 => ?_
        refine (r_call (R := RArg n) (H := H4) (j := i' + 1 + y.ws.length) (d := y.f.d) rfl (by decide +kernel) (by decide +kernel) (ra_pure fun _ _ => a_cons (e_op (e_var rfl (.int dep)) e_int r_I0i) a_nil) ⟨y, dep + 1, rfl, oky, by omega, by omega, g1, rfl, rfl⟩ : EvR K C p tl ws _ _ _ _ _ _) H4 (.refl _ _) a4 _ fun v H5 k5 a5 t5 => ?_
        have kk := (k3.trans k4).trans k5
        refine ⟨rest.length, Nat.lt_succ_self _, rest, .yes y.f, hi, v, v4, _, rfl, rfl, kb.trans kk, a5, ?_, ?_, t5, t4.stay (a2.tup kk), po, pf, fun z hz => pm z (List.mem_cons_of_mem _ hz)⟩
        · rw [show i' + 1 + y.ws.length = i' + (("_" : Str) :: y.ws).length by rw [List.length_cons]; omega]
          exact g2
        · rw [← hl, List.flatMap_cons, List.length_append, show pcW (false, y) = ("_" : Str) :: y.ws from rfl, List.length_cons]
          omega
      | true =>
        have w3 : At ws i' ((("^" : Str) :: y.ws) ++ (rest.flatMap pcW ++ [x])) := by
          rw [List.flatMap_cons, List.append_assoc] at w3
          exact w3
        obtain ⟨g1, g2⟩ := at_app.mp w3
        obtain ⟨g0, g1⟩ := at_cons.mp g1
        obtain ⟨rfl, po⟩ := po
        refine g_if (b := false && false) (rt_and (pk g0 (by decide +kernel)) (fun z => nomatch z)) a2 (fun z => nomatch z) fun _ H2 k2 a2' => ?_
        refine g_if (b := true && true) (rt_and (pk g0 rfl) (fun _ => rt_none a2' rfl (t4.stay (a2.tup k2)))) a2' (fun _ H3 k3 a3 => ?_) (fun z => nomatch z)
        refine g_drop (r_call rfl (by decide +kernel) (by decide +kernel) (ra_pure fun _ _ => a_cons e_str a_nil) (⟨"^", rfl, rfl, g0, rfl⟩ : RAcc [.str "^"] ws i' (i' + 1) .none)) a3 fun H4 k4 a4 => ?_
        refine (r_call (R := RArg n) (H := H4) (j := i' + 1 + y.ws.length) (d := y.f.d) rfl (by decide +kernel) (by decide +kernel) (ra_pure fun _ _ => a_cons (e_op (e_var rfl (.int dep)) e_int r_I0i) a_nil) ⟨y, dep + 1, rfl, oky, by omega, by omega, g1, rfl, rfl⟩ : EvR K C p tl ws _ _ _ _ _ _) H4 (.refl _ _) a4 _ fun v H5 k5 a5 t5 => ?_
        have kk := ((k2.trans k3).trans k4).trans k5
        refine ⟨rest.length, Nat.lt_succ_self _, rest, lo, .yes y.f, v3, v, _, rfl, rfl, kb.trans kk, a5, ?_, ?_, t3.stay (a2.tup kk), t5, po, pf, fun z hz => pm z (List.mem_cons_of_mem _ hz)⟩
        · rw [show i' + 1 + y.ws.length = i' + (("^" : Str) :: y.ws).length by rw [List.length_cons]; omega]
          exact g2
        · rw [← hl, List.flatMap_cons, List.length_append, show pcW (true, y) = ("^" : Str) :: y.ws from rfl, List.length_cons]
          omega
end
end
section
set_option Elab.async false
set_option linter.all false
set_option maxRecDepth 100000
set_option maxHeartbeats 1000000
open PySem L2 StX
section
variable {P : Program} {w : World} {K : PySem.W.Frag} {mg : Str → Option Value} {base : Heap} {C : Addr}
theorem scRNucleus : FnScope ["self", "depth", "word", "over"] ["self", "depth"] (defScope sRNucleus) := ⟨rfl, rfl, rfl, by decide +kernel, rfl, by decide +kernel, by decide +kernel⟩
theorem ok_rnucleus {n : Nat} {f : Addr} {fd : FuncData} (F : Fun K "_nucleus" "Reader._nucleus" sRNucleus f fd) (T : TxtRd K mg C) (C_peek : CalM P w K mg base CX0 1 C "_peek" ["self"] (spRd K C RPeek)) (C_accept : CalM P w K mg base CX0 1 C "_accept" ["self", "wanted"] (spRd K C RAcc)) (C_symbol : CalM P w K mg base CX0 3 C "_symbol" ["self"] (spRd K C RSym))
    (C_braced : CalM P w K mg base CX0 (6 * n + 5) C "_braced" ["self", "depth"] (spRd K C (RBraced n))) (C_argument : CalM P w K mg base CX0 (6 * n + 6) C "_argument" ["self", "depth"] (spRd K C (RArg n))) (C_fence : CalM P w K mg base CX0 (6 * n + 5) C "_fence" ["self", "depth"] (spRd K C (RFence n))) (C_grid : CalM P w K mg base CX0 (6 * n + 6) C "_grid" ["self", "depth"] (spRd K C (RGrid n))) :
    FnOk P w K mg base CX0 (6 * n + 7) f fd ["self", "depth"] (spRd K C (RNuc n)) := by
  have sc := scRNucleus
  refine F.ok scRNucleus (fun vs H Q E h => ?_) (fun cdv A outer s H vs Q E hr h => ?_)
  · obtain ⟨p, tl, ws, i, j, us, ds, d, rfl, l, a, ⟨r, dep, rfl, _⟩, _⟩ := h
    cases l with
    | cons _ l => cases l; rfl
  · obtain ⟨p, tl, ws, i, j, us, ds, d, rfl, l, a, ⟨r, dep, rfl, ok, hn, hd, hw, rfl, rfl⟩, k⟩ := h
    cases l with
    | cons t l => cases l with
    | nil =>
    cases tp_int t
    refine ⟨_, (pss_cons (ps_set (i := 2) sc.nd rfl (Or.inl rfl) (pe_calm0 (pv 0) T.cl C_peek (hr.mono (by omega)) pass0))
  (pss_cons (ps_if (pt_cmpR op_eq (pv 2) pe_str (nomark _))
  (pss_one (ps_ret (pe_tup (pa_cons pe_str (pa_cons (pe_calm (pv 0) T.cl C_braced (hr.mono (by omega)) pass0 (pa_cons (pe_op op_add (pv 1) pe_int) pa_nil)) pa_nil)))))
  pss_nil)
  (pss_cons (ps_if (pt_cmpR op_eq (pv 2) pe_str (nomark _))
  (pss_cons (ps_expr (pe_calm (pv 0) T.cl C_accept (hr.mono (by omega)) pass0 (pa_cons pe_str pa_nil)))
  (pss_cons (ps_set (i := 3) sc.nd rfl (Or.inl rfl) (pe_calm (pv 0) T.cl C_argument (hr.mono (by omega)) pass0 (pa_cons (pe_op op_add (pv 1) pe_int) pa_nil)))
  (pss_one (ps_ret (pe_tup (pa_cons pe_str (pa_cons (pv 3) (pa_cons (pe_calm (pv 0) T.cl C_argument (hr.mono (by omega)) pass0 (pa_cons (pe_op op_add (pv 1) pe_int) pa_nil)) pa_nil))))))))
  pss_nil)
  (pss_cons (ps_if (pt_cmpR op_eq (pv 2) pe_str (nomark _))
  (pss_cons (ps_expr (pe_calm (pv 0) T.cl C_accept (hr.mono (by omega)) pass0 (pa_cons pe_str pa_nil)))
  (pss_one (ps_ret (pe_tup (pa_cons pe_str (pa_cons (pe_calm (pv 0) T.cl C_argument (hr.mono (by omega)) pass0 (pa_cons (pe_op op_add (pv 1) pe_int) pa_nil)) pa_nil))))))
  pss_nil)
  (pss_cons (ps_if (pt_cmpR op_eq (pv 2) pe_str (nomark _))
  (pss_one (ps_ret (pe_calm (pv 0) T.cl C_fence (hr.mono (by omega)) pass0 (pa_cons (pe_op op_add (pv 1) pe_int) pa_nil))))
  pss_nil)
  (pss_cons (ps_if (pt_cmpR op_eq (pv 2) pe_str (nomark _))
  (pss_one (ps_ret (pe_calm (pv 0) T.cl C_grid (hr.mono (by omega)) pass0 (pa_cons (pe_op op_add (pv 1) pe_int) pa_nil))))
  pss_nil)
  (pss_one (ps_ret (pe_tup (pa_cons pe_str (pa_cons (pe_calm0 (pv 0) T.cl C_symbol (hr.mono (by omega)) pass0) pa_nil))))))))))), ?_⟩
    have st : ∀ {y : Str} {tz : TS} {D : Ends}, ws[i]? = some y → (∀ v H1, KeepB p H H1 → RdAt K C p tl ws i H1 → v = .str y → tz D (List.set (L2.start ["self", "depth", "word", "over"] [.ref p, .int dep]) 2 (some v)) H1) → tSeq (tAsg (tMeth C "_peek" (spRd K C RPeek) [] E0 (tVar 0) tNil) (gName 2)) tz D (L2.start ["self", "depth", "word", "over"] [.ref p, .int dep]) H := fun hy h =>
      g_set (r_call rfl (by decide +kernel) (by decide +kernel) ra_nil (⟨rfl, rfl, _, hy, rfl⟩ : RPeek [] ws i i (.str _))) a fun v H1 k1 a1 t1 => h v H1 k1 a1 (tp_str t1)
    cases r with
    | sym x =>
      have sx : Sy x := ok
      have hx : ws[i]? = some x := (at_cons.mp hw).1
      refine st hx fun v H1 k1 a1 e => ?_
      subst e
      refine q_noS rfl (sy_ne sx (by decide +kernel)) (q_noS rfl (sy_ne sx (by decide +kernel)) (q_noS rfl (sy_ne sx (by decide +kernel)) (q_noS rfl (sy_ne sx (by decide +kernel)) (q_noS rfl (sy_ne sx (by decide +kernel)) ?_))))
      exact g_ret (r_tup (ds := [.str "symbol", .str x]) (ra_cons (r_pure fun _ _ => e_str) (ra_cons (r_call rfl (by decide +kernel) (by decide +kernel) ra_nil (⟨rfl, rfl, x, hx, sx, rfl⟩ : RSym [] ws i (i + 1) (.str x))) ra_nil)) (Nat.le_of_ble_eq_true rfl)) a1 fun v H2 k2 a2 t2 => k v H2 (k1.trans k2) a2 t2
    | group r =>
      refine st (at_cons.mp hw).1 fun v H1 k1 a1 e => ?_
      subst e
      refine q_yesS rfl ?_
      have hn : r.h + 1 ≤ n := hn
      have hd : dep + ((r.h + 1 : Nat) : Int) ≤ 7 := hd
      refine g_ret (r_tup (ds := [.str "group", r.f.d]) (ra_cons (r_pure fun _ _ => e_str) (ra_cons (r_call rfl (by decide +kernel) (by decide +kernel) (ra_pure fun _ _ => a_cons (e_op (e_var rfl (.int dep)) e_int r_I0i) a_nil) (⟨r, dep + 1, rfl, ok, by omega, by omega, hw, rfl, rfl⟩ : RBraced n [.int (dep + 1)] ws i (i + (r.ws.length + 2)) r.f.d)) ra_nil)) (Nat.le_of_ble_eq_true rfl)) a1 fun v H2 k2 a2 t2 => k v H2 (k1.trans k2) ?_ t2
      rw [show (CNuc.group r).ws.length = r.ws.length + 2 by simp [CNuc.ws]]
      exact a2
    | frac o u =>
      obtain ⟨w1, w2⟩ := at_cons.mp hw
      obtain ⟨w2, w3⟩ := at_app.mp w2
      refine st w1 fun v H1 k1 a1 e => ?_
      subst e
      refine q_noS rfl (by decide +kernel) (q_yesS rfl ?_)
      have hn : max (o.h + 1) (u.h + 1) ≤ n := hn
      have hd : dep + ((max (o.h + 1) (u.h + 1) : Nat) : Int) ≤ 7 := hd
      refine g_drop (r_call rfl (by decide +kernel) (by decide +kernel) (ra_pure fun _ _ => a_cons e_str a_nil) (⟨"@frac", rfl, rfl, w1, rfl⟩ : RAcc [.str "@frac"] ws i (i + 1) .none)) a1 fun H2 k2 a2 => ?_
      refine g_set (r_call rfl (by decide +kernel) (by decide +kernel) (ra_pure fun _ _ => a_cons (e_op (e_var rfl (.int dep)) e_int r_I0i) a_nil) (⟨o, dep + 1, rfl, ok.1, by omega, by omega, w2, rfl, rfl⟩ : RArg n [.int (dep + 1)] ws (i + 1) (i + 1 + o.ws.length) o.f.d)) a2 fun v3 H3 k3 a3 t3 => ?_
      refine g_ret (r_tup (ds := [.str "frac", o.f.d, u.f.d]) (ra_cons (r_pure fun _ _ => e_str) (ra_cons (r_var a3 rfl t3) (ra_cons (r_call rfl (by decide +kernel) (by decide +kernel) (ra_pure fun _ _ => a_cons (e_op (e_var rfl (.int dep)) e_int r_I0i) a_nil) (⟨u, dep + 1, rfl, ok.2, by omega, by omega, w3, rfl, rfl⟩ : RArg n [.int (dep + 1)] ws (i + 1 + o.ws.length) (i + 1 + o.ws.length + u.ws.length) u.f.d)) ra_nil))) (Nat.le_of_ble_eq_true rfl)) a3 fun v H4 k4 a4 t4 => k v H4 (((k1.trans k2).trans k3).trans k4) ?_ t4
      rw [show (CNuc.frac o u).ws.length = o.ws.length + u.ws.length + 1 by simp [CNuc.ws], show i + (o.ws.length + u.ws.length + 1) = i + 1 + o.ws.length + u.ws.length by omega]
      exact a4
    | root r =>
      obtain ⟨w1, w2⟩ := at_cons.mp hw
      refine st w1 fun v H1 k1 a1 e => ?_
      subst e
      refine q_noS rfl (by decide +kernel) (q_noS rfl (by decide +kernel) (q_yesS rfl ?_))
      have hn : r.h + 1 ≤ n := hn
      have hd : dep + ((r.h + 1 : Nat) : Int) ≤ 7 := hd
      refine g_drop (r_call rfl (by decide +kernel) (by decide +kernel) (ra_pure fun _ _ => a_cons e_str a_nil) (⟨"@root", rfl, rfl, w1, rfl⟩ : RAcc [.str "@root"] ws i (i + 1) .none)) a1 fun H2 k2 a2 => ?_
      refine g_ret (r_tup (ds := [.str "root", r.f.d]) (ra_cons (r_pure fun _ _ => e_str) (ra_cons (r_call rfl (by decide +kernel) (by decide +kernel) (ra_pure fun _ _ => a_cons (e_op (e_var rfl (.int dep)) e_int r_I0i) a_nil) (⟨r, dep + 1, rfl, ok, by omega, by omega, w2, rfl, rfl⟩ : RArg n [.int (dep + 1)] ws (i + 1) (i + 1 + r.ws.length) r.f.d)) ra_nil)) (Nat.le_of_ble_eq_true rfl)) a2 fun v H3 k3 a3 t3 => k v H3 ((k1.trans k2).trans k3) ?_ t3
      rw [show (CNuc.root r).ws.length = r.ws.length + 1 by simp [CNuc.ws], show i + (r.ws.length + 1) = i + 1 + r.ws.length by omega]
      exact a3
    | fence o c r =>
      obtain ⟨w1, w2⟩ := at_cons.mp hw
      refine st w1 fun v H1 k1 a1 e => ?_
      subst e
      refine q_noS rfl (by decide +kernel) (q_noS rfl (by decide +kernel) (q_noS rfl (by decide +kernel) (q_yesS rfl ?_)))
      have hn : r.h + 1 ≤ n := hn
      have hd : dep + ((r.h + 1 : Nat) : Int) ≤ 7 := hd
      exact g_ret (r_call rfl (by decide +kernel) (by decide +kernel) (ra_pure fun _ _ => a_cons (e_op (e_var rfl (.int dep)) e_int r_I0i) a_nil) (⟨o, c, r, dep + 1, rfl, ok.1, ok.2.1, ok.2.2, by omega, by omega, hw, rfl, rfl⟩ : RFence n [.int (dep + 1)] ws i _ _)) a1 fun v H3 k3 a3 t3 => k v H3 (k1.trans k3) a3 t3
    | grid g =>
      obtain ⟨w1, w2⟩ := at_cons.mp hw
      refine st w1 fun v H1 k1 a1 e => ?_
      subst e
      refine q_noS rfl (by decide +kernel) (q_noS rfl (by decide +kernel) (q_noS rfl (by decide +kernel) (q_noS rfl (by decide +kernel) (q_yesS rfl ?_))))
      have hn : g.h ≤ n := hn
      have hd : dep + ((g.h : Nat) : Int) ≤ 7 := hd
      exact g_ret (r_call rfl (by decide +kernel) (by decide +kernel) (ra_pure fun _ _ => a_cons (e_op (e_var rfl (.int dep)) e_int r_I0i) a_nil) (⟨g, dep + 1, rfl, ok, by omega, by omega, hw, rfl, rfl⟩ : RGrid n [.int (dep + 1)] ws i _ _)) a1 fun v H3 k3 a3 t3 => k v H3 (k1.trans k3) a3 t3
theorem e_lenV {σ : L2.St} {H : Hp} {n m : Nat} {q : Addr} {xs : List V} {r : List V → Hp → VK → Prop} (hr : ∀ p xs H Q, (SqL K H p xs ∨ SqT K H p xs) → Q (V.int xs.length) H → r [.ref p] H Q) (hq : σ[n]? = some (some (.ref q))) (e : H q = some (.lst xs)) (hm : xs.length = m) : EvD K (tCB r (tCons (tVar n) tNil)) σ H (.int (m : Int)) := fun H1 s Q q' =>
  ⟨_, hq, hr _ xs _ _ (.inl (SqL.of (s _ _ e))) (by rw [hm]; exact q' _ H1 (.refl _) (.int _))⟩
theorem scRCells : FnScope ["self", "depth", "many", "ends", "cells"] ["self", "depth", "many", "ends"] (defScope sRCells) := ⟨rfl, rfl, rfl, by decide +kernel, rfl, by decide +kernel, by decide +kernel⟩
theorem ok_rcells {n : Nat} {f : Addr} {fd : FuncData} (F : Fun K "_cells" "Reader._cells" sRCells f fd) (T : TxtRd K mg C) (C_peek : CalM P w K mg base CX0 1 C "_peek" ["self"] (spRd K C RPeek)) (C_accept : CalM P w K mg base CX0 1 C "_accept" ["self", "wanted"] (spRd K C RAcc)) (C_cell_stops : Cal P w K mg base CX0 1 "cell_stops" ["count", "many", "ends"] (spR K RStops))
    (C_row : CalM P w K mg base CX0 (6 * n + 4) C "_row" ["self", "depth", "stops"] (spRd K C (RRow n))) : FnOk P w K mg base CX0 (6 * n + 5) f fd ["self", "depth", "many", "ends"] (spRd K C (RCells n)) := by
  have sc := scRCells
  refine F.ok scRCells (fun vs H Q E h => ?_) (fun cdv A outer s H vs Q E hr h => ?_)
  · obtain ⟨p, tl, ws, i, j, us, ds, d, rfl, l, a, ⟨rs, dep, m, ends, rfl, _⟩, _⟩ := h
    cases l with
    | cons _ l => cases l with
    | cons _ l => cases l with
    | cons _ l => cases l; rfl
  · obtain ⟨p, tl, ws, i, j, us, ds, d, rfl, l, a, ⟨rs, dep, m, ends, rfl, hst, he5, h1, h6, hr1, hm, ⟨x, hx, xa, hw⟩, rfl, rfl⟩, k⟩ := h
    cases l with
    | cons t l => cases l with
    | cons tm l => cases l with
    | cons te l => cases l with
    | nil =>
    cases tp_int t
    rename_i vm ve
    refine ⟨_, (pss_cons (ps_set (i := 4) sc.nd rfl (Or.inl rfl) (pe_lst pa_nil))
  (pss_one (ps_while PassesOwn.never (pt_val pe_bl)
  (pss_cons (ps_expr (pe_bm PySem.F.plainAttrs_list PySem.F.slot_list_append PySem.F.type_list_append mt_append (pv 4) (pa_cons (pe_calm (pv 0) T.cl C_row (hr.mono (by omega)) pass0 (pa_cons (pv 1) (pa_cons (pe_cal C_cell_stops (hr.mono (by omega)) rfl pass0 (pa_cons (pe_op op_add (pe_callB call_len_sq (by rfl) T.b_len PySem.boot_len (pa_cons (pv 4) pa_nil)) pe_int) (pa_cons (pv 2) (pa_cons (pv 3) pa_nil)))) pa_nil))) pa_nil)))
  (pss_cons (ps_if (pt_cmpR op_ne (pe_calm0 (pv 0) T.cl C_peek (hr.mono (by omega)) pass0) pe_str (nomark _))
  (pss_one (ps_ret (pe_callTy call_tuple_of (by rfl) T.b_tuple (by decide +kernel) (pa_cons (pv 4) pa_nil))))
  pss_nil)
  (pss_one (ps_expr (pe_calm (pv 0) T.cl C_accept (hr.mono (by omega)) pass0 (pa_cons pe_str pa_nil))))))))), ?_⟩
    refine ⟨Nat.zero_le _, fun q nq => ?_⟩
    have ne1 : q ≠ p := fun e => by
      obtain ⟨dx, hp⟩ := a.ob
      rw [e, hp] at nq
      cases nq
    have ne2 : q ≠ tl := fun e => by
      obtain ⟨xs, hp, _⟩ := a.tk
      rw [e, hp] at nq
      cases nq
    refine ⟨fun m' σ H' => ∃ (done rest : List CRow) (r : CRow) (xs : List V) (i' : Nat), m' = rest.length ∧ rs = done ++ r :: rest ∧ σ = [some (.ref p), some (.int dep), some vm, some ve, some (.ref q)] ∧ KeepB p H H' ∧ RdAt K C p tl ws i' H' ∧ At ws i' (cellW (r :: rest) ++ [x]) ∧ i' + (cellW (r :: rest)).length = i + (cellW rs).length ∧ H' q = some (.lst xs) ∧ TpL K H' xs (done.map fun z => z.f.d), ?_, ?_⟩
    · cases rs with
      | nil => simp at h1
      | cons r rest => exact ⟨_, [], rest, r, [], i, rfl, rfl, rfl, KeepB.of (same_new nq), a.same (same_new nq), hw, rfl, upd_same, .nil⟩
    rintro m' σ H' ⟨done, rest, r, xs, i', rfl, er, rfl, kb, a1, hw1, hl, eq, lx⟩
    refine ⟨true, rfl, iteP rfl ?_⟩
    refine ⟨_, fun σ' H'' h => h, ?_⟩
    have tm1 := tm.stay (a.tup kb)
    have te1 := te.stay (a.tup kb)
    obtain ⟨okr, hr2, hr3⟩ := hr1 r (by rw [er]; simp)
    have ld : done.length + (rest.length + 1) = rs.length := by rw [er, List.length_append, List.length_cons]
    rw [show cellW (r :: rest) = r.ws ++ restW rest from rfl, List.append_assoc] at hw1
    obtain ⟨g1, g2⟩ := at_app.mp hw1
    obtain ⟨stops, hs, hsd, y, hy, gy⟩ : ∃ (stops : List Str) (hs : ∀ z ∈ stops, z ∈ stopWs) (_ : RStops [.int ((done.length : Int) + 1), m, .tuple (ends.map .str)] (.tuple (stops.map .str))) (y : Str), y ∈ stops ∧ ws[i' + r.ws.length]? = some y := by
      cases rest with
      | nil =>
        have gx : ws[i' + r.ws.length]? = some x := (at_cons.mp g2).1
        rcases hm with rfl | rfl
        · by_cases c : (done.length : Int) + 1 < 6
          · refine ⟨"&" :: ends, fun z hz => ?_, ⟨_, _, ends, rfl, by omega, .inl ⟨rfl, by rw [if_pos c]⟩⟩, x, List.mem_cons_of_mem _ hx, gx⟩
            rcases List.mem_cons.mp hz with rfl | hz
            · decide +kernel
            · exact hst z hz
          · exact ⟨ends, hst, ⟨_, _, ends, rfl, by omega, .inl ⟨rfl, by rw [if_neg c]⟩⟩, x, hx, gx⟩
        · refine ⟨ends, hst, ⟨_, _, ends, rfl, by omega, .inr ⟨_, rfl, ?_⟩⟩, x, hx, gx⟩
          rw [if_neg (by rw [List.length_nil] at ld; omega)]
      | cons r2 rest =>
        have gx : ws[i' + r.ws.length]? = some "&" := (at_cons.mp g2).1
        rcases hm with rfl | rfl
        · have c : (done.length : Int) + 1 < 6 := by rw [List.length_cons] at ld; omega
          refine ⟨"&" :: ends, fun z hz => ?_, ⟨_, _, ends, rfl, by omega, .inl ⟨rfl, by rw [if_pos c]⟩⟩, "&", List.mem_cons_self, gx⟩
          rcases List.mem_cons.mp hz with rfl | hz
          · decide +kernel
          · exact hst z hz
        · refine ⟨["&"], by decide +kernel, ⟨_, _, ends, rfl, by omega, .inr ⟨_, rfl, ?_⟩⟩, "&", List.mem_cons_self, gx⟩
          rw [if_pos (by rw [List.length_cons] at ld; omega)]
          rfl
    have wr : At ws i' (r.ws ++ [y]) := at_app.mpr ⟨g1, at_cons.mpr ⟨gy, at_nil⟩⟩
    refine g_app (n := 4) rfl eq lx ne1 ne2 (r_call (R := RRow n) (k := i') (j := i' + r.ws.length) (d := r.f.d) rfl (by decide +kernel) (by decide +kernel) (ra_pure fun H2 k2 => a_cons (e_var rfl (.int dep)) (a_cons (e_call (a_cons (e_op (e_lenV (fun p ys H Q h k => ⟨p, ys, rfl, h, fun _ => k⟩) rfl (k2 _ _ eq ne1) (by rw [lx.len, List.length_map])) e_int r_I0i) (a_cons (e_var rfl (tm1.stay (a1.tup k2))) (a_cons (e_var rfl (te1.stay (a1.tup k2))) a_nil))) hsd) a_nil)) ⟨r, dep, stops, rfl, hs, okr, hr2, hr3, ⟨y, hy, wr⟩, rfl, rfl⟩) a1 (by rw [List.length_map]; omega) fun v H3 k3 a3 l3 => ?_
    have kb3 : KeepB p H (upd H3 q (.lst (xs ++ [v]))) := keepB_new (kb.trans k3) nq
    have eq3 : upd H3 q (.lst (xs ++ [v])) q = some (.lst (xs ++ [v])) := upd_same
    have pk : ∀ {y : Str} {H4 : Hp}, ws[i' + r.ws.length]? = some y → EvRT K C p tl ws (tTest (tOp rNe (tMeth C "_peek" (spRd K C RPeek) [] E0 (tVar 0) tNil) (tC (.str "&")))) [some (.ref p), some (.int dep), some vm, some ve, some (.ref q)] H4 (i' + r.ws.length) (!decide (y = "&")) := fun hy =>
      rt_eq (r_call rfl (by decide +kernel) (by decide +kernel) ra_nil ⟨rfl, rfl, _, hy, rfl⟩) r_neS
    cases rest with
    | nil =>
      have gx : ws[i' + r.ws.length]? = some x := (at_cons.mp g2).1
      refine g_when (pk gx) a3 (fun _ H5 k5 a5 => ?_) (fun z => absurd z (by simpa using xa))
      have eq5 := k5 _ _ eq3 ne1
      refine ⟨_, rfl, q, _, rfl, .inl ⟨SqL.of eq5, fun c hc => ?_⟩⟩
      refine k _ _ ((kb3.trans k5).trans (.of (same_new hc))) ?_ ?_
      · rw [← hl, show (cellW [r]).length = r.ws.length by rw [show cellW [r] = r.ws ++ [] from rfl, List.append_nil]]
        exact a5.same (same_new hc)
      · rw [er, List.map_append]
        exact .mk (SqT.of upd_same) ((l3.stay (a3.tup k5)).stay (.of (same_new hc)))
    | cons r2 rest =>
      have g2 : At ws (i' + r.ws.length) (("&" : Str) :: (cellW (r2 :: rest) ++ [x])) := g2
      obtain ⟨gx, g3⟩ := at_cons.mp g2
      refine g_when (pk gx) a3 (fun z => absurd z (by decide +kernel)) (fun _ H5 k5 a5 => ?_)
      refine g_dropE (r_call rfl (by decide +kernel) (by decide +kernel) (ra_pure fun _ _ => a_cons e_str a_nil) (⟨"&", rfl, rfl, gx, rfl⟩ : RAcc [.str "&"] ws (i' + r.ws.length) (i' + r.ws.length + 1) .none)) a5 fun H6 k6 a6 => ?_
      refine ⟨rest.length, Nat.lt_succ_self _, done ++ [r], rest, r2, _, _, rfl, by rw [er, List.append_assoc]; rfl, rfl, (kb3.trans k5).trans k6, a6, g3, ?_, k6 _ _ (k5 _ _ eq3 ne1) ne1, ?_⟩
      · rw [← hl, show cellW (r :: r2 :: rest) = r.ws ++ (("&" : Str) :: cellW (r2 :: rest)) from rfl, List.length_append, List.length_cons]
        omega
      · rw [List.map_append]
        exact (l3.stay (a3.tup k5)).stay (a5.tup k6)
end
end
section
set_option Elab.async false
set_option linter.all false
set_option maxRecDepth 100000
set_option maxHeartbeats 1000000
open PySem L2 StX
def lineW : List CCells → List Str
  | [] => []
  | c :: cs => "~" :: (cellW c.rows ++ lineW cs)
theorem grid_lineW : ∀ g : CGrid, (∀ c ∈ g.lines, c.rows ≠ []) → g.ws "~" = lineW g.lines
  | .nil, _ => rfl
  | .cons c g, h => by
    rw [CGrid.ws, CGrid.lines, lineW, grid_lineW g fun c hc => h c (List.mem_cons_of_mem _ hc), cells_cellW c (h c List.mem_cons_self)]
    rfl
section
variable {P : Program} {w : World} {K : PySem.W.Frag} {mg : Str → Option Value} {base : Heap} {C : Addr}
theorem g_setLst {n : Nat} {p tl : Addr} {ws : List Str} {i j : Nat} {σ : L2.St} {H : Hp} {tas : TA} {ds : List PyData} {tz : TS} {D : Ends} (h : EvRA K C p tl ws tas σ H i j ds) (a : RdAt K C p tl ws i H) (hl : ds.length ≤ 1000) (q : ∀ vs H' r, KeepB p H H' → RdAt K C p tl ws j H' → TpL K H' vs ds → H' r = none → tz D (σ.set n (some (.ref r))) (upd H' r (.lst vs))) : tSeq (tAsg (tLst tas) (gName n)) tz D σ H := h H (.refl _ _) a _ fun vs H' kb a' l =>
  ⟨by rw [l.len]; exact sz5 (by omega), fun r hr => q vs H' r kb a' l hr⟩
theorem scRGrid : FnScope ["self", "depth", "rows", "ends"] ["self", "depth"] (defScope sRGrid) := ⟨rfl, rfl, rfl, by decide +kernel, rfl, by decide +kernel, by decide +kernel⟩
theorem ok_rgrid {n : Nat} {f : Addr} {fd : FuncData} (F : Fun K "_grid" "Reader._grid" sRGrid f fd) (T : TxtRd K mg C) (C_peek : CalM P w K mg base CX0 1 C "_peek" ["self"] (spRd K C RPeek)) (C_accept : CalM P w K mg base CX0 1 C "_accept" ["self", "wanted"] (spRd K C RAcc))
    (C_cells : CalM P w K mg base CX0 (6 * n + 5) C "_cells" ["self", "depth", "many", "ends"] (spRd K C (RCells n))) : FnOk P w K mg base CX0 (6 * n + 6) f fd ["self", "depth"] (spRd K C (RGrid n)) := by
  have sc := scRGrid
  refine F.ok scRGrid (fun vs H Q E h => ?_) (fun cdv A outer s H vs Q E hr h => ?_)
  · obtain ⟨p, tl, ws, i, j, us, ds, d, rfl, l, a, ⟨g, dep, rfl, _⟩, _⟩ := h
    cases l with
    | cons _ l => cases l; rfl
  · obtain ⟨p, tl, ws, i, j, us, ds, d, rfl, l, a, ⟨g, dep, rfl, ok, hn, hd, hw, rfl, rfl⟩, k⟩ := h
    cases l with
    | cons t l => cases l with
    | nil =>
    cases tp_int t
    refine ⟨_, (pss_cons (ps_expr (pe_calm (pv 0) T.cl C_accept (hr.mono (by omega)) pass0 (pa_cons pe_str pa_nil)))
  (pss_cons (ps_expr (pe_calm (pv 0) T.cl C_accept (hr.mono (by omega)) pass0 (pa_cons pe_str pa_nil)))
  (pss_cons (ps_set (i := 2) sc.nd rfl (Or.inl rfl) (pe_lst (pa_cons (pe_calm (pv 0) T.cl C_cells (hr.mono (by omega)) pass0 (pa_cons (pv 1) (pa_cons pe_non (pa_cons (pe_tup (pa_cons pe_str (pa_cons pe_str pa_nil))) pa_nil)))) pa_nil)))
  (pss_cons (ps_while PassesOwn.never (pt_cmpR op_eq (pe_calm0 (pv 0) T.cl C_peek (hr.mono (by omega)) pass0) pe_str (nomark _))
  (pss_cons (ps_expr (pe_calm (pv 0) T.cl C_accept (hr.mono (by omega)) pass0 (pa_cons pe_str pa_nil)))
  (pss_cons (ps_set (i := 3) sc.nd rfl (Or.inl rfl) (pe_ifExp (pt_cmpR op_lt (pe_op op_add (pe_callB call_len_sq (by rfl) T.b_len PySem.boot_len (pa_cons (pv 2) pa_nil)) pe_int) (pe_gint rfl T.c_MOST_CELLS) (nomark _)) (pe_tup (pa_cons pe_str (pa_cons pe_str pa_nil))) (pe_tup (pa_cons pe_str pa_nil))))
  (pss_one (ps_expr (pe_bm PySem.F.plainAttrs_list PySem.F.slot_list_append PySem.F.type_list_append mt_append (pv 2) (pa_cons (pe_calm (pv 0) T.cl C_cells (hr.mono (by omega)) pass0 (pa_cons (pv 1) (pa_cons (pe_callB call_len_sq (by rfl) T.b_len PySem.boot_len (pa_cons (pe_ix ix_list (pv 2) pe_int (fun _ _ => rfl)) pa_nil)) (pa_cons (pv 3) pa_nil)))) pa_nil)))))))
  (pss_cons (ps_expr (pe_calm (pv 0) T.cl C_accept (hr.mono (by omega)) pass0 (pa_cons pe_str pa_nil)))
  (pss_one (ps_ret (pe_tup (pa_cons pe_str (pa_cons (pe_callTy call_tuple_of (by rfl) T.b_tuple (by decide +kernel) (pa_cons (pv 2) pa_nil)) pa_nil)))))))))), ?_⟩
    obtain ⟨gok, ⟨l1, l6⟩, m, m1, m6, hm⟩ := ok
    have gok := CGrid.ok_iff.mp gok
    have gh := (CGrid.h_le (n := g.h)).mp (Nat.le_refl _)
    have hrow : ∀ c ∈ g.lines, ∀ r ∈ c.rows, r.ok ∧ r.h < n ∧ dep + (r.h : Int) ≤ 7 := fun c hc r hr => by
      have h1 := CCells.ok_iff.mp (gok c hc) r hr
      have h2 := (CCells.h_le.mp (gh c hc)) r hr
      exact ⟨h1, by omega, by omega⟩
    have hne : ∀ c ∈ g.lines, c.rows ≠ [] := fun c hc e => by
      have := hm c hc
      rw [e, List.length_nil] at this
      omega
    cases g with
    | nil => simp [CGrid.lines] at l1
    | cons c0 g0 =>
    have hm0 : ∀ c ∈ g0.lines, c.rows.length = m := fun c hc => hm c (List.mem_cons_of_mem _ hc)
    have ew : (CNuc.grid (.cons c0 g0)).ws = ("@grid" : Str) :: ("{" : Str) :: (cellW c0.rows ++ (lineW g0.lines ++ [("}" : Str)])) := by
      show ("@grid" : Str) :: ((c0.ws "{" ++ g0.ws "~") ++ [("}" : Str)]) = _
      rw [cells_cellW c0 (hne c0 List.mem_cons_self), grid_lineW g0 fun c hc => hne c (List.mem_cons_of_mem _ hc), List.append_assoc]
      rfl
    rw [ew] at hw k
    obtain ⟨w1, w2⟩ := at_cons.mp hw
    obtain ⟨w2, w3⟩ := at_cons.mp w2
    obtain ⟨w3, w4⟩ := at_app.mp w3
    refine g_drop (r_call rfl (by decide +kernel) (by decide +kernel) (ra_pure fun _ _ => a_cons e_str a_nil) (⟨"@grid", rfl, rfl, w1, rfl⟩ : RAcc [.str "@grid"] ws i (i + 1) .none)) a fun H1 k1 a1 => ?_
    refine g_drop (r_call rfl (by decide +kernel) (by decide +kernel) (ra_pure fun _ _ => a_cons e_str a_nil) (⟨"{", rfl, rfl, w2, rfl⟩ : RAcc [.str "{"] ws (i + 1) (i + 1 + 1) .none)) a1 fun H2 k2 a2 => ?_
    have nextW : ∀ (cs : List CCells) (i' : Nat), At ws i' (lineW cs ++ [("}" : Str)]) → ∃ y : Str, ws[i']? = some y ∧ y ≠ "&" ∧ (y = "~" ∧ cs ≠ [] ∨ y = "}") := fun cs i' h => by
      cases cs with
      | nil => exact ⟨"}", (at_cons.mp h).1, by decide +kernel, .inr rfl⟩
      | cons c cs =>
        have h : At ws i' (("~" : Str) :: ((cellW c.rows ++ lineW cs) ++ [("}" : Str)])) := h
        exact ⟨"~", (at_cons.mp h).1, by decide +kernel, .inl ⟨rfl, by simp⟩⟩
    have cellAt : ∀ {i' : Nat} {y : Str} {rs : List CRow}, At ws i' (cellW rs) → ws[i' + (cellW rs).length]? = some y → At ws i' (cellW rs ++ [y]) := fun h1 h2 => at_app.mpr ⟨h1, at_cons.mpr ⟨h2, at_nil⟩⟩
    obtain ⟨y0, hy0, hy1, hy2⟩ := nextW _ _ w4
    have e1 : ∀ {σ : L2.St} {H : Hp}, EvD K (tTup (tCons (tC (.str "~")) (tCons (tC (.str "}")) tNil))) σ H (.tuple ([("~" : Str), "}"].map .str)) := e_tup (a_cons e_str (a_cons e_str a_nil)) (by decide)
    have e2 : ∀ {σ : L2.St} {H : Hp}, EvD K (tTup (tCons (tC (.str "}")) tNil)) σ H (.tuple ([("}" : Str)].map .str)) := e_tup (a_cons e_str a_nil) (by decide)
    have hc0 := hm c0 List.mem_cons_self
    have R0 : RCells n [.int dep, .none, .tuple ([("~" : Str), "}"].map .str)] ws (i + 1 + 1) (i + 1 + 1 + (cellW c0.rows).length) c0.f.d := by
      refine ⟨c0.rows, dep, .none, ["~", "}"], rfl, by decide +kernel, by decide, by omega, by omega, hrow c0 List.mem_cons_self, .inl rfl, ⟨y0, ?_, hy1, cellAt w3 hy0⟩, rfl, ?_⟩
      · rcases hy2 with ⟨rfl, _⟩ | rfl <;> decide +kernel
      · show PyData.tuple c0.f.ds = _
        rw [CCells.ds_eq]
    refine g_setLst (ra_cons (r_call (R := RCells n) rfl (by decide +kernel) (by decide +kernel) (ra_pure fun H3 k3 => a_cons (e_var rfl (.int dep)) (a_cons e_non (a_cons e1 a_nil))) R0) ra_nil) a2 (Nat.le_of_ble_eq_true rfl) fun vs H3 q k3 a3 l3 nq => ?_
    have kb3 := (k1.trans k2).trans k3
    have nq0 : H q = none := by
      cases e : H q with
      | none => rfl
      | some o =>
        by_cases z : q = p
        · subst z
          obtain ⟨dx, hp⟩ := a3.ob
          rw [hp] at nq
          cases nq
        · rw [kb3 _ _ e z] at nq
          cases nq
    have ne1 : q ≠ p := fun e => by
      obtain ⟨dx, hp⟩ := a3.ob
      rw [e, hp] at nq
      cases nq
    have ne2 : q ≠ tl := fun e => by
      obtain ⟨xs, hp, _⟩ := a3.tk
      rw [e, hp] at nq
      cases nq
    refine ⟨fun m' σ H' => ∃ (done rest : List CCells) (xs : List V) (x3 : Option V) (i' : Nat), m' = rest.length ∧ g0.lines = done ++ rest ∧ σ = [some (.ref p), some (.int dep), some (.ref q), x3] ∧ KeepB p H H' ∧ RdAt K C p tl ws i' H' ∧ At ws i' (lineW rest ++ [("}" : Str)]) ∧ i' + (lineW rest).length = i + 1 + 1 + (cellW c0.rows).length + (lineW g0.lines).length ∧ H' q = some (.lst xs) ∧ TpL K H' xs ((c0 :: done).map fun z => z.f.d),
      ⟨_, [], g0.lines, _, none, _, rfl, rfl, rfl, kb3.trans (.of (same_new nq)), a3.same (same_new nq), w4, rfl, upd_same, l3.stay (.of (same_new nq))⟩, ?_⟩
    rintro m' σ H' ⟨done, rest, xs, x3, i', rfl, er, rfl, kb, a4, w5, hl, eq, lx⟩
    have ll : done.length + rest.length = g0.lines.length := by rw [er, List.length_append]
    have l7 : g0.lines.length + 1 ≤ 6 := l6
    have pk : ∀ {y : Str} {H : Hp} {b : Bool}, ws[i']? = some y → b = decide (y = "~") → EvRT K C p tl ws (tTest (tOp rEq (tMeth C "_peek" (spRd K C RPeek) [] E0 (tVar 0) tNil) (tC (.str "~")))) [some (.ref p), some (.int dep), some (.ref q), x3] H i' b := fun hy e =>
      e ▸ rt_eq (r_call rfl (by decide +kernel) (by decide +kernel) ra_nil ⟨rfl, rfl, _, hy, rfl⟩) r_eqS
    cases rest with
    | nil =>
      have gx : ws[i']? = some "}" := (at_cons.mp w5).1
      refine pk (b := false) gx (by decide +kernel) H' (.refl _ _) a4 _ fun H5 k5 a5 => ?_
      refine iteN (by decide) ?_
      refine g_drop (r_call rfl (by decide +kernel) (by decide +kernel) (ra_pure fun _ _ => a_cons e_str a_nil) (⟨"}", rfl, rfl, gx, rfl⟩ : RAcc [.str "}"] ws i' (i' + 1) .none)) a5 fun H6 k6 a6 => ?_
      have eq6 := k6 _ _ (k5 _ _ eq ne1) ne1
      rw [List.append_nil] at er
      refine ⟨_, rfl, q, xs, rfl, .inl ⟨SqL.of eq6, fun c hc => ?_⟩⟩
      refine ⟨(by show 2 ≤ sizeLine; decide), fun c2 hc2 => ?_⟩
      have s1 := same_new (H := H6) (o := .tup xs) hc
      have s2 := same_new (H := upd H6 c (.tup xs)) (o := .tup [.str "grid", .ref c]) hc2
      refine k _ _ ((((kb.trans k5).trans k6).trans (.of s1)).trans (.of s2)) ?_ ?_
      · rw [show i + (("@grid" : Str) :: ("{" : Str) :: (cellW c0.rows ++ (lineW g0.lines ++ [("}" : Str)]))).length = i' + 1 by
          rw [List.length_cons, List.length_cons, List.length_append, List.length_append, List.length_singleton]
          rw [show (lineW []).length = 0 from rfl] at hl
          omega]
        exact (a6.same s1).same s2
      · have lx6 := (lx.stay (a4.tup k5)).stay (a5.tup k6)
        refine .mk (ds := [.str "grid", .tuple (CGrid.cons c0 g0).f.ds]) (SqT.of upd_same) (.cons (.str _) (.one ?_))
        rw [CGrid.ds_eq, show (CGrid.cons c0 g0).lines = c0 :: g0.lines from rfl, er]
        exact (Tp.mk (SqT.of upd_same) (lx6.stay (.of s1))).stay (.of s2)
    | cons c rest =>
      have w5 : At ws i' (("~" : Str) :: ((cellW c.rows ++ lineW rest) ++ [("}" : Str)])) := w5
      obtain ⟨gx, w6⟩ := at_cons.mp w5
      rw [List.append_assoc] at w6
      obtain ⟨w6, w7⟩ := at_app.mp w6
      obtain ⟨y, hy, hya, hyb⟩ := nextW _ _ w7
      have mc : c ∈ g0.lines := by rw [er]; simp
      have hc := hm0 c mc
      refine pk (b := true) gx rfl H' (.refl _ _) a4 _ fun H5 k5 a5 => ?_
      refine iteP rfl ⟨_, fun σ' H'' h => h, ?_⟩
      refine g_drop (r_call rfl (by decide +kernel) (by decide +kernel) (ra_pure fun _ _ => a_cons e_str a_nil) (⟨"~", rfl, rfl, gx, rfl⟩ : RAcc [.str "~"] ws i' (i' + 1) .none)) a5 fun H6 k6 a6 => ?_
      have eq6 := k6 _ _ (k5 _ _ eq ne1) ne1
      have lx6 := (lx.stay (a4.tup k5)).stay (a5.tup k6)
      obtain ⟨ends, hends⟩ : ∃ ends : List Str, ends = if (done.length : Int) + 1 + 1 < 6 then [("~" : Str), "}"] else [("}" : Str)] := ⟨_, rfl⟩
      rw [List.length_cons] at ll
      refine q_set (K := K) (d := .tuple (ends.map .str)) (e_if (b := decide ((done.length : Int) + 1 + 1 < 6)) (t_test (e_op (e_op (e_lenV (m := done.length + 1) (fun p ys H Q h k => ⟨p, ys, rfl, h, fun _ => k⟩) rfl eq6 (by rw [lx6.len, List.length_map, List.length_cons])) e_int r_I0i) e_int r_I0b)) (fun z => ?_) fun z => ?_) fun v3 H7 s7 t7 => ?_
      · rw [hends, if_pos (of_decide_eq_true z)]
        exact e1
      · rw [hends, if_neg (of_decide_eq_false z)]
        exact e2
      have a7 := a6.same s7
      have eq7 := s7 _ _ eq6
      have lx7 := lx6.stay (.of s7)
      have R1 : RCells n [.int dep, .int ((c.rows.length : Nat) : Int), .tuple (ends.map .str)] ws (i' + 1) (i' + 1 + (cellW c.rows).length) c.f.d := by
        refine ⟨c.rows, dep, _, ends, rfl, ?_, ?_, by omega, by omega, hrow c (List.mem_cons_of_mem _ mc), .inr rfl, ⟨y, ?_, hya, cellAt w6 hy⟩, rfl, ?_⟩
        · rw [hends]
          split <;> decide +kernel
        · rw [hends]
          split <;> decide
        · rw [hends]
          rcases hyb with ⟨rfl, hr2⟩ | rfl
          · have : 1 ≤ rest.length := by
              cases rest with
              | nil => exact absurd rfl hr2
              | cons _ _ => simp
            rw [if_pos (by omega)]
            decide +kernel
          · split <;> decide +kernel
        · show PyData.tuple c.f.ds = _
          rw [CCells.ds_eq]
      have hix : EvD K (tOp (rIxL K) (tVar 2) (tC (.int 0))) [some (.ref p), some (.int dep), some (.ref q), some v3] H7 (.tuple (c0.f.ds)) := e_ixL rfl eq7 lx7 e_int atI0
      refine g_app (n := 2) rfl eq7 lx7 ne1 ne2 (r_call (R := RCells n) (k := i' + 1) (j := i' + 1 + (cellW c.rows).length) (d := c.f.d) rfl (by decide +kernel) (by decide +kernel) (ra_pure fun H8 k8 => a_cons (e_var rfl (.int dep)) (a_cons (e_is (e_lenT (fun p ys H Q h k => ⟨p, ys, rfl, h, fun _ => k⟩) (e_ixL rfl (k8 _ _ eq7 ne1) (lx7.stay (a7.tup k8)) e_int atI0)) (by rw [CCells.ds_eq, List.length_map, hc0, hc])) (a_cons (e_var rfl (t7.stay (a7.tup k8))) a_nil))) R1) a7 (by rw [List.length_map, List.length_cons]; omega) fun v H9 k9 a9 l9 => ?_
      refine ⟨rest.length, Nat.lt_succ_self _, done ++ [c], rest, _, _, _, rfl, by rw [er, List.append_assoc]; rfl, rfl, keepB_new ((((kb.trans k5).trans k6).trans (.of s7)).trans k9) nq0, a9, w7, ?_, upd_same, ?_⟩
      · rw [← hl, show lineW (c :: rest) = ("~" : Str) :: (cellW c.rows ++ lineW rest) from rfl, List.length_cons, List.length_append]
        omega
      · rw [← List.cons_append, List.map_append]
        exact l9
end
end
end Mg
namespace Mg.Pm
section
set_option Elab.async false
set_option linter.all false
set_option maxRecDepth 100000
set_option maxHeartbeats 1000000
open PySem L2 StX
section
variable {α β γ : Type}
theorem bind_assoc (o : Out α) (f : α → Nat → Out β) (g : β → Nat → Out γ) : (o.bind f).bind g = o.bind fun a j => (f a j).bind g := by
  cases o <;> rfl
theorem any_mem {st : List Str} {x : Str} : (st.any fun r => r == x) = decide (x ∈ st) := by
  by_cases h : x ∈ st
  · rw [decide_eq_true h]
    exact List.any_eq_true.mpr ⟨x, h, by simp⟩
  · rw [decide_eq_false h]
    refine List.any_eq_false.mpr fun z hz => ?_
    have : z ≠ x := fun e => h (e ▸ hz)
    simpa using this
def prepR (L : List FItem) (r : FRow) : FRow := L.foldr FRow.cons r
theorem prepR_ds : ∀ (L : List FItem) (r : FRow), (prepR L r).ds = L.map FItem.d ++ r.ds
  | [], r => rfl
  | i :: L, r => by
    show i.d :: (prepR L r).ds = _
    rw [prepR_ds L r]
    rfl
theorem prepR_snoc (L : List FItem) (i : FItem) (r : FRow) : prepR (L ++ [i]) r = prepR L (.cons i r) := by
  unfold prepR
  rw [List.foldr_append]
  rfl
def prepC (L : List FRow) (r : FCells) : FCells := L.foldr FCells.cons r
theorem prepC_ds : ∀ (L : List FRow) (r : FCells), (prepC L r).ds = L.map FRow.d ++ r.ds
  | [], r => rfl
  | i :: L, r => by
    show (.tuple i.ds) :: (prepC L r).ds = _
    rw [prepC_ds L r]
    rfl
theorem prepC_snoc (L : List FRow) (i : FRow) (r : FCells) : prepC (L ++ [i]) r = prepC L (.cons i r) := by
  unfold prepC
  rw [List.foldr_append]
  rfl
end
def RoItem (n : Nat) : List PyData → List Str → Nat → Out FItem → Prop := fun ds ws i o => ∃ (k : Nat) (dep : Int), ds = [.int dep] ∧ k < n ∧ dep = 7 - (k : Int) ∧ o = itemO isSymbol ws (rowAt isSymbol ws k) (k == 0) i
def RoNuc (n : Nat) : List PyData → List Str → Nat → Out FNuc → Prop := fun ds ws i o => ∃ (k : Nat) (dep : Int), ds = [.int dep] ∧ k < n ∧ dep = 7 - (k : Int) ∧ o = nucO isSymbol ws (rowAt isSymbol ws k) (k == 0) i
def manyD : Option Nat → PyData
  | none => .none
  | some m => .int (m : Int)
def RoCells (n : Nat) : List PyData → List Str → Nat → Out FCells → Prop := fun ds ws i o => ∃ (k : Nat) (dep : Int) (many : Option Nat) (ends : List Str), ds = [.int dep, manyD many, .tuple (ends.map .str)] ∧ k < n ∧ dep = 8 - (k : Int) ∧ ends.length ≤ 5 ∧ o = cellsO ws (rowAt isSymbol ws k) many ends (ws.length + 1) 1 i
def RoGrid (n : Nat) : List PyData → List Str → Nat → Out FNuc → Prop := fun ds ws i o => ∃ (k : Nat) (dep : Int), ds = [.int dep] ∧ k < n ∧ dep = 8 - (k : Int) ∧ o = gridO ws (rowAt isSymbol ws k) i
section
variable {P : Program} {w : World} {K : PySem.W.Frag} {mg : Str → Option Value} {base : Heap} {C CF CD : Addr}
theorem scRRowX : FnScope ["self", "depth", "stops", "items"] ["self", "depth", "stops"] (defScope sRRow) := ⟨rfl, rfl, rfl, by decide +kernel, rfl, by decide +kernel, by decide +kernel⟩
theorem ok_rrowx {n : Nat} {f : Addr} {fd : FuncData} (F : Fun K "_row" "Reader._row" sRRow f fd) (T : TxtRd K mg C) (C_peek : CalM P w K mg base CX0 1 C "_peek" ["self"] (spPk K C CF CD)) (C_check_depth : Cal P w K mg base (L2.CX P w) 1 "check_depth" ["depth"] (spCheckDepth CD)) (C_item : CalM P w K mg base (L2.CX P w) (6 * n + 8) C "_item" ["self", "depth"] (spRo K C CF CD FItem.d (RoItem n))) :
    FnOk P w K mg base (L2.CX P w) (6 * n + 10) f fd ["self", "depth", "stops"] (spRo K C CF CD FRow.d (RoRow (n + 1))) := by
  have sc := scRRowX
  refine F.okX scRRowX (fun vs H Q E h => ?_) (fun cdv A outer s H vs Q E hr h => ?_)
  · obtain ⟨p, tl, ps, i, us, ds, o, rfl, l, a, ⟨_, dep, st, rfl, _⟩, _⟩ := h
    cases l with
    | cons _ l => cases l with
    | cons _ l => cases l; rfl
  · obtain ⟨p, tl, ps, i, us, ds, o, rfl, l, a, ⟨m, dep, st, rfl, hm, hd, hst, rfl⟩, k⟩ := h
    cases l with
    | cons t l => cases l with
    | cons t2 l => cases l with
    | nil =>
    rename_i vst
    cases tp_int t
    refine ⟨_, (pss_cons (ps_expr (pe_cal C_check_depth (hr.mono (by omega)) rfl passX (pa_cons (pv 1) pa_nil)))
  (pss_cons (ps_set (i := 3) sc.nd rfl (Or.inl rfl) (pe_lst pa_nil))
  (pss_cons (ps_while (passes_of rfl) (pt_cmpR op_notIn_seq (pe_calm0 (pv 0) T.cl C_peek (hr.mono (by omega)) pass0) (pv 2) (by rfl))
  (pss_one (ps_expr (pe_bm PySem.F.plainAttrs_list PySem.F.slot_list_append PySem.F.type_list_append mt_append (pv 3) (pa_cons (pe_calm (pv 0) T.cl C_item (hr.mono (by omega)) passX (pa_cons (pv 1) pa_nil)) pa_nil)))))
  (pss_one (ps_ret (pe_callTy call_tuple_of (by rfl) T.b_tuple (by decide +kernel) (pa_cons (pv 3) pa_nil))))))), ?_⟩
    cases m with
    | zero => exact ⟨_, rfl, dep, rfl, fun d7 => by omega, fun _ => k H (.refl _ _)⟩
    | succ m =>
    refine ⟨_, rfl, dep, rfl, fun d7 => ?_, fun d7 => by omega⟩
    refine ⟨Nat.zero_le _, fun q nq => ?_⟩
    have ne1 : q ≠ p := fun e => by
      obtain ⟨dx, hp⟩ := a.ob
      rw [e, hp] at nq
      cases nq
    have ne2 : q ≠ tl := fun e => by
      obtain ⟨xs, hp, _⟩ := a.tk
      rw [e, hp] at nq
      cases nq
    have RF : RFwe (wsP ps) (rowAt isSymbol (wsP ps) m) := rowAt_fwe a.en m
    refine ⟨fun mm σ H' => ∃ (n' : Nat) (done : List FItem) (xs : List V) (i' : Nat), n' = mm ∧ (wsP ps).length < n' + i' ∧ done.length ≤ i' ∧ σ = [some (.ref p), some (.int dep), some vst, some (.ref q)] ∧ KeepB p H H' ∧ RdP K C p tl ps i' H' ∧ H' q = some (.lst xs) ∧ TpL K H' xs (done.map FItem.d) ∧
        Post K C CF CD p tl ps FRow.d Q E H ((rowL isSymbol (wsP ps) (rowAt isSymbol (wsP ps) m) (m == 0) st n' i').bind fun r j => .ok (prepR done r) j),
      ⟨_, (wsP ps).length + 1, [], [], i, rfl, by omega, Nat.zero_le _, rfl, KeepB.of (same_new nq), a.same (same_new nq), upd_same, .nil, ?_⟩, ?_⟩
    · have e : ∀ o : Out FRow, (o.bind fun r j => Out.ok (prepR [] r) j) = o := fun o => by cases o <;> rfl
      rw [e]
      exact k
    rintro mm σ H' ⟨n', done, xs, i', rfl, hn', hdn, rfl, kb, a1, eq, lx, kk⟩
    have hi' := a1.lt
    rw [wsP_len] at hn'
    cases n' with
    | zero => omega
    | succ n' =>
    have tst := t2.stay (a.tup kb)
    refine ot_notIn (E := E0) (CF := CF) (CD := CD) (o_call rfl (by decide +kernel) (by decide +kernel) (fun _ _ => a_nil) (⟨rfl, rfl⟩ : RoPeek [] (wsP ps) i' _)) a1 rfl tst H' (.refl _ _) a1 _ fun H2 k2 a2 => ?_
    rw [any_mem]
    unfold rowL at kk
    by_cases c : Pm.hd (wsP ps) i' ∈ st
    · rw [if_pos c] at kk
      refine iteN (by simp [c]) ?_
      have eq2 := k2 _ _ eq ne1
      refine ⟨_, rfl, q, xs, rfl, .inl ⟨SqL.of eq2, fun c hc => ?_⟩⟩
      refine kk _ _ ((kb.trans k2).trans (.of (same_new hc))) (a2.same (same_new hc)) ?_
      show Tp K _ _ (.tuple (prepR done .nil).ds)
      rw [prepR_ds, show FRow.nil.ds = [] from rfl, List.append_nil]
      exact .mk (SqT.of upd_same) ((lx.stay (a1.tup k2)).stay (.of (same_new hc)))
    · rw [if_neg c, bind_assoc] at kk
      refine iteP (by simp [c]) ?_
      have eq2 := k2 _ _ eq ne1
      refine ⟨_, fun σ' H'' h => h, g_app (n := 3) rfl eq2 (lx.stay (a1.tup k2)) ne1 ne2 (o_call rfl (by decide +kernel) (by decide +kernel) (fun _ _ => a_cons (e_var rfl (.int dep)) a_nil) (⟨m, dep, rfl, by omega, by omega, rfl⟩ : RoItem n _ _ _ _)) a2 (by rw [List.length_map]; have := a.sz; omega) (kk.keep (kb.trans k2)) fun it j v H3 ei k3 a3 l3 _ => ?_⟩
      have fw := item_fwd a.en RF (dp := m == 0) (i := i') (by rw [wsP_len]; exact hi')
      rw [ei] at fw
      rw [ei] at kk
      have kk : Post K C CF CD p tl ps FRow.d Q E H (((rowL isSymbol (wsP ps) (rowAt isSymbol (wsP ps) m) (m == 0) st n' j).bind fun r k => Out.ok (FRow.cons it r) k).bind fun r j => .ok (prepR done r) j) := kk
      have h1 := fw.1
      refine ⟨n', Nat.lt_succ_self _, n', done ++ [it], _, j, rfl, by rw [wsP_len]; omega, by rw [List.length_append, List.length_singleton]; omega, rfl, keepB_new ((kb.trans k2).trans k3) nq, a3, upd_same, ?_, ?_⟩
      · rw [List.map_append]
        exact l3
      · rw [bind_assoc] at kk
        have e : (fun (a : FRow) (j : Nat) => (Out.ok (FRow.cons it a) j).bind fun r j => Out.ok (prepR done r) j) = fun r j => Out.ok (prepR (done ++ [it]) r) j := by
          funext r j
          show Out.ok (prepR done (.cons it r)) j = _
          rw [prepR_snoc]
        rw [e] at kk
        exact kk
theorem scRCellsX : FnScope ["self", "depth", "many", "ends", "cells"] ["self", "depth", "many", "ends"] (defScope sRCells) := ⟨rfl, rfl, rfl, by decide +kernel, rfl, by decide +kernel, by decide +kernel⟩
theorem ok_rcellsx {n : Nat} {f : Addr} {fd : FuncData} (F : Fun K "_cells" "Reader._cells" sRCells f fd) (T : TxtRd K mg C) (C_peek : CalM P w K mg base CX0 1 C "_peek" ["self"] (spPk K C CF CD)) (C_accept : CalM P w K mg base (L2.CX P w) 2 C "_accept" ["self", "wanted"] (spAc K C CF CD)) (C_cell_stops : Cal P w K mg base CX0 1 "cell_stops" ["count", "many", "ends"] (spR K RStops))
    (C_row : CalM P w K mg base (L2.CX P w) (6 * n + 4) C "_row" ["self", "depth", "stops"] (spRo K C CF CD FRow.d (RoRow n))) : FnOk P w K mg base (L2.CX P w) (6 * n + 5) f fd ["self", "depth", "many", "ends"] (spRo K C CF CD FCells.d (RoCells n)) := by
  have sc := scRCellsX
  refine F.okX scRCellsX (fun vs H Q E h => ?_) (fun cdv A outer s H vs Q E hr h => ?_)
  · obtain ⟨p, tl, ps, i, us, ds, o, rfl, l, a, ⟨_, dep, mn, ends, rfl, _⟩, _⟩ := h
    cases l with
    | cons _ l => cases l with
    | cons _ l => cases l with
    | cons _ l => cases l; rfl
  · obtain ⟨p, tl, ps, i, us, ds, o, rfl, l, a, ⟨m, dep, many, ends, rfl, hm, hd, he5, rfl⟩, k⟩ := h
    cases l with
    | cons t l => cases l with
    | cons tm l => cases l with
    | cons te l => cases l with
    | nil =>
    cases tp_int t
    rename_i vm ve
    refine ⟨_, (pss_cons (ps_set (i := 4) sc.nd rfl (Or.inl rfl) (pe_lst pa_nil))
  (pss_one (ps_while (passes_of rfl) (pt_val pe_bl)
  (pss_cons (ps_expr (pe_bm PySem.F.plainAttrs_list PySem.F.slot_list_append PySem.F.type_list_append mt_append (pv 4) (pa_cons (pe_calm (pv 0) T.cl C_row (hr.mono (by omega)) passX (pa_cons (pv 1) (pa_cons (pe_cal C_cell_stops (hr.mono (by omega)) rfl pass0 (pa_cons (pe_op op_add (pe_callB call_len_sq (by rfl) T.b_len PySem.boot_len (pa_cons (pv 4) pa_nil)) pe_int) (pa_cons (pv 2) (pa_cons (pv 3) pa_nil)))) pa_nil))) pa_nil)))
  (pss_cons (ps_if (pt_cmpR op_ne (pe_calm0 (pv 0) T.cl C_peek (hr.mono (by omega)) pass0) pe_str (nomark _))
  (pss_one (ps_ret (pe_callTy call_tuple_of (by rfl) T.b_tuple (by decide +kernel) (pa_cons (pv 4) pa_nil))))
  pss_nil)
  (pss_one (ps_expr (pe_calm (pv 0) T.cl C_accept (hr.mono (by omega)) passX (pa_cons pe_str pa_nil))))))))), ?_⟩
    refine ⟨Nat.zero_le _, fun q nq => ?_⟩
    have ne1 : q ≠ p := fun e => by
      obtain ⟨dx, hp⟩ := a.ob
      rw [e, hp] at nq
      cases nq
    have ne2 : q ≠ tl := fun e => by
      obtain ⟨xs, hp, _⟩ := a.tk
      rw [e, hp] at nq
      cases nq
    have RF : RFwe (wsP ps) (rowAt isSymbol (wsP ps) m) := rowAt_fwe a.en m
    refine ⟨fun mm σ H' => ∃ (n' : Nat) (done : List FRow) (xs : List V) (i' : Nat), n' = mm ∧ (wsP ps).length < n' + i' ∧ done.length ≤ i' ∧ σ = [some (.ref p), some (.int dep), some vm, some ve, some (.ref q)] ∧ KeepB p H H' ∧ RdP K C p tl ps i' H' ∧ H' q = some (.lst xs) ∧ TpL K H' xs (done.map FRow.d) ∧
        Post K C CF CD p tl ps FCells.d Q E H ((cellsO (wsP ps) (rowAt isSymbol (wsP ps) m) many ends n' (done.length + 1) i').bind fun r j => .ok (prepC done r) j),
      ⟨_, (wsP ps).length + 1, [], [], i, rfl, by omega, Nat.zero_le _, rfl, KeepB.of (same_new nq), a.same (same_new nq), upd_same, .nil, ?_⟩, ?_⟩
    · have e : ∀ o : Out FCells, (o.bind fun r j => Out.ok (prepC [] r) j) = o := fun o => by cases o <;> rfl
      rw [e]
      exact k
    rintro mm σ H' ⟨n', done, xs, i', rfl, hn', hdn, rfl, kb, a1, eq, lx, kk⟩
    have hi' := a1.lt
    rw [wsP_len] at hn'
    refine ⟨true, rfl, iteP rfl ?_⟩
    refine ⟨_, fun σ' H'' h => h, ?_⟩
    cases n' with
    | zero => omega
    | succ n' =>
    have tm1 := tm.stay (a.tup kb)
    have te1 := te.stay (a.tup kb)
    unfold cellsO at kk
    rw [bind_assoc] at kk
    have hsd : RStops [.int ((done.length : Int) + 1), manyD many, .tuple (ends.map .str)] (.tuple ((stopsC (done.length + 1) many ends).map .str)) := by
      refine ⟨_, _, ends, rfl, by omega, ?_⟩
      cases many with
      | none =>
        refine .inl ⟨rfl, ?_⟩
        unfold stopsC
        by_cases c : done.length + 1 < 6
        · rw [if_pos (show (done.length : Int) + 1 < 6 by omega)]
          simp only [if_pos c]
        · rw [if_neg (show ¬ (done.length : Int) + 1 < 6 by omega)]
          simp only [if_neg c]
      | some mm =>
        refine .inr ⟨_, rfl, ?_⟩
        unfold stopsC
        by_cases c : done.length + 1 < mm
        · rw [if_pos (show (done.length : Int) + 1 < (mm : Int) by omega)]
          simp only [if_pos c]
          rfl
        · rw [if_neg (show ¬ (done.length : Int) + 1 < (mm : Int) by omega)]
          simp only [if_neg c]
    have hsl : (stopsC (done.length + 1) many ends).length ≤ 10 := by
      unfold stopsC
      split
      · split
        · rw [List.length_cons]; omega
        · omega
      · split
        · simp
        · omega
    refine g_app (n := 4) rfl eq lx ne1 ne2 (o_call rfl (by decide +kernel) (by decide +kernel) (fun H2 k2 => a_cons (e_var rfl (.int dep)) (a_cons (e_call (a_cons (e_op (e_lenV (fun p ys H Q h k => ⟨p, ys, rfl, h, fun _ => k⟩) rfl (k2 _ _ eq ne1) (by rw [lx.len, List.length_map])) e_int r_I0i) (a_cons (e_var rfl (tm1.stay (a1.tup k2))) (a_cons (e_var rfl (te1.stay (a1.tup k2))) a_nil))) hsd) a_nil)) (⟨m, dep, stopsC (done.length + 1) many ends, rfl, hm, hd, hsl, rfl⟩ : RoRow n _ _ _ _)) a1 (by rw [List.length_map]; have := a.sz; omega) (kk.keep kb) fun r j v H3 ei k3 a3 l3 _ => ?_
    have fw := RF (stopsC (done.length + 1) many ends) i' (by rw [wsP_len]; exact hi')
    rw [ei] at fw
    rw [ei] at kk
    have h1 := fw.1
    have kk : Post K C CF CD p tl ps FCells.d Q E H ((if Pm.hd (wsP ps) j = "&" then (cellsO (wsP ps) (rowAt isSymbol (wsP ps) m) many ends n' (done.length + 1 + 1) (j + 1)).bind fun cs k => Out.ok (FCells.cons r cs) k else Out.ok (FCells.cons r FCells.nil) j).bind fun r j => .ok (prepC done r) j) := kk
    have kb3 : KeepB p H (L2.upd H3 q (.lst (xs ++ [v]))) := keepB_new (kb.trans k3) nq
    have eq3 : L2.upd H3 q (.lst (xs ++ [v])) q = some (.lst (xs ++ [v])) := upd_same
    refine g_when (b := !decide (Pm.hd (wsP ps) j = "&")) (ot_eq (E := E0) (CF := CF) (CD := CD) (o_call rfl (by decide +kernel) (by decide +kernel) (fun _ _ => a_nil) (⟨rfl, rfl⟩ : RoPeek [] (wsP ps) j _)) r_neS) a3 (fun c H5 k5 a5 => ?_) fun c H5 k5 a5 => ?_
    · have eq5 := k5 _ _ eq3 ne1
      rw [if_neg (by simpa using c)] at kk
      refine ⟨_, rfl, q, _, rfl, .inl ⟨SqL.of eq5, fun c hc => ?_⟩⟩
      refine kk _ _ ((kb3.trans k5).trans (.of (same_new hc))) (a5.same (same_new hc)) ?_
      show Tp K _ _ (.tuple (prepC done (.cons r .nil)).ds)
      rw [prepC_ds]
      exact .mk (SqT.of upd_same) ((l3.stay (a3.tup k5)).stay (.of (same_new hc)))
    · have c' : Pm.hd (wsP ps) j = "&" := by simpa using c
      rw [if_pos c'] at kk
      have kk2 : Post K C CF CD p tl ps FCells.d Q E H ((acc (wsP ps) "&" j).bind fun _ j' => ((cellsO (wsP ps) (rowAt isSymbol (wsP ps) m) many ends n' (done.length + 1 + 1) j').bind fun cs k => Out.ok (FCells.cons r cs) k).bind fun r j => .ok (prepC done r) j) := by
        rw [show acc (wsP ps) "&" j = .ok () (j + 1) from if_pos c']
        exact kk
      have ev : EvO K C CF CD p tl ps E (tMeth C "_accept" (spAc K C CF CD) [] E (tVar 0) (tCons (tC (.str "&")) tNil)) [some (.ref p), some (.int dep), some vm, some ve, some (.ref q)] H5 j _ dU := o_call rfl (by decide +kernel) (by decide +kernel) (fun _ _ => a_cons e_str a_nil) (⟨"&", rfl, by decide +kernel, by decide +kernel, rfl⟩ : RoAcc _ _ _ _)
      refine ev H5 (.refl _ _) a5 _ ((kk2.keep (kb3.trans k5)).into fun _ j' v' H6 e6 k6 a6 _ _ => ?_)
      rw [show acc (wsP ps) "&" j = .ok () (j + 1) from if_pos c'] at e6
      cases e6
      refine ⟨n', Nat.lt_succ_self _, n', done ++ [r], _, j + 1, rfl, by rw [wsP_len]; omega, by rw [List.length_append, List.length_singleton]; omega, rfl, (kb3.trans k5).trans k6, a6, k6 _ _ (k5 _ _ eq3 ne1) ne1, ?_, ?_⟩
      · rw [List.map_append]
        exact (l3.stay (a3.tup k5)).stay (a5.tup k6)
      · rw [bind_assoc] at kk
        have e : (fun (a : FCells) (j : Nat) => (Out.ok (FCells.cons r a) j).bind fun r j => Out.ok (prepC done r) j) = fun cs j => Out.ok (prepC (done ++ [r]) cs) j := by
          funext cs j
          show Out.ok (prepC done (.cons r cs)) j = _
          rw [prepC_snoc]
        rw [e] at kk
        rw [List.length_append, List.length_singleton]
        exact kk
theorem noneD_scr (s : FScr) : noneD s.d = isNo s := by cases s <;> rfl
theorem scRItemX : FnScope ["self", "depth", "nucleus", "below", "above"] ["self", "depth"] (defScope sRItem) := ⟨rfl, rfl, rfl, by decide +kernel, rfl, by decide +kernel, by decide +kernel⟩
theorem ok_ritemx {n : Nat} {f : Addr} {fd : FuncData} (F : Fun K "_item" "Reader._item" sRItem f fd) (T : TxtRd K mg C) (C_peek : CalM P w K mg base CX0 1 C "_peek" ["self"] (spPk K C CF CD)) (C_accept : CalM P w K mg base (L2.CX P w) 2 C "_accept" ["self", "wanted"] (spAc K C CF CD)) (C_argument : CalM P w K mg base (L2.CX P w) (6 * n + 6) C "_argument" ["self", "depth"] (spRo K C CF CD FRow.d (RoArg n)))
    (C_nucleus : CalM P w K mg base (L2.CX P w) (6 * n + 7) C "_nucleus" ["self", "depth"] (spRo K C CF CD FNuc.d (RoNuc n))) : FnOk P w K mg base (L2.CX P w) (6 * n + 8) f fd ["self", "depth"] (spRo K C CF CD FItem.d (RoItem n)) := by
  have sc := scRItemX
  refine F.okX scRItemX (fun vs H Q E h => ?_) (fun cdv A outer s H vs Q E hr h => ?_)
  · obtain ⟨p, tl, ps, i, us, ds, o, rfl, l, a, ⟨_, dep, rfl, _⟩, _⟩ := h
    cases l with
    | cons _ l => cases l; rfl
  · obtain ⟨p, tl, ps, i, us, ds, o, rfl, l, a, ⟨m, dep, rfl, hm, hd, rfl⟩, k⟩ := h
    cases l with
    | cons t l => cases l with
    | nil =>
    cases tp_int t
    refine ⟨_, (pss_cons (ps_set (i := 2) sc.nd rfl (Or.inl rfl) (pe_calm (pv 0) T.cl C_nucleus (hr.mono (by omega)) passX (pa_cons (pv 1) pa_nil)))
  (pss_cons (ps_set (i := 3) sc.nd rfl (Or.inl rfl) pe_non)
  (pss_cons (ps_set (i := 4) sc.nd rfl (Or.inl rfl) pe_non)
  (pss_one (ps_while (passes_of rfl) (pt_val pe_bl)
  (pss_one (ps_if (PW.pt (pw_and (pt_cmpR op_eq (pe_calm0 (pv 0) T.cl C_peek (hr.mono (by omega)) pass0) pe_str (nomark _)) (pw_and1 (pt_cmpR op_isN (pv 3) pe_non (nomark _)))))
  (pss_cons (ps_expr (pe_calm (pv 0) T.cl C_accept (hr.mono (by omega)) passX (pa_cons pe_str pa_nil)))
  (pss_one (ps_set (i := 3) sc.nd rfl (Or.inl rfl) (pe_calm (pv 0) T.cl C_argument (hr.mono (by omega)) passX (pa_cons (pe_op op_add (pv 1) pe_int) pa_nil)))))
  (pss_one (ps_if (PW.pt (pw_and (pt_cmpR op_eq (pe_calm0 (pv 0) T.cl C_peek (hr.mono (by omega)) pass0) pe_str (nomark _)) (pw_and1 (pt_cmpR op_isN (pv 4) pe_non (nomark _)))))
  (pss_cons (ps_expr (pe_calm (pv 0) T.cl C_accept (hr.mono (by omega)) passX (pa_cons pe_str pa_nil)))
  (pss_one (ps_set (i := 4) sc.nd rfl (Or.inl rfl) (pe_calm (pv 0) T.cl C_argument (hr.mono (by omega)) passX (pa_cons (pe_op op_add (pv 1) pe_int) pa_nil)))))
  (pss_one (ps_ret (pe_tup (pa_cons (pv 2) (pa_cons (pv 3) (pa_cons (pv 4) pa_nil))))))))))))))), ?_⟩
    refine g_set (o_call rfl (by decide +kernel) (by decide +kernel) (fun _ _ => a_cons (e_var rfl (.int dep)) a_nil) (⟨m, dep, rfl, hm, hd, rfl⟩ : RoNuc n _ _ _ _)) a k fun nu j v2 H1 e1 k1 a1 t2 k => ?_
    refine ⟨fun mm σ H' => ∃ (n' : Nat) (lo hi : FScr) (v3 v4 : V) (i' : Nat), n' = mm ∧ (isNo lo).toNat + (isNo hi).toNat < n' ∧ σ = [some (.ref p), some (.int dep), some v2, some v3, some v4] ∧ KeepB p H1 H' ∧ RdP K C p tl ps i' H' ∧
        Tp K H' v3 lo.d ∧ Tp K H' v4 hi.d ∧ Post K C CF CD p tl ps FItem.d Q E H1 ((scrsO isSymbol (wsP ps) (rowAt isSymbol (wsP ps) m) (m == 0) n' lo hi i').bind fun r j => .ok (.mk nu r.1 r.2) j), ⟨_, 3, .no, .no, .non, .non, j, rfl, by decide, rfl, .refl _ _, a1, .non, .non, k⟩, ?_⟩
    rintro mm σ H' ⟨n', lo, hi, v3, v4, i', rfl, hl, rfl, kb, a2, t3, t4, k⟩
    refine ⟨true, rfl, iteP rfl ?_⟩
    refine ⟨_, fun σ' H'' h => h, ?_⟩
    cases n' with
    | zero => omega
    | succ n' =>
    have pk : ∀ {z : Str} {H : Hp}, OT K C p tl ps (tTest (tOp rEq (tMeth C "_peek" (spPk K C CF CD) [] E0 (tVar 0) tNil) (tC (.str z)))) [some (.ref p), some (.int dep), some v2, some v3, some v4] H i' (decide (Pm.hd (wsP ps) i' = z)) := fun {z H} =>
      ot_eq (E := E0) (CF := CF) (CD := CD) (o_call rfl (by decide +kernel) (by decide +kernel) (fun _ _ => a_nil) (⟨rfl, rfl⟩ : RoPeek [] (wsP ps) i' _)) r_eqS
    unfold scrsO at k
    refine g_if (b := decide (Pm.hd (wsP ps) i' = "_") && noneD lo.d) (ot_and pk fun _ => ot_none a2 rfl t3) a2 (fun c H3 k3 a3 => ?_) fun c H3 k3 a3 => ?_
    · rw [Bool.and_eq_true, decide_eq_true_iff, noneD_scr] at c
      rw [if_pos c, bind_assoc] at k
      have k2 : Post K C CF CD p tl ps FItem.d Q E H1 ((acc (wsP ps) "_" i').bind fun _ j' => (argO isSymbol (wsP ps) (rowAt isSymbol (wsP ps) m) (m == 0) j').bind fun a j => (scrsO isSymbol (wsP ps) (rowAt isSymbol (wsP ps) m) (m == 0) n' (.yes a) hi j).bind fun r j => .ok (.mk nu r.1 r.2) j) := by
        rw [show acc (wsP ps) "_" i' = .ok () (i' + 1) from if_pos c.1]
        exact k
      refine g_drop (o_call rfl (by decide +kernel) (by decide +kernel) (fun _ _ => a_cons e_str a_nil) (⟨"_", rfl, by decide +kernel, by decide +kernel, rfl⟩ : RoAcc _ _ _ _)) a3 (k2.keep (kb.trans k3)) fun _ j4 H4 e4 k4 a4 k5 => ?_
      rw [show acc (wsP ps) "_" i' = .ok () (i' + 1) from if_pos c.1] at e4
      cases e4
      have ev : EvO K C CF CD p tl ps E (tMeth C "_argument" (spRo K C CF CD FRow.d (RoArg n)) [] E (tVar 0) (tCons (tOp (rI0 fun i j => .int (i + j)) (tVar 1) (tC (.int 1))) tNil)) [some (.ref p), some (.int dep), some v2, some v3, some v4] H4 (i' + 1) _ FRow.d := o_call rfl (by decide +kernel) (by decide +kernel) (fun _ _ => a_cons (e_op (e_var rfl (.int dep)) e_int r_I0i) a_nil) (⟨m, dep + 1, rfl, hm, by omega, rfl⟩ : RoArg n _ _ _ _)
      refine ev H4 (.refl _ _) a4 _ (k5.into fun r j6 v H6 e6 k6 a6 t6 _ => ?_)
      have kk := (k3.trans k4).trans k6
      refine ⟨n', Nat.lt_succ_self _, n', .yes r, hi, v, v4, j6, rfl, ?_, rfl, kb.trans kk, a6, t6, t4.stay (a2.tup kk), ?_⟩
      · rw [c.2] at hl
        show 0 + (isNo hi).toNat < n'
        have : (true : Bool).toNat = 1 := rfl
        omega
      · have k7 : Post K C CF CD p tl ps FItem.d Q E H1 ((argO isSymbol (wsP ps) (rowAt isSymbol (wsP ps) m) (m == 0) (i' + 1)).bind fun a j => (scrsO isSymbol (wsP ps) (rowAt isSymbol (wsP ps) m) (m == 0) n' (.yes a) hi j).bind fun r j => .ok (.mk nu r.1 r.2) j) := k
        rw [e6] at k7
        exact k7
    have c0 : ¬ (Pm.hd (wsP ps) i' = "_" ∧ isNo lo = true) := fun z => by
      rw [decide_eq_true z.1, noneD_scr, z.2] at c
      cases c
    rw [if_neg c0] at k
    refine g_if (b := decide (Pm.hd (wsP ps) i' = "^") && noneD hi.d) (ot_and pk fun _ => ot_none a3 rfl (t4.stay (a2.tup k3))) a3 (fun c H3' k3' a3 => ?_) fun c H3' k3' a3 => ?_
    · rw [Bool.and_eq_true, decide_eq_true_iff, noneD_scr] at c
      rw [if_pos c, bind_assoc] at k
      have k2 : Post K C CF CD p tl ps FItem.d Q E H1 ((acc (wsP ps) "^" i').bind fun _ j' => (argO isSymbol (wsP ps) (rowAt isSymbol (wsP ps) m) (m == 0) j').bind fun a j => (scrsO isSymbol (wsP ps) (rowAt isSymbol (wsP ps) m) (m == 0) n' lo (.yes a) j).bind fun r j => .ok (.mk nu r.1 r.2) j) := by
        rw [show acc (wsP ps) "^" i' = .ok () (i' + 1) from if_pos c.1]
        exact k
      refine g_drop (o_call rfl (by decide +kernel) (by decide +kernel) (fun _ _ => a_cons e_str a_nil) (⟨"^", rfl, by decide +kernel, by decide +kernel, rfl⟩ : RoAcc _ _ _ _)) a3 (k2.keep ((kb.trans k3).trans k3')) fun _ j4 H4 e4 k4 a4 k5 => ?_
      rw [show acc (wsP ps) "^" i' = .ok () (i' + 1) from if_pos c.1] at e4
      cases e4
      have ev : EvO K C CF CD p tl ps E (tMeth C "_argument" (spRo K C CF CD FRow.d (RoArg n)) [] E (tVar 0) (tCons (tOp (rI0 fun i j => .int (i + j)) (tVar 1) (tC (.int 1))) tNil)) [some (.ref p), some (.int dep), some v2, some v3, some v4] H4 (i' + 1) _ FRow.d := o_call rfl (by decide +kernel) (by decide +kernel) (fun _ _ => a_cons (e_op (e_var rfl (.int dep)) e_int r_I0i) a_nil) (⟨m, dep + 1, rfl, hm, by omega, rfl⟩ : RoArg n _ _ _ _)
      refine ev H4 (.refl _ _) a4 _ (k5.into fun r j6 v H6 e6 k6 a6 t6 _ => ?_)
      have kk := ((k3.trans k3').trans k4).trans k6
      refine ⟨n', Nat.lt_succ_self _, n', lo, .yes r, v3, v, j6, rfl, ?_, rfl, kb.trans kk, a6, t3.stay (a2.tup kk), t6, ?_⟩
      · rw [c.2] at hl
        show (isNo lo).toNat + 0 < n'
        have : (true : Bool).toNat = 1 := rfl
        omega
      · have k7 : Post K C CF CD p tl ps FItem.d Q E H1 ((argO isSymbol (wsP ps) (rowAt isSymbol (wsP ps) m) (m == 0) (i' + 1)).bind fun a j => (scrsO isSymbol (wsP ps) (rowAt isSymbol (wsP ps) m) (m == 0) n' lo (.yes a) j).bind fun r j => .ok (.mk nu r.1 r.2) j) := k
        rw [e6] at k7
        exact k7
    · have c1 : ¬ (Pm.hd (wsP ps) i' = "^" ∧ isNo hi = true) := fun z => by
        rw [decide_eq_true z.1, noneD_scr, z.2] at c
        cases c
      rw [if_neg c1] at k
      have kk := k3.trans k3'
      have ev : EvO K C CF CD p tl ps E (tTup (tCons (tVar 2) (tCons (tVar 3) (tCons (tVar 4) tNil)))) [some (.ref p), some (.int dep), some v2, some v3, some v4] H3' i' (.ok (FItem.mk nu lo hi) i') FItem.d := o_pure fun H4 k4 => e_tup (ds := [nu.d, lo.d, hi.d]) (a_cons (e_var rfl (t2.stay (a1.tup ((kb.trans kk).trans k4)))) (a_cons (e_var rfl (t3.stay (a2.tup (kk.trans k4)))) (a_cons (e_var rfl (t4.stay (a2.tup (kk.trans k4)))) a_nil))) (Nat.le_of_ble_eq_true rfl)
      exact g_ret0 ev a3 (Post.keep (o := .ok (FItem.mk nu lo hi) i') k (kb.trans kk))
end
end
end Mg.Pm
namespace Mg
section
set_option Elab.async false
set_option linter.all false
set_option maxRecDepth 100000
set_option maxHeartbeats 1000000
open PySem L2 StX
section
variable {P : Program} {w : World} {K : PySem.W.Frag} {mg : Str → Option Value} {base : Heap} {C : Addr}
/-! __init__, read -/
theorem scRInit : FnScope ["self", "text"] ["self", "text"] (defScope sRInit) := ⟨rfl, rfl, rfl, by decide +kernel, rfl, by decide +kernel, by decide +kernel⟩
def spRInit (K : PySem.W.Frag) (C : Addr) : Sp := fun vs H Q _ => ∃ (p dx : Addr) (t : Str), vs = [.ref p, .str t] ∧ H p = some (.ins C dx []) ∧ t.length ≤ 1000 ∧ ∀ tl H', KeepB p H H' → RdAt K C p tl ((toksAt t.cps.toList 0).map Prod.snd) 0 H' → Q .non H'
theorem toks_len (l : List Nat) (n : Nat) (h : n ≤ l.length) : (toksAt l n).length ≤ l.length - n + 1 := by
  rw [toksAt.eq_1]
  by_cases c : n < l.length
  · rw [dif_pos c]
    split
    · have := toks_len l (n + 1) c
      omega
    · split
      · simp
      · rename_i hb
        obtain ⟨w1, w2⟩ := tokAt_len c hb
        have := toks_len l (n + max 1 (tokAt l n).length) (by omega)
        rw [List.length_cons]
        omega
  · rw [dif_neg c]
    simp
termination_by l.length - n
theorem ok_rinit {f : Addr} {fd : FuncData} (F : Fun K "__init__" "Reader.__init__" sRInit f fd) (T : TxtRd K mg C) (C_tokens_of : Cal P w K mg base CX0 4 "tokens_of" ["text"] (spTokensOf K)) : FnOk P w K mg base CX0 5 f fd ["self", "text"] (spRInit K C) := by
  have sc := scRInit
  refine F.ok scRInit (fun vs H Q E h => ?_) (fun cdv A outer s H vs Q E hr h => ?_)
  · obtain ⟨p, dx, t, rfl, _⟩ := h
    rfl
  · obtain ⟨p, dx, t, rfl, hp, ht, k⟩ := h
    refine ⟨_, (pss_cons (ps_fld (pv 0) (pe_cal C_tokens_of (hr.mono (by omega)) rfl pass0 (pa_cons (pv 1) pa_nil)) rfl)
  (pss_one (ps_fld (pv 0) pe_int rfl))), ?_⟩
    refine ⟨_, rfl, t, rfl, ht, fun tl xs H1 n1 s1 e1 tk => ?_⟩
    have hp1 := s1 _ _ hp
    have np : tl ≠ p := fun e => by
      rw [e, hp] at n1
      cases n1
    refine ⟨_, rfl, p, C, dx, _, rfl, hp1, T.cl, T.nT, by decide, ?_⟩
    refine ⟨_, rfl, p, C, dx, _, rfl, upd_same, T.cl, T.nA, (by show 1 < 1000; decide), ?_⟩
    have e0 : putF "_at" (.int 0) (putF "_tokens" (.ref tl) []) = rf tl 0 := rf_new tl 0
    rw [e0]
    have kb : KeepB p H (upd (upd H1 p (.ins C dx (putF "_tokens" (.ref tl) []))) p (.ins C dx (rf tl 0))) := ((KeepB.of s1).trans keep_upd).trans keep_upd
    have tup : TupK H1 (upd (upd H1 p (.ins C dx (putF "_tokens" (.ref tl) []))) p (.ins C dx (rf tl 0))) := fun b ys h => by
      have n : ∀ o, H1 b = some o → (∀ D x f, o ≠ .ins D x f) → b ≠ p := fun o e z q => by
        rw [q, hp1] at e
        exact z _ _ _ (Option.some.inj e).symm
      rcases h with h | ⟨o, h⟩
      · have nb := n _ h fun _ _ _ z => nomatch z
        exact .inl (by rw [upd_ne nb, upd_ne nb]; exact h)
      · have nb := n _ h fun _ _ _ z => nomatch z
        exact .inr ⟨o, by rw [upd_ne nb, upd_ne nb]; exact h⟩
    refine k tl _ kb ⟨⟨dx, upd_same⟩, ⟨xs, ?_, ?_, fun j v x h1 h2 => ?_⟩, ?_⟩
    · rw [upd_ne np, upd_ne np]
      exact e1
    · rw [tk.1, List.length_map]
    · obtain ⟨y, hy, rfl⟩ := get_map h2
      obtain ⟨b, rfl, sq⟩ := tk.2 j v y h1 hy
      exact ⟨b, _, rfl, tup.seq sq⟩
    · rw [List.length_map]
      have := toks_len t.cps.toList 0 (Nat.zero_le _)
      have e : t.length = t.cps.toList.length := rfl
      omega
theorem scRRead : FnScope ["self"] ["self"] (defScope sRRead) := ⟨rfl, rfl, rfl, by decide +kernel, rfl, by decide +kernel, by decide +kernel⟩
def RRead (n : Nat) : RR := fun ds ws i j d => ∃ (r : CRow), ds = [] ∧ i = 0 ∧ r.ok ∧ r.h < n ∧ r.h ≤ 7 ∧ At ws 0 (r.ws ++ [("end" : Str)]) ∧ j = r.ws.length ∧ d = r.f.d
theorem ok_rread {n : Nat} {f : Addr} {fd : FuncData} (F : Fun K "read" "Reader.read" sRRead f fd) (T : TxtRd K mg C) (C_row : CalM P w K mg base CX0 (6 * n + 4) C "_row" ["self", "depth", "stops"] (spRd K C (RRow n))) : FnOk P w K mg base CX0 (6 * n + 5) f fd ["self"] (spRd K C (RRead n)) := by
  have sc := scRRead
  refine F.ok scRRead (fun vs H Q E h => ?_) (fun cdv A outer s H vs Q E hr h => ?_)
  · obtain ⟨p, tl, ws, i, j, us, ds, d, rfl, l, a, ⟨r, rfl, _⟩, _⟩ := h
    cases l
    rfl
  · obtain ⟨p, tl, ws, i, j, us, ds, d, rfl, l, a, ⟨r, rfl, rfl, ok, hn, h7, hw, rfl, rfl⟩, k⟩ := h
    cases l
    refine ⟨_, (pss_one (ps_ret (pe_calm (pv 0) T.cl C_row (hr.mono (by omega)) pass0 (pa_cons pe_int (pa_cons (pe_tup (pa_cons (pe_gstr rfl T.c_END) pa_nil)) pa_nil))))), ?_⟩
    refine g_ret (r_call rfl (by decide +kernel) (by decide +kernel) (ra_pure fun _ _ => a_cons e_int (a_cons (e_tup (ds := [.str "end"]) (a_cons e_str a_nil) (by decide)) a_nil)) (⟨r, 0, ["end"], rfl, by decide +kernel, ok, hn, by omega, ⟨"end", by decide +kernel, hw⟩, (Nat.zero_add _).symm, rfl⟩ : RRow n _ ws 0 r.ws.length r.f.d)) a k
/-! all of them, by how deep rows lie in rows -/
structure ReadOk (P : Program) (w : World) (K : PySem.W.Frag) (mg : Str → Option Value) (base : Heap) (C : Addr) (n : Nat) : Prop where
  row : CalM P w K mg base CX0 (6 * n + 4) C "_row" ["self", "depth", "stops"] (spRd K C (RRow n))
def MC (K : PySem.W.Frag) (C : Addr) (m : Str) (f : Addr) (fd : FuncData) (ps : List Str) : Prop := Meth K C m f ∧ Binds K fd ps []
theorem read_ok {f1 f2 f3 f4 f5 f6 f7 f8 : Addr} {d1 d2 d3 d4 d5 d6 d7 d8 : FuncData} (T : TxtRd K mg C) (C_peek : CalM P w K mg base CX0 1 C "_peek" ["self"] (spRd K C RPeek)) (C_accept : CalM P w K mg base CX0 1 C "_accept" ["self", "wanted"] (spRd K C RAcc)) (C_symbol : CalM P w K mg base CX0 3 C "_symbol" ["self"] (spRd K C RSym)) (C_delimiter : CalM P w K mg base CX0 4 C "_delimiter" ["self"] (spRd K C RDelim))
    (C_check_depth : Cal P w K mg base CX0 1 "check_depth" ["depth"] spCheckDepth0) (C_cell_stops : Cal P w K mg base CX0 1 "cell_stops" ["count", "many", "ends"] (spR K RStops))
    (F1 : Fun K "_row" "Reader._row" sRRow f1 d1) (F2 : Fun K "_item" "Reader._item" sRItem f2 d2) (F3 : Fun K "_nucleus" "Reader._nucleus" sRNucleus f3 d3) (F4 : Fun K "_braced" "Reader._braced" sRBraced f4 d4) (F5 : Fun K "_argument" "Reader._argument" sArgument f5 d5) (F6 : Fun K "_fence" "Reader._fence" sRFence f6 d6) (F7 : Fun K "_grid" "Reader._grid" sRGrid f7 d7) (F8 : Fun K "_cells" "Reader._cells" sRCells f8 d8)
    (c1 : MC K C "_row" f1 d1 ["self", "depth", "stops"]) (c2 : MC K C "_item" f2 d2 ["self", "depth"]) (c3 : MC K C "_nucleus" f3 d3 ["self", "depth"]) (c4 : MC K C "_braced" f4 d4 ["self", "depth"]) (c5 : MC K C "_argument" f5 d5 ["self", "depth"]) (c6 : MC K C "_fence" f6 d6 ["self", "depth"]) (c7 : MC K C "_grid" f7 d7 ["self", "depth"]) (c8 : MC K C "_cells" f8 d8 ["self", "depth", "many", "ends"]) :
    ∀ n, CalM P w K mg base CX0 (6 * n + 4) C "_row" ["self", "depth", "stops"] (spRd K C (RRow n))
  | 0 => ⟨f1, d1, FnOk.vac fun vs H Q E ⟨_, _, _, _, _, _, _, _, _, _, _, ⟨_, _, _, _, _, _, h, _⟩, _⟩ => Nat.not_lt_zero _ h, c1.1, c1.2⟩
  | n + 1 => by
    have row := read_ok T C_peek C_accept C_symbol C_delimiter C_check_depth C_cell_stops F1 F2 F3 F4 F5 F6 F7 F8 c1 c2 c3 c4 c5 c6 c7 c8 n
    have braced : CalM P w K mg base CX0 (6 * n + 5) C "_braced" ["self", "depth"] (spRd K C (RBraced n)) := ⟨f4, d4, ok_rbraced F4 T C_accept row, c4.1, c4.2⟩
    have arg : CalM P w K mg base CX0 (6 * n + 6) C "_argument" ["self", "depth"] (spRd K C (RArg n)) := ⟨f5, d5, ok_argument F5 T C_peek C_symbol C_check_depth braced, c5.1, c5.2⟩
    have fence : CalM P w K mg base CX0 (6 * n + 5) C "_fence" ["self", "depth"] (spRd K C (RFence n)) := ⟨f6, d6, ok_rfence F6 T C_accept C_delimiter row, c6.1, c6.2⟩
    have cells : CalM P w K mg base CX0 (6 * n + 5) C "_cells" ["self", "depth", "many", "ends"] (spRd K C (RCells n)) := ⟨f8, d8, ok_rcells F8 T C_peek C_accept C_cell_stops row, c8.1, c8.2⟩
    have grid : CalM P w K mg base CX0 (6 * n + 6) C "_grid" ["self", "depth"] (spRd K C (RGrid n)) := ⟨f7, d7, ok_rgrid F7 T C_peek C_accept cells, c7.1, c7.2⟩
    have nuc : CalM P w K mg base CX0 (6 * n + 7) C "_nucleus" ["self", "depth"] (spRd K C (RNuc n)) := ⟨f3, d3, ok_rnucleus F3 T C_peek C_accept C_symbol braced arg fence grid, c3.1, c3.2⟩
    have item : CalM P w K mg base CX0 (6 * n + 8) C "_item" ["self", "depth"] (spRd K C (RItem n)) := ⟨f2, d2, ok_ritem F2 T C_peek C_accept arg nuc, c2.1, c2.2⟩
    exact ⟨f1, d1, ok_rrow F1 T C_peek C_check_depth item, c1.1, c1.2⟩
end
end
section
set_option Elab.async false
set_option linter.all false
set_option maxRecDepth 100000
set_option maxHeartbeats 1000000
open PySem L2 StX
abbrev sParse : Stmt := top 28
structure MkR (P : Program) (w : World) (K : PySem.W.Frag) (mg : Str → Option Value) (base : Heap) (C : Addr) : Prop where
  ex : ∃ (f : Addr) (fd : FuncData), FnOk P w K mg base CX0 5 f fd ["self", "text"] (spRInit K C) ∧ Mk K C f ∧ Binds K fd ["self", "text"] []
section
variable {X : Cx} {C : Addr} {p pos : Pos} {e : Expr} {es : List Expr} {t : TA}
theorem pe_mkR (M : MkR X.prog X.w X.K X.mg X.base C) (hr : Room 6 X.A) (hg : Gl X "Reader") (hm : X.mg "Reader" = some (.ref C)) (ha : PA X (e :: es) t)
    (he : starEach (e :: es) X.env = (false, eval e X.env) :: starEach es X.env := by rfl) (hpl : (backTo pos (starEach es X.env)).any (·.1) = false := by rfl) :
    PE X (.Call (.Name "Reader" p) (e :: es) [] pos) (tMake C (spRInit X.K C) [] E0 t) := by
  obtain ⟨f, fd, F, mk, hb⟩ := M.ex
  exact pe_make mk F hr hg hm hb .nil pass0 ha (by decide) he hpl
end
structure TxtP (P : Program) (w : World) (K : PySem.W.Frag) (mg : Str → Option Value) (base : Heap) (C : Addr) : Prop extends TxtSrc mg where
  cl : Cls K C
  g_Reader : mg "Reader" = some (.ref C)
  mkR : MkR P w K mg base C
section
variable {P : Program} {w : World} {K : PySem.W.Frag} {mg : Str → Option Value} {base : Heap} {C : Addr}
/-- a formula within the limits -/
structure InLim (n : Nat) (r : FRow) : Prop where
  dep : r.dep < n
  dep7 : r.dep ≤ 7
  len : r.words.length ≤ 100000
  wk : ∀ x ∈ r.words, 1 ≤ x.length ∧ x.length ≤ 9
  count : r.count ≤ 80
  glue : (glueW r.words).length ≤ 400
def RCheck0 (n : Nat) (ds : List PyData) (d : PyData) : Prop := ∃ r : FRow, ds = [r.d] ∧ InLim n r ∧ d = .none
theorem ok_checkformula0 {n : Nat} {f : Addr} {fd : FuncData} (F : Fun K "check_formula" "check_formula" sCheckFormula f fd) (T : TxtSrc mg) (hn : 1 ≤ n) (C_check_depth : Cal P w K mg base CX0 1 "check_depth" ["depth"] spCheckDepth0)
    (C_depth_of : Cal P w K mg base CX0 (n + 2) "depth_of" ["row"] (spDepthOf K n)) (C_rows_of : Cal P w K mg base CX0 (n + 2) "rows_of" ["formula"] (spRowsOf K n)) (C_text_of : Cal P w K mg base CX0 (3 * n + 1) "text_of" ["formula"] (spTextOf K n)) : FnOk P w K mg base CX0 (3 * n + 2) f fd ["formula"] (spR K (RCheck0 n)) := by
  have sc := scCheckFormula
  refine F.ok scCheckFormula (fun vs H Q E h => ?_) (fun cdv A outer s H vs Q E hr h => ?_)
  · obtain ⟨ds, d, l, ⟨r, rfl, _⟩, _⟩ := h
    cases l with
    | cons _ l => cases l; rfl
  · obtain ⟨ds, d, l, ⟨r, rfl, ⟨dep, dep7, bnd, wk, k80, k400⟩, rfl⟩, k⟩ := h
    cases l with
    | cons t l => cases l with
    | nil =>
    refine ⟨_, (pss_cons (ps_expr (pe_cal C_check_depth (hr.mono (by omega)) rfl pass0 (pa_cons (pe_cal C_depth_of (hr.mono (by omega)) rfl pass0 (pa_cons (pv 0) pa_nil)) pa_nil)))
  (pss_cons (ps_set (i := 1) sc.nd rfl (Or.inl rfl) (pe_callB (cr_sum rfl) (by rfl) T.b_sum (by decide +kernel) (pa_cons (pe_lc (own := [("row", 2)]) rfl sc.nd (pi_list (pe_cal C_rows_of (hr.mono (by omega)) rfl pass0 (pa_cons (pv 0) pa_nil))) (blkOk_by (own := [("row", 2)]) (N := ["formula", "items", "row"]) (sc := defScope sCheckFormula) (by decide +kernel)) (fun _ _ _ _ _ => (pg_name (i := 2) sc.nd rfl (Or.inl rfl))) (fun _ _ _ _ _ => pts_nil) (fun _ _ _ _ _ => (pe_callB (r := rLenQ K) call_lenK (by rfl) T.b_len PySem.boot_len (pa_cons (pv 2) pa_nil)))) pa_nil)))
  (pss_one (ps_if (PW.pt (pw_or (pt_cmpR op_gt (pv 1) (pe_gint rfl T.c_MOST_ITEMS) (nomark _)) (pw_or1 (pt_cmpR op_gt (pe_callB call_len_str (by rfl) T.b_len PySem.boot_len (pa_cons (pe_cal C_text_of (hr.mono (by omega)) rfl pass0 (pa_cons (pv 0) pa_nil)) pa_nil)) (pe_gint rfl T.c_LONGEST) (nomark _)))))
  (pss_one ps_never)
  pss_nil)))), ?_⟩
    refine e_call (a_cons (e_var rfl t) a_nil) ⟨r, rfl, rfl, dep, bnd⟩ H (Same.refl _) _ fun vd H1 s1 td => ?_
    obtain rfl := tp_int td
    refine ⟨_, rfl, by omega, ?_⟩
    have t1 := t.stay (.of s1)
    refine q_set (e_sum (ns := r.pre.map fun q => (q.items.length : Int)) (l_is (l_lcL (K := K) (es := (r.pre.map fun q => (q.items.length : Int)).map PyData.int) (l_call (a_cons (e_var rfl t1) a_nil) ⟨r, rfl, rfl, dep, bnd⟩) (by simp) ?_ (fun x => rfl) ?_) rfl)) fun v2 H2 s2 t2 => ?_
    · have := inn_row r
      simp [FRow.pre]
      omega
    · intro i d e x H2 h1 h2 s2 tx
      obtain ⟨q, hq, rfl⟩ := get_map h1
      rw [List.map_map] at h2
      obtain ⟨q', hq', rfl⟩ := get_map h2
      rw [hq] at hq'
      cases hq'
      have ex : q.d = .tuple (q.items.map FItem.d) := by rw [FRow.d, FRow.ds_eq]
      refine e_is (e_lenT (ds := q.items.map FItem.d) (fun p xs H Q h hq => ⟨p, xs, rfl, h, fun _ => hq⟩) (e_var rfl (ex ▸ tx))) ?_
      simp
    obtain rfl := tp_int t2
    have t2 := t1.stay (.of s2)
    have ec : (r.pre.map fun q => (q.items.length : Int)).sum = r.count := rfl
    rw [ec]
    refine s_if (K := K) (b := false || false) (t_or (t_is (t_test (e_op (e_var rfl (.int _)) e_int r_I0b)) (decide_eq_false (by omega))) fun h80 => t_is (t_test (e_op (d1 := .int (glueW r.words).length) ?_ e_int r_I0b)) (decide_eq_false (by omega))) (fun hb => nomatch hb) fun hb H3 s3 => ?_
    · intro H3 s3 Q3 q3
      refine e_call (a_cons (e_var rfl t2) a_nil) ⟨r, rfl, rfl, dep, bnd, wk⟩ H3 s3 _ fun v4 H4 s4 t4 => ?_
      obtain rfl := tp_str t4
      have := glue_len r.words fun x hx => (wk x hx).2
      exact ⟨_, rfl, sz5 (by omega), q3 _ H4 s4 (.int _)⟩
    · exact k _ H3 ((s1.trans s2).trans s3) .non
def RParse (n : Nat) (ds : List PyData) (d : PyData) : Prop := ∃ (t : Str) (k0 : Nat) (ts : List (Str × Nat)) (r : CRow), ds = [.str t] ∧ t.cps.toList = List.replicate k0 32 ++ txt ts ∧ TOk ts ∧ ts.map Prod.fst = r.ws ∧ t.length ≤ 400 ∧ r.ok ∧ r.h < n ∧ r.h ≤ 7 ∧ InLim n r.f ∧ d = r.f.d
theorem scParse : FnScope ["text", "formula"] ["text"] (defScope sParse) := ⟨rfl, rfl, rfl, by decide +kernel, rfl, by decide +kernel, by decide +kernel⟩
theorem ok_parse {n : Nat} {f : Addr} {fd : FuncData} (F : Fun K "parse" "parse" sParse f fd) (T : TxtP P w K mg base C) (hn : 1 ≤ n) (C_read : CalM P w K mg base CX0 (6 * n + 5) C "read" ["self"] (spRd K C (RRead n))) (C_check_formula : Cal P w K mg base CX0 (3 * n + 2) "check_formula" ["formula"] (spR K (RCheck0 n))) :
    FnOk P w K mg base CX0 (6 * n + 6) f fd ["text"] (spR K (RParse n)) := by
  have sc := scParse
  refine F.ok scParse (fun vs H Q E h => ?_) (fun cdv A outer s H vs Q E hr h => ?_)
  · obtain ⟨ds, d, l, ⟨t, k0, ts, r, rfl, _⟩, _⟩ := h
    cases l with
    | cons _ l => cases l; rfl
  · obtain ⟨ds, d, l, ⟨t, k0, ts, r, rfl, et, tok, tw, t4, ok, hh, h7, lim, rfl⟩, k⟩ := h
    cases l with
    | cons t0 l => cases l with
    | nil =>
    cases tp_str t0
    refine ⟨_, (pss_cons (ps_if (pt_cmpR op_gt (pe_callB call_len_str (by rfl) T.b_len PySem.boot_len (pa_cons (pv 0) pa_nil)) (pe_gint rfl T.c_LONGEST) (nomark _))
  (pss_one ps_never)
  pss_nil)
  (pss_cons (ps_set (i := 1) sc.nd rfl (Or.inl rfl) (pe_calm0 (pe_mkR T.mkR (hr.mono (by omega)) rfl T.g_Reader (pa_cons (pv 0) pa_nil)) T.cl C_read (hr.mono (by omega)) pass0))
  (pss_cons (ps_expr (pe_cal C_check_formula (hr.mono (by omega)) rfl pass0 (pa_cons (pv 1) pa_nil)))
  (pss_one (ps_ret (pv 1)))))), ?_⟩
    refine q_no (K := K) (b := decide ((t.length : Int) > 400)) (t_test (e_op (d1 := .int t.length) (fun H1 s1 Q q => ⟨_, rfl, t, rfl, sz5 (by omega), q _ H1 (.refl _) (.int _)⟩) e_int r_I0b)) (decide_eq_false (by omega)) fun H1 s1 => ?_
    have toks : (toksAt t.cps.toList 0).map Prod.snd = r.ws ++ [("end" : Str)] := by
      rw [toks_spaces k0 0 (by rw [List.drop_zero]; exact et), Nat.zero_add, toks_txt (n := k0) tok (by rw [et]; exact List.drop_left' List.length_replicate), tw]
    refine ⟨_, rfl, fun x dx nx ndx ne => ?_⟩
    have hx : upd (upd H1 dx (.own x)) x (.ins C dx []) x = some (.ins C dx []) := upd_same
    refine ⟨x, dx, t, rfl, hx, by omega, fun tl H2 k2 a2 => ⟨rfl, ?_⟩⟩
    obtain ⟨dx2, hp2⟩ := a2.ob
    refine ⟨x, dx2, _, rfl, hp2, rf_no (by decide +kernel) (by decide +kernel), ?_⟩
    rw [toks] at a2
    have sm : ∀ {H3 : Hp}, KeepB x (upd (upd H1 dx (.own x)) x (.ins C dx [])) H3 → Same H1 H3 := fun kb b o e => by
      have n1 : b ≠ x := fun z => by
        rw [z, nx] at e
        cases e
      have n2 : b ≠ dx := fun z => by
        rw [z, ndx] at e
        cases e
      exact kb b o (by rw [upd_ne n1, upd_ne n2]; exact e) n1
    refine ⟨x, tl, r.ws ++ [("end" : Str)], 0, r.ws.length, [], [], r.f.d, rfl, .nil, a2, ⟨r, rfl, rfl, ok, hh, h7, by unfold At; rw [List.drop_zero]; exact List.prefix_refl _, rfl, rfl⟩, fun v H3 k3 a3 t3 => ?_⟩
    have s3 := sm (k2.trans k3)
    refine e_call (K := K) (R := RCheck0 n) (d := .none) (a_cons (e_var rfl t3) a_nil) ⟨r.f, rfl, lim, rfl⟩ H3 (.refl _) _ fun v4 H4 s4 t4 => ?_
    exact ⟨_, rfl, k v H4 ((s1.trans s3).trans s4) (t3.stay (.of s4))⟩
end
end
end Mg
namespace Mg.Pm
section
set_option Elab.async false
set_option linter.all false
set_option maxRecDepth 100000
set_option maxHeartbeats 1000000
open PySem L2 StX
def prepG (L : List FCells) (r : FGrid) : FGrid := L.foldr FGrid.cons r
theorem prepG_ds : ∀ (L : List FCells) (r : FGrid), (prepG L r).ds = L.map FCells.d ++ r.ds
  | [], r => rfl
  | i :: L, r => by
    show (.tuple i.ds) :: (prepG L r).ds = _
    rw [prepG_ds L r]
    rfl
theorem prepG_snoc (L : List FCells) (i : FCells) (r : FGrid) : prepG (L ++ [i]) r = prepG L (.cons i r) := by
  unfold prepG
  rw [List.foldr_append]
  rfl
theorem cLen_ds : ∀ c : FCells, c.ds.length = cLen c
  | .nil => rfl
  | .cons r c => by
    show (PyData.tuple r.ds :: c.ds).length = cLen c + 1
    rw [List.length_cons, cLen_ds c]
section
variable {P : Program} {w : World} {K : PySem.W.Frag} {mg : Str → Option Value} {base : Heap} {C CF CD : Addr}
theorem g_setLstX {α β : Type} {p tl : Addr} {ps : Tk} {E : XK} {Q0 : VK} {i n : Nat} {σ : L2.St} {H : Hp} {tas : TA} {o : Out α} {DL : α → List PyData} {Dg : β → PyData} {f : α → Nat → Out β} {tz : TS} {D : L2.Ends} (h : EvOA K C CF CD p tl ps E tas σ H i o DL) (a : RdP K C p tl ps i H) (hl : ∀ x, (DL x).length ≤ 1000) (k : Post K C CF CD p tl ps Dg Q0 E H (o.bind f))
    (q : ∀ x j vs H' r, o = .ok x j → KeepB p H H' → RdP K C p tl ps j H' → TpL K H' vs (DL x) → H' r = none → tz D (σ.set n (some (.ref r))) (L2.upd H' r (.lst vs))) : tSeq (tAsg (tLst tas) (gName n)) tz D σ H := h H (.refl _ _) a _ (by
  cases o with
  | ok x j => exact fun vs H' kb a' l => ⟨by rw [l.len]; exact sz5 (by have := hl x; omega), fun r hr => q x j vs H' r rfl kb a' l hr⟩
  | bad j => exact k
  | deep => exact k)
theorem g_setP {α : Type} {p tl : Addr} {ps : Tk} {E : XK} {i j n : Nat} {σ : L2.St} {H : Hp} {te : TE} {x : α} {Df : α → PyData} {tz : TS} {D : L2.Ends} (h : EvO K C CF CD p tl ps E te σ H i (.ok x j) Df) (a : RdP K C p tl ps i H)
    (q : ∀ v H', KeepB p H H' → RdP K C p tl ps j H' → Tp K H' v (Df x) → tz D (σ.set n (some v)) H') : tSeq (tAsg te (gName n)) tz D σ H := h H (.refl _ _) a _ q
theorem scRNucleusX : FnScope ["self", "depth", "word", "over"] ["self", "depth"] (defScope sRNucleus) := ⟨rfl, rfl, rfl, by decide +kernel, rfl, by decide +kernel, by decide +kernel⟩
theorem ok_rnucleusx {n : Nat} {f : Addr} {fd : FuncData} (F : Fun K "_nucleus" "Reader._nucleus" sRNucleus f fd) (T : TxtRd K mg C) (C_peek : CalM P w K mg base CX0 1 C "_peek" ["self"] (spPk K C CF CD)) (C_accept : CalM P w K mg base (L2.CX P w) 2 C "_accept" ["self", "wanted"] (spAc K C CF CD)) (C_symbol : CalM P w K mg base (L2.CX P w) 3 C "_symbol" ["self"] (spSy K C CF CD))
    (C_braced : CalM P w K mg base (L2.CX P w) (6 * n + 5) C "_braced" ["self", "depth"] (spRo K C CF CD FRow.d (RoBr n))) (C_argument : CalM P w K mg base (L2.CX P w) (6 * n + 6) C "_argument" ["self", "depth"] (spRo K C CF CD FRow.d (RoArg n))) (C_fence : CalM P w K mg base (L2.CX P w) (6 * n + 5) C "_fence" ["self", "depth"] (spRo K C CF CD FNuc.d (RoFe n))) (C_grid : CalM P w K mg base (L2.CX P w) (6 * n + 6) C "_grid" ["self", "depth"] (spRo K C CF CD FNuc.d (RoGrid n))) :
    FnOk P w K mg base (L2.CX P w) (6 * n + 7) f fd ["self", "depth"] (spRo K C CF CD FNuc.d (RoNuc n)) := by
  have sc := scRNucleusX
  refine F.okX scRNucleusX (fun vs H Q E h => ?_) (fun cdv A outer s H vs Q E hr h => ?_)
  · obtain ⟨p, tl, ps, i, us, ds, o, rfl, l, a, ⟨_, dep, rfl, _⟩, _⟩ := h
    cases l with
    | cons _ l => cases l; rfl
  · obtain ⟨p, tl, ps, i, us, ds, o, rfl, l, a, ⟨m, dep, rfl, hm, hd, rfl⟩, k⟩ := h
    cases l with
    | cons t l => cases l with
    | nil =>
    cases tp_int t
    refine ⟨_, (pss_cons (ps_set (i := 2) sc.nd rfl (Or.inl rfl) (pe_calm0 (pv 0) T.cl C_peek (hr.mono (by omega)) pass0))
  (pss_cons (ps_if (pt_cmpR op_eq (pv 2) pe_str (nomark _))
  (pss_one (ps_ret (pe_tup (pa_cons pe_str (pa_cons (pe_calm (pv 0) T.cl C_braced (hr.mono (by omega)) passX (pa_cons (pe_op op_add (pv 1) pe_int) pa_nil)) pa_nil)))))
  pss_nil)
  (pss_cons (ps_if (pt_cmpR op_eq (pv 2) pe_str (nomark _))
  (pss_cons (ps_expr (pe_calm (pv 0) T.cl C_accept (hr.mono (by omega)) passX (pa_cons pe_str pa_nil)))
  (pss_cons (ps_set (i := 3) sc.nd rfl (Or.inl rfl) (pe_calm (pv 0) T.cl C_argument (hr.mono (by omega)) passX (pa_cons (pe_op op_add (pv 1) pe_int) pa_nil)))
  (pss_one (ps_ret (pe_tup (pa_cons pe_str (pa_cons (pv 3) (pa_cons (pe_calm (pv 0) T.cl C_argument (hr.mono (by omega)) passX (pa_cons (pe_op op_add (pv 1) pe_int) pa_nil)) pa_nil))))))))
  pss_nil)
  (pss_cons (ps_if (pt_cmpR op_eq (pv 2) pe_str (nomark _))
  (pss_cons (ps_expr (pe_calm (pv 0) T.cl C_accept (hr.mono (by omega)) passX (pa_cons pe_str pa_nil)))
  (pss_one (ps_ret (pe_tup (pa_cons pe_str (pa_cons (pe_calm (pv 0) T.cl C_argument (hr.mono (by omega)) passX (pa_cons (pe_op op_add (pv 1) pe_int) pa_nil)) pa_nil))))))
  pss_nil)
  (pss_cons (ps_if (pt_cmpR op_eq (pv 2) pe_str (nomark _))
  (pss_one (ps_ret (pe_calm (pv 0) T.cl C_fence (hr.mono (by omega)) passX (pa_cons (pe_op op_add (pv 1) pe_int) pa_nil))))
  pss_nil)
  (pss_cons (ps_if (pt_cmpR op_eq (pv 2) pe_str (nomark _))
  (pss_one (ps_ret (pe_calm (pv 0) T.cl C_grid (hr.mono (by omega)) passX (pa_cons (pe_op op_add (pv 1) pe_int) pa_nil))))
  pss_nil)
  (pss_one (ps_ret (pe_tup (pa_cons pe_str (pa_cons (pe_calm0 (pv 0) T.cl C_symbol (hr.mono (by omega)) passX) pa_nil))))))))))), ?_⟩
    have ev : EvO K C CF CD p tl ps E (tMeth C "_peek" (spPk K C CF CD) [] E0 (tVar 0) tNil) (L2.start ["self", "depth", "word", "over"] [.ref p, .int dep]) H i (.ok (Pm.hd (wsP ps) i) i) PyData.str := fun H1 kb a1 Q q => (o_call (E := E0) rfl (by decide +kernel) (by decide +kernel) (fun _ _ => a_nil) (⟨rfl, rfl⟩ : RoPeek [] (wsP ps) i _) : EvO K C CF CD p tl ps E0 _ _ H i (.ok (Pm.hd (wsP ps) i) i) PyData.str) H1 kb a1 Q (fun v H' k1 a2 t => q v H' k1 a2 t)
    refine g_setP ev a fun v H1 k1 a1 t1 => ?_
    have k := k.keep k1
    obtain ⟨x, hx⟩ : ∃ x, x = Pm.hd (wsP ps) i := ⟨_, rfl⟩
    rw [← hx] at t1
    cases tp_str t1
    unfold nucO at k
    rw [← hx] at k
    by_cases c1 : x = "{"
    · subst c1
      rw [if_pos rfl] at k
      refine q_yesS rfl ?_
      exact g_ret (o_tup (oa_consP (d := .str "group") (fun _ _ => e_str) (oa_consE (o_call rfl (by decide +kernel) (by decide +kernel) (fun _ _ => a_cons (e_op (e_var rfl (.int dep)) e_int r_I0i) a_nil) (⟨m, dep + 1, rfl, hm, by omega, rfl⟩ : RoBr n _ _ _ _)) (ds := []) (fun _ _ => a_nil))) (fun _ => Nat.le_of_ble_eq_true rfl)) a1 k (fun _ => rfl)
    refine q_noS rfl c1 ?_
    rw [if_neg c1] at k
    by_cases c2 : x = "@frac"
    · subst c2
      rw [if_pos rfl] at k
      refine q_yesS rfl ?_
      have k2 : Post K C CF CD p tl ps FNuc.d Q E H1 ((acc (wsP ps) "@frac" i).bind fun _ j' => (argO isSymbol (wsP ps) (rowAt isSymbol (wsP ps) m) (m == 0) j').bind fun o j => (argO isSymbol (wsP ps) (rowAt isSymbol (wsP ps) m) (m == 0) j).bind fun u k => .ok (.frac o u) k) := by
        rw [show acc (wsP ps) "@frac" i = .ok () (i + 1) from if_pos hx.symm]
        exact k
      refine g_drop (o_call rfl (by decide +kernel) (by decide +kernel) (fun _ _ => a_cons e_str a_nil) (⟨"@frac", rfl, by decide +kernel, by decide +kernel, rfl⟩ : RoAcc _ _ _ _)) a1 k2 fun _ j2 H2 e2 k2' a2 k3 => ?_
      refine g_set (o_call rfl (by decide +kernel) (by decide +kernel) (fun _ _ => a_cons (e_op (e_var rfl (.int dep)) e_int r_I0i) a_nil) (⟨m, dep + 1, rfl, hm, by omega, rfl⟩ : RoArg n _ _ _ _)) a2 k3 fun o j3 v3 H3 e3 k3' a3 t3 k4 => ?_
      exact g_ret (o_tup (oa_consP (d := .str "frac") (fun _ _ => e_str) (oa_consP (d := FRow.d o) (fun H4 k4 => e_var rfl (t3.stay (a3.tup k4))) (oa_consE (o_call rfl (by decide +kernel) (by decide +kernel) (fun _ _ => a_cons (e_op (e_var rfl (.int dep)) e_int r_I0i) a_nil) (⟨m, dep + 1, rfl, hm, by omega, rfl⟩ : RoArg n _ _ _ _)) (ds := []) (fun _ _ => a_nil)))) (fun _ => Nat.le_of_ble_eq_true rfl)) a3 k4 (fun _ => rfl)
    refine q_noS rfl c2 ?_
    rw [if_neg c2] at k
    by_cases c3 : x = "@root"
    · subst c3
      rw [if_pos rfl] at k
      refine q_yesS rfl ?_
      have k2 : Post K C CF CD p tl ps FNuc.d Q E H1 ((acc (wsP ps) "@root" i).bind fun _ j' => (argO isSymbol (wsP ps) (rowAt isSymbol (wsP ps) m) (m == 0) j').bind fun r j => .ok (.root r) j) := by
        rw [show acc (wsP ps) "@root" i = .ok () (i + 1) from if_pos hx.symm]
        exact k
      refine g_drop (o_call rfl (by decide +kernel) (by decide +kernel) (fun _ _ => a_cons e_str a_nil) (⟨"@root", rfl, by decide +kernel, by decide +kernel, rfl⟩ : RoAcc _ _ _ _)) a1 k2 fun _ j2 H2 e2 k2' a2 k3 => ?_
      exact g_ret (o_tup (oa_consP (d := .str "root") (fun _ _ => e_str) (oa_consE (o_call rfl (by decide +kernel) (by decide +kernel) (fun _ _ => a_cons (e_op (e_var rfl (.int dep)) e_int r_I0i) a_nil) (⟨m, dep + 1, rfl, hm, by omega, rfl⟩ : RoArg n _ _ _ _)) (ds := []) (fun _ _ => a_nil))) (fun _ => Nat.le_of_ble_eq_true rfl)) a2 k3 (fun _ => rfl)
    refine q_noS rfl c3 ?_
    rw [if_neg c3] at k
    by_cases c4 : x = "@left"
    · subst c4
      rw [if_pos rfl] at k
      refine q_yesS rfl ?_
      exact g_ret0 (o_call rfl (by decide +kernel) (by decide +kernel) (fun _ _ => a_cons (e_op (e_var rfl (.int dep)) e_int r_I0i) a_nil) (⟨m, dep + 1, rfl, hm, by omega, rfl⟩ : RoFe n _ _ _ _)) a1 k
    refine q_noS rfl c4 ?_
    rw [if_neg c4] at k
    by_cases c5 : x = "@grid"
    · subst c5
      rw [if_pos rfl] at k
      refine q_yesS rfl ?_
      exact g_ret0 (o_call rfl (by decide +kernel) (by decide +kernel) (fun _ _ => a_cons (e_op (e_var rfl (.int dep)) e_int r_I0i) a_nil) (⟨m, dep + 1, rfl, hm, by omega, rfl⟩ : RoGrid n _ _ _ _)) a1 k
    refine q_noS rfl c5 ?_
    rw [if_neg c5] at k
    exact g_ret (o_tup (oa_consP (d := .str "symbol") (fun _ _ => e_str) (oa_consE (o_call rfl (by decide +kernel) (by decide +kernel) (fun _ _ => a_nil) (⟨rfl, rfl⟩ : RoSym [] _ _ _)) (ds := []) (fun _ _ => a_nil))) (fun _ => Nat.le_of_ble_eq_true rfl)) a1 k (fun _ => rfl)
theorem scRGridX : FnScope ["self", "depth", "rows", "ends"] ["self", "depth"] (defScope sRGrid) := ⟨rfl, rfl, rfl, by decide +kernel, rfl, by decide +kernel, by decide +kernel⟩
theorem ok_rgridx {n : Nat} {f : Addr} {fd : FuncData} (F : Fun K "_grid" "Reader._grid" sRGrid f fd) (T : TxtRd K mg C) (C_peek : CalM P w K mg base CX0 1 C "_peek" ["self"] (spPk K C CF CD)) (C_accept : CalM P w K mg base (L2.CX P w) 2 C "_accept" ["self", "wanted"] (spAc K C CF CD))
    (C_cells : CalM P w K mg base (L2.CX P w) (6 * n + 5) C "_cells" ["self", "depth", "many", "ends"] (spRo K C CF CD FCells.d (RoCells n))) : FnOk P w K mg base (L2.CX P w) (6 * n + 6) f fd ["self", "depth"] (spRo K C CF CD FNuc.d (RoGrid n)) := by
  have sc := scRGridX
  refine F.okX scRGridX (fun vs H Q E h => ?_) (fun cdv A outer s H vs Q E hr h => ?_)
  · obtain ⟨p, tl, ps, i, us, ds, o, rfl, l, a, ⟨_, dep, rfl, _⟩, _⟩ := h
    cases l with
    | cons _ l => cases l; rfl
  · obtain ⟨p, tl, ps, i, us, ds, o, rfl, l, a, ⟨m, dep, rfl, hm, hd, rfl⟩, k⟩ := h
    cases l with
    | cons t l => cases l with
    | nil =>
    cases tp_int t
    refine ⟨_, (pss_cons (ps_expr (pe_calm (pv 0) T.cl C_accept (hr.mono (by omega)) passX (pa_cons pe_str pa_nil)))
  (pss_cons (ps_expr (pe_calm (pv 0) T.cl C_accept (hr.mono (by omega)) passX (pa_cons pe_str pa_nil)))
  (pss_cons (ps_set (i := 2) sc.nd rfl (Or.inl rfl) (pe_lst (pa_cons (pe_calm (pv 0) T.cl C_cells (hr.mono (by omega)) passX (pa_cons (pv 1) (pa_cons pe_non (pa_cons (pe_tup (pa_cons pe_str (pa_cons pe_str pa_nil))) pa_nil)))) pa_nil)))
  (pss_cons (ps_while (passes_of rfl) (pt_cmpR op_eq (pe_calm0 (pv 0) T.cl C_peek (hr.mono (by omega)) pass0) pe_str (nomark _))
  (pss_cons (ps_expr (pe_calm (pv 0) T.cl C_accept (hr.mono (by omega)) passX (pa_cons pe_str pa_nil)))
  (pss_cons (ps_set (i := 3) sc.nd rfl (Or.inl rfl) (pe_ifExp (pt_cmpR op_lt (pe_op op_add (pe_callB call_len_sq (by rfl) T.b_len PySem.boot_len (pa_cons (pv 2) pa_nil)) pe_int) (pe_gint rfl T.c_MOST_CELLS) (nomark _)) (pe_tup (pa_cons pe_str (pa_cons pe_str pa_nil))) (pe_tup (pa_cons pe_str pa_nil))))
  (pss_one (ps_expr (pe_bm PySem.F.plainAttrs_list PySem.F.slot_list_append PySem.F.type_list_append mt_append (pv 2) (pa_cons (pe_calm (pv 0) T.cl C_cells (hr.mono (by omega)) passX (pa_cons (pv 1) (pa_cons (pe_callB call_len_sq (by rfl) T.b_len PySem.boot_len (pa_cons (pe_ix ix_list (pv 2) pe_int (fun _ _ => rfl)) pa_nil)) (pa_cons (pv 3) pa_nil)))) pa_nil)))))))
  (pss_cons (ps_expr (pe_calm (pv 0) T.cl C_accept (hr.mono (by omega)) passX (pa_cons pe_str pa_nil)))
  (pss_one (ps_ret (pe_tup (pa_cons pe_str (pa_cons (pe_callTy call_tuple_of (by rfl) T.b_tuple (by decide +kernel) (pa_cons (pv 2) pa_nil)) pa_nil)))))))))), ?_⟩
    have RF : RFwe (wsP ps) (rowAt isSymbol (wsP ps) m) := rowAt_fwe a.en m
    refine g_drop (o_call rfl (by decide +kernel) (by decide +kernel) (fun _ _ => a_cons e_str a_nil) (⟨"@grid", rfl, by decide +kernel, by decide +kernel, rfl⟩ : RoAcc _ _ _ _)) a k fun _ j1 H1 e1 k1 a1 k => ?_
    refine g_drop (o_call rfl (by decide +kernel) (by decide +kernel) (fun _ _ => a_cons e_str a_nil) (⟨"{", rfl, by decide +kernel, by decide +kernel, rfl⟩ : RoAcc _ _ _ _)) a1 k fun _ j2 H2 e2 k2 a2 k => ?_
    have e1 : ∀ {σ : L2.St} {H : Hp}, EvD K (tTup (tCons (tC (.str "~")) (tCons (tC (.str "}")) tNil))) σ H (.tuple ([("~" : Str), "}"].map .str)) := e_tup (a_cons e_str (a_cons e_str a_nil)) (by decide)
    have e2 : ∀ {σ : L2.St} {H : Hp}, EvD K (tTup (tCons (tC (.str "}")) tNil)) σ H (.tuple ([("}" : Str)].map .str)) := e_tup (a_cons e_str a_nil) (by decide)
    refine g_setLstX (oa_consE (o_call rfl (by decide +kernel) (by decide +kernel) (fun H3 k3 => a_cons (e_var rfl (.int dep)) (a_cons e_non (a_cons e1 a_nil))) (⟨m, dep, none, ["~", "}"], rfl, hm, hd, by decide, rfl⟩ : RoCells n _ _ _ _)) (ds := []) (fun _ _ => a_nil)) a2 (fun _ => Nat.le_of_ble_eq_true rfl) k fun cs j3 vs H3 q e3 k3 a3 l3 nq => ?_
    have k : Post K C CF CD p tl ps FNuc.d Q E H2 ((cellsO (wsP ps) (rowAt isSymbol (wsP ps) m) none ["~", "}"] ((wsP ps).length + 1) 1 j2).bind fun cs c => (gridR (wsP ps) (rowAt isSymbol (wsP ps) m) (cLen cs) ((wsP ps).length + 1) 1 c).bind fun g d => (acc (wsP ps) "}" d).bind fun _ e => .ok (.grid (.cons cs g)) e) := k
    rw [e3] at k
    have k : Post K C CF CD p tl ps FNuc.d Q E H2 ((gridR (wsP ps) (rowAt isSymbol (wsP ps) m) (cLen cs) ((wsP ps).length + 1) 1 j3).bind fun g d => (acc (wsP ps) "}" d).bind fun _ e => .ok (.grid (.cons cs g)) e) := k
    have nq0 : H2 q = none := by
      cases e : H2 q with
      | none => rfl
      | some o =>
        by_cases z : q = p
        · subst z
          obtain ⟨dx, hp⟩ := a3.ob
          rw [hp] at nq
          cases nq
        · rw [k3 _ _ e z] at nq
          cases nq
    have ne1 : q ≠ p := fun e => by
      obtain ⟨dx, hp⟩ := a3.ob
      rw [e, hp] at nq
      cases nq
    have ne2 : q ≠ tl := fun e => by
      obtain ⟨xs, hp, _⟩ := a3.tk
      rw [e, hp] at nq
      cases nq
    refine ⟨fun mm σ H' => ∃ (n' : Nat) (done : List FCells) (xs : List V) (x3 : Option V) (i' : Nat), n' = mm ∧ (wsP ps).length < n' + i' ∧ done.length ≤ i' ∧ σ = [some (.ref p), some (.int dep), some (.ref q), x3] ∧ KeepB p H2 H' ∧ RdP K C p tl ps i' H' ∧ H' q = some (.lst xs) ∧ TpL K H' xs ((cs :: done).map FCells.d) ∧
        Post K C CF CD p tl ps FNuc.d Q E H2 ((gridR (wsP ps) (rowAt isSymbol (wsP ps) m) (cLen cs) n' (done.length + 1) i').bind fun g d => (acc (wsP ps) "}" d).bind fun _ e => .ok (.grid (.cons cs (prepG done g))) e),
      ⟨_, (wsP ps).length + 1, [], _, none, j3, rfl, by omega, Nat.zero_le _, rfl, k3.trans (.of (same_new nq)), a3.same (same_new nq), upd_same, l3.stay (.of (same_new nq)), k⟩, ?_⟩
    rintro mm σ H' ⟨n', done, xs, x3, i', rfl, hn', hdn, rfl, kb, a4, eq, lx, k⟩
    have hi' := a4.lt
    rw [wsP_len] at hn'
    cases n' with
    | zero => omega
    | succ n' =>
    refine (ot_eq (E := E0) (CF := CF) (CD := CD) (o_call rfl (by decide +kernel) (by decide +kernel) (fun _ _ => a_nil) (⟨rfl, rfl⟩ : RoPeek [] (wsP ps) i' _)) r_eqS : OT K C p tl ps _ _ H' i' (decide (Pm.hd (wsP ps) i' = "~"))) H' (.refl _ _) a4 _ fun H5 k5 a5 => ?_
    unfold gridR at k
    have eq5 := k5 _ _ eq ne1
    have lx5 := lx.stay (a4.tup k5)
    by_cases c : Pm.hd (wsP ps) i' = "~"
    · rw [if_pos c, bind_assoc] at k
      refine iteP (by simp [c]) ⟨_, fun σ' H'' h => h, ?_⟩
      have k2' : Post K C CF CD p tl ps FNuc.d Q E H2 ((acc (wsP ps) "~" i').bind fun _ j => (cellsO (wsP ps) (rowAt isSymbol (wsP ps) m) (some (cLen cs)) (if done.length + 1 + 1 < 6 then ["~", "}"] else ["}"]) ((wsP ps).length + 1) 1 j).bind fun a j => ((gridR (wsP ps) (rowAt isSymbol (wsP ps) m) (cLen cs) n' (done.length + 1 + 1) j).bind fun g l => .ok (.cons a g) l).bind fun g d => (acc (wsP ps) "}" d).bind fun _ e => .ok (.grid (.cons cs (prepG done g))) e) := by
        rw [show acc (wsP ps) "~" i' = .ok () (i' + 1) from if_pos c]
        exact k
      refine g_drop (o_call rfl (by decide +kernel) (by decide +kernel) (fun _ _ => a_cons e_str a_nil) (⟨"~", rfl, by decide +kernel, by decide +kernel, rfl⟩ : RoAcc _ _ _ _)) a5 (k2'.keep (kb.trans k5)) fun _ j6 H6 e6 k6 a6 k7 => ?_
      rw [show acc (wsP ps) "~" i' = .ok () (i' + 1) from if_pos c] at e6
      cases e6
      have eq6 := k6 _ _ eq5 ne1
      have lx6 := lx5.stay (a5.tup k6)
      obtain ⟨ends, hends⟩ : ∃ ends : List Str, ends = if done.length + 1 + 1 < 6 then [("~" : Str), "}"] else [("}" : Str)] := ⟨_, rfl⟩
      rw [← hends] at k k7
      refine q_set (K := K) (d := .tuple (ends.map .str)) (e_if (b := decide ((done.length : Int) + 1 + 1 < 6)) (t_test (e_op (e_op (e_lenV (m := done.length + 1) (fun p ys H Q h k => ⟨p, ys, rfl, h, fun _ => k⟩) rfl eq6 (by rw [lx6.len, List.length_map, List.length_cons])) e_int r_I0i) e_int r_I0b)) (fun z => ?_) fun z => ?_) fun v3 H7 s7 t7 => ?_
      · have z := of_decide_eq_true z
        rw [hends, if_pos (by omega)]
        exact e1
      · have z := of_decide_eq_false z
        rw [hends, if_neg (by omega)]
        exact e2
      have a7 := a6.same s7
      have eq7 := s7 _ _ eq6
      have lx7 := lx6.stay (.of s7)
      have he5 : ends.length ≤ 5 := by
        rw [hends]
        split <;> decide
      refine g_app (n := 2) rfl eq7 lx7 ne1 ne2 (o_call rfl (by decide +kernel) (by decide +kernel) (fun H8 k8 => a_cons (e_var rfl (.int dep)) (a_cons (e_is (e_lenT (fun p ys H Q h k => ⟨p, ys, rfl, h, fun _ => k⟩) (e_ixL rfl (k8 _ _ eq7 ne1) (lx7.stay (a7.tup k8)) e_int atI0)) (by rw [cLen_ds]; rfl)) (a_cons (e_var rfl (t7.stay (a7.tup k8))) a_nil))) (⟨m, dep, some (cLen cs), ends, rfl, hm, hd, he5, rfl⟩ : RoCells n _ _ _ _)) a7 (by rw [List.length_map, List.length_cons]; have := a.sz; omega) (k7.keep (.of s7)) fun cc j9 v H9 e9 k9 a9 l9 _ => ?_
      have fw := cells_fwe a.en RF (many := some (cLen cs)) (ends := ends) ((wsP ps).length + 1) 1 (i' + 1) (by rw [wsP_len]; exact a6.lt)
      rw [e9] at fw
      have h9 := fw.1
      rw [e9] at k
      have k : Post K C CF CD p tl ps FNuc.d Q E H2 (((gridR (wsP ps) (rowAt isSymbol (wsP ps) m) (cLen cs) n' (done.length + 1 + 1) j9).bind fun g l => .ok (.cons cc g) l).bind fun g d => (acc (wsP ps) "}" d).bind fun _ e => .ok (.grid (.cons cs (prepG done g))) e) := k
      refine ⟨n', Nat.lt_succ_self _, n', done ++ [cc], _, _, j9, rfl, by rw [wsP_len]; omega, by rw [List.length_append, List.length_singleton]; omega, rfl, keepB_new ((((kb.trans k5).trans k6).trans (.of s7)).trans k9) nq0, a9, upd_same, ?_, ?_⟩
      · rw [← List.cons_append, List.map_append]
        exact l9
      · rw [bind_assoc] at k
        have e : (fun (a : FGrid) (j : Nat) => (Out.ok (FGrid.cons cc a) j).bind fun g d => (acc (wsP ps) "}" d).bind fun _ e => Out.ok (FNuc.grid (.cons cs (prepG done g))) e) = fun g d => (acc (wsP ps) "}" d).bind fun _ e => Out.ok (FNuc.grid (.cons cs (prepG (done ++ [cc]) g))) e := by
          funext g d
          show ((acc (wsP ps) "}" d).bind fun _ e => Out.ok (FNuc.grid (.cons cs (prepG done (.cons cc g)))) e) = _
          rw [prepG_snoc]
        rw [e] at k
        rw [List.length_append, List.length_singleton]
        exact k
    · rw [if_neg c] at k
      refine iteN (by simp [c]) ?_
      have k : Post K C CF CD p tl ps FNuc.d Q E H2 ((acc (wsP ps) "}" i').bind fun _ e => .ok (.grid (.cons cs (prepG done .nil))) e) := k
      refine g_drop (o_call rfl (by decide +kernel) (by decide +kernel) (fun _ _ => a_cons e_str a_nil) (⟨"}", rfl, by decide +kernel, by decide +kernel, rfl⟩ : RoAcc _ _ _ _)) a5 (k.keep (kb.trans k5)) fun _ j6 H6 e6 k6 a6 k7 => ?_
      have eq6 := k6 _ _ eq5 ne1
      have lx6 := lx5.stay (a5.tup k6)
      refine ⟨_, rfl, q, xs, rfl, .inl ⟨SqL.of eq6, fun c hc => ?_⟩⟩
      refine ⟨(by show 2 ≤ sizeLine; decide), fun c2 hc2 => ?_⟩
      have s1 := same_new (H := H6) (o := .tup xs) hc
      have s2 := same_new (H := L2.upd H6 c (.tup xs)) (o := .tup [.str "grid", .ref c]) hc2
      refine k7 _ _ ((KeepB.of s1).trans (.of s2)) ((a6.same s1).same s2) ?_
      refine .mk (ds := [.str "grid", .tuple (FGrid.cons cs (prepG done .nil)).ds]) (SqT.of upd_same) (.cons (.str _) (.one ?_))
      rw [show (FGrid.cons cs (prepG done .nil)).ds = cs.d :: (prepG done .nil).ds from rfl, prepG_ds, show FGrid.nil.ds = [] from rfl, List.append_nil]
      exact (Tp.mk (SqT.of upd_same) (lx6.stay (.of s1))).stay (.of s2)
end
end
section
set_option Elab.async false
set_option linter.all false
set_option maxRecDepth 100000
set_option maxHeartbeats 1000000
open PySem L2 StX
/-! the tokens of a text, as the Reader has them -/
theorem toks_all {l : List Nat} (n : Nat) (h : n ≤ l.length) : ∀ x ∈ toksAt l n, x.1 ≤ l.length ∧ x.2.length ≤ max 3 l.length := by
  rw [toksAt.eq_1]
  by_cases c : n < l.length
  · rw [dif_pos c]
    split
    · exact toks_all (n + 1) c
    · split
      · intro x hx
        cases List.mem_singleton.mp hx
        exact ⟨h, Nat.le_trans (by first | (show ("bad" : Str).length ≤ 3; decide +kernel) | (show ("end" : Str).length ≤ 3; decide +kernel)) (Nat.le_max_left _ _)⟩
      · rename_i hb
        obtain ⟨w1, w2⟩ := tokAt_len c hb
        intro x hx
        rcases List.mem_cons.mp hx with rfl | hx
        · exact ⟨h, Nat.le_trans (by show (tokAt l n).length ≤ l.length; omega) (Nat.le_max_right _ _)⟩
        · exact toks_all (n + max 1 (tokAt l n).length) (by omega) x hx
  · rw [dif_neg c]
    intro x hx
    cases List.mem_singleton.mp hx
    exact ⟨h, Nat.le_trans (by first | (show ("bad" : Str).length ≤ 3; decide +kernel) | (show ("end" : Str).length ≤ 3; decide +kernel)) (Nat.le_max_left _ _)⟩
termination_by l.length - n
theorem toks_last {l : List Nat} (n : Nat) (h : n ≤ l.length) : ∃ a x, toksAt l n = a ++ [x] ∧ (x.2 = ("end" : Str) ∨ x.2 = ("bad" : Str)) := by
  rw [toksAt.eq_1]
  by_cases c : n < l.length
  · rw [dif_pos c]
    split
    · exact toks_last (l := l) (n + 1) c
    · split
      · exact ⟨[], _, rfl, .inr rfl⟩
      · rename_i hb
        obtain ⟨w1, w2⟩ := tokAt_len c hb
        obtain ⟨a, x, e, hx⟩ := toks_last (l := l) (n + max 1 (tokAt l n).length) (by omega)
        exact ⟨_ :: a, x, by rw [e]; rfl, hx⟩
  · rw [dif_neg c]
    exact ⟨[], _, rfl, .inl rfl⟩
termination_by l.length - n
theorem sy_end : isSymbol "end" = false := by decide +kernel
theorem sy_bad : isSymbol "bad" = false := by decide +kernel
theorem ends_of {ps : Tk} (h : ∃ a x, ps = a ++ [x] ∧ (x.2 = ("end" : Str) ∨ x.2 = ("bad" : Str))) : Ends isSymbol (wsP ps) where
  last := fun i hi => by
    obtain ⟨a, x, rfl, hx⟩ := h
    rw [wsP_len, List.length_append, List.length_singleton] at hi
    by_cases c : i < a.length
    · right
      rw [wsP_len, List.length_append, List.length_singleton]
      omega
    · left
      have e : i = a.length := by omega
      have : hd (wsP (a ++ [x])) i = x.2 := by
        unfold hd wsP
        rw [List.getD_eq_getElem?_getD, List.getElem?_map, e, List.getElem?_append_right (Nat.le_refl _), Nat.sub_self]
        rfl
      rw [this]
      exact hx
  ne := sy_end
  nb := sy_bad
section
variable {P : Program} {w : World} {K : PySem.W.Frag} {mg : Str → Option Value} {base : Heap} {C CF CD CL CG : Addr}
def spRInitX (K : PySem.W.Frag) (C : Addr) : Sp := fun vs H Q _ => ∃ (p dx : Addr) (t : Str), vs = [.ref p, .str t] ∧ H p = some (.ins C dx []) ∧ t.length ≤ 1000 ∧ ∀ tl H', KeepB p H H' → RdP K C p tl (toksAt t.cps.toList 0) 0 H' → Q .non H'
theorem scRInitX : FnScope ["self", "text"] ["self", "text"] (defScope sRInit) := ⟨rfl, rfl, rfl, by decide +kernel, rfl, by decide +kernel, by decide +kernel⟩
theorem ok_rinitx {f : Addr} {fd : FuncData} (F : Fun K "__init__" "Reader.__init__" sRInit f fd) (T : TxtRd K mg C) (C_tokens_of : Cal P w K mg base CX0 4 "tokens_of" ["text"] (spTokensOf K)) : FnOk P w K mg base CX0 5 f fd ["self", "text"] (spRInitX K C) := by
  have sc := scRInitX
  refine F.ok scRInitX (fun vs H Q E h => ?_) (fun cdv A outer s H vs Q E hr h => ?_)
  · obtain ⟨p, dx, t, rfl, _⟩ := h
    rfl
  · obtain ⟨p, dx, t, rfl, hp, ht, k⟩ := h
    refine ⟨_, (pss_cons (ps_fld (pv 0) (pe_cal C_tokens_of (hr.mono (by omega)) rfl pass0 (pa_cons (pv 1) pa_nil)) rfl)
  (pss_one (ps_fld (pv 0) pe_int rfl))), ?_⟩
    refine ⟨_, rfl, t, rfl, ht, fun tl xs H1 n1 s1 e1 tk => ?_⟩
    have hp1 := s1 _ _ hp
    have np : tl ≠ p := fun e => by
      rw [e, hp] at n1
      cases n1
    refine ⟨_, rfl, p, C, dx, _, rfl, hp1, T.cl, T.nT, by decide, ?_⟩
    refine ⟨_, rfl, p, C, dx, _, rfl, upd_same, T.cl, T.nA, (by show 1 < 1000; decide), ?_⟩
    have e0 : putF "_at" (.int 0) (putF "_tokens" (.ref tl) []) = rf tl 0 := rf_new tl 0
    rw [e0]
    have kb : KeepB p H (L2.upd (L2.upd H1 p (.ins C dx (putF "_tokens" (.ref tl) []))) p (.ins C dx (rf tl 0))) := ((KeepB.of s1).trans keep_upd).trans keep_upd
    have tup : TupK H1 (L2.upd (L2.upd H1 p (.ins C dx (putF "_tokens" (.ref tl) []))) p (.ins C dx (rf tl 0))) := fun b ys h => by
      have n : ∀ o, H1 b = some o → (∀ D x f, o ≠ .ins D x f) → b ≠ p := fun o e z q => by
        rw [q, hp1] at e
        exact z _ _ _ (Option.some.inj e).symm
      rcases h with h | ⟨o, h⟩
      · have nb := n _ h fun _ _ _ z => nomatch z
        exact .inl (by rw [upd_ne nb, upd_ne nb]; exact h)
      · have nb := n _ h fun _ _ _ z => nomatch z
        exact .inr ⟨o, by rw [upd_ne nb, upd_ne nb]; exact h⟩
    have hl : t.cps.toList.length ≤ 1000 := by rw [← str_len]; exact ht
    have tl0 := toks_len t.cps.toList 0 (Nat.zero_le _)
    refine k tl _ kb ⟨⟨dx, upd_same⟩, ⟨xs, ?_, tk.1, fun j v x h1 h2 => ?_⟩, by omega, ends_of (toks_last 0 (Nat.zero_le _)), fun x hx => ?_, ?_⟩
    · rw [upd_ne np, upd_ne np]
      exact e1
    · obtain ⟨a, e, sq⟩ := tk.2 j v x h1 h2
      exact ⟨a, e, tup.seq sq⟩
    · have := toks_all 0 (Nat.zero_le _) x hx
      exact ⟨by omega, by omega⟩
    · obtain ⟨a, x, e, _⟩ := toks_last (l := t.cps.toList) 0 (Nat.zero_le _)
      rw [e, List.length_append, List.length_singleton]
      omega
theorem scRReadX : FnScope ["self"] ["self"] (defScope sRRead) := ⟨rfl, rfl, rfl, by decide +kernel, rfl, by decide +kernel, by decide +kernel⟩
def RoRead (n : Nat) : List PyData → List Str → Nat → Out FRow → Prop := fun ds ws i o => ds = [] ∧ 8 < n ∧ o = rowAt isSymbol ws 8 ["end"] i
theorem ok_rreadx {n : Nat} {f : Addr} {fd : FuncData} (F : Fun K "read" "Reader.read" sRRead f fd) (T : TxtRd K mg C) (C_row : CalM P w K mg base (L2.CX P w) (6 * n + 4) C "_row" ["self", "depth", "stops"] (spRo K C CF CD FRow.d (RoRow n))) : FnOk P w K mg base (L2.CX P w) (6 * n + 5) f fd ["self"] (spRo K C CF CD FRow.d (RoRead n)) := by
  have sc := scRReadX
  refine F.okX scRReadX (fun vs H Q E h => ?_) (fun cdv A outer s H vs Q E hr h => ?_)
  · obtain ⟨p, tl, ps, i, us, ds, o, rfl, l, a, ⟨rfl, _⟩, _⟩ := h
    cases l
    rfl
  · obtain ⟨p, tl, ps, i, us, ds, o, rfl, l, a, ⟨rfl, hn, rfl⟩, k⟩ := h
    cases l
    refine ⟨_, (pss_one (ps_ret (pe_calm (pv 0) T.cl C_row (hr.mono (by omega)) passX (pa_cons pe_int (pa_cons (pe_tup (pa_cons (pe_gstr rfl T.c_END) pa_nil)) pa_nil))))), ?_⟩
    exact g_ret0 (o_call rfl (by decide +kernel) (by decide +kernel) (fun _ _ => a_cons e_int (a_cons (e_tup (ds := [.str "end"]) (a_cons e_str a_nil) (by decide)) a_nil)) (⟨8, 0, ["end"], rfl, hn, rfl, by decide, rfl⟩ : RoRow n _ _ _ _)) a k
theorem read_okx {f1 f2 f3 f4 f5 f6 f7 f8 : Addr} {d1 d2 d3 d4 d5 d6 d7 d8 : FuncData} (T : TxtRd K mg C) (C_peek : CalM P w K mg base CX0 1 C "_peek" ["self"] (spPk K C CF CD)) (C_accept : CalM P w K mg base (L2.CX P w) 2 C "_accept" ["self", "wanted"] (spAc K C CF CD)) (C_symbol : CalM P w K mg base (L2.CX P w) 3 C "_symbol" ["self"] (spSy K C CF CD)) (C_delimiter : CalM P w K mg base (L2.CX P w) 4 C "_delimiter" ["self"] (spDl K C CF CD))
    (C_check_depth : Cal P w K mg base (L2.CX P w) 1 "check_depth" ["depth"] (spCheckDepth CD)) (C_cell_stops : Cal P w K mg base CX0 1 "cell_stops" ["count", "many", "ends"] (spR K RStops))
    (F1 : Fun K "_row" "Reader._row" sRRow f1 d1) (F2 : Fun K "_item" "Reader._item" sRItem f2 d2) (F3 : Fun K "_nucleus" "Reader._nucleus" sRNucleus f3 d3) (F4 : Fun K "_braced" "Reader._braced" sRBraced f4 d4) (F5 : Fun K "_argument" "Reader._argument" sArgument f5 d5) (F6 : Fun K "_fence" "Reader._fence" sRFence f6 d6) (F7 : Fun K "_grid" "Reader._grid" sRGrid f7 d7) (F8 : Fun K "_cells" "Reader._cells" sRCells f8 d8)
    (c1 : MC K C "_row" f1 d1 ["self", "depth", "stops"]) (c2 : MC K C "_item" f2 d2 ["self", "depth"]) (c3 : MC K C "_nucleus" f3 d3 ["self", "depth"]) (c4 : MC K C "_braced" f4 d4 ["self", "depth"]) (c5 : MC K C "_argument" f5 d5 ["self", "depth"]) (c6 : MC K C "_fence" f6 d6 ["self", "depth"]) (c7 : MC K C "_grid" f7 d7 ["self", "depth"]) (c8 : MC K C "_cells" f8 d8 ["self", "depth", "many", "ends"]) :
    ∀ n, CalM P w K mg base (L2.CX P w) (6 * n + 4) C "_row" ["self", "depth", "stops"] (spRo K C CF CD FRow.d (RoRow n))
  | 0 => ⟨f1, d1, FnOk.vac fun vs H Q E ⟨_, _, _, _, _, _, _, _, _, _, ⟨_, _, _, _, h, _⟩, _⟩ => Nat.not_lt_zero _ h, c1.1, c1.2⟩
  | n + 1 => by
    have row := read_okx T C_peek C_accept C_symbol C_delimiter C_check_depth C_cell_stops F1 F2 F3 F4 F5 F6 F7 F8 c1 c2 c3 c4 c5 c6 c7 c8 n
    have braced : CalM P w K mg base (L2.CX P w) (6 * n + 5) C "_braced" ["self", "depth"] (spRo K C CF CD FRow.d (RoBr n)) := ⟨f4, d4, ok_rbracedx F4 T C_accept row, c4.1, c4.2⟩
    have arg : CalM P w K mg base (L2.CX P w) (6 * n + 6) C "_argument" ["self", "depth"] (spRo K C CF CD FRow.d (RoArg n)) := ⟨f5, d5, ok_argumentx F5 T C_peek C_symbol C_check_depth braced, c5.1, c5.2⟩
    have fence : CalM P w K mg base (L2.CX P w) (6 * n + 5) C "_fence" ["self", "depth"] (spRo K C CF CD FNuc.d (RoFe n)) := ⟨f6, d6, ok_rfencex F6 T C_accept C_delimiter row, c6.1, c6.2⟩
    have cells : CalM P w K mg base (L2.CX P w) (6 * n + 5) C "_cells" ["self", "depth", "many", "ends"] (spRo K C CF CD FCells.d (RoCells n)) := ⟨f8, d8, ok_rcellsx F8 T C_peek C_accept C_cell_stops row, c8.1, c8.2⟩
    have grid : CalM P w K mg base (L2.CX P w) (6 * n + 6) C "_grid" ["self", "depth"] (spRo K C CF CD FNuc.d (RoGrid n)) := ⟨f7, d7, ok_rgridx F7 T C_peek C_accept cells, c7.1, c7.2⟩
    have nuc : CalM P w K mg base (L2.CX P w) (6 * n + 7) C "_nucleus" ["self", "depth"] (spRo K C CF CD FNuc.d (RoNuc n)) := ⟨f3, d3, ok_rnucleusx F3 T C_peek C_accept C_symbol braced arg fence grid, c3.1, c3.2⟩
    have item : CalM P w K mg base (L2.CX P w) (6 * n + 8) C "_item" ["self", "depth"] (spRo K C CF CD FItem.d (RoItem n)) := ⟨f2, d2, ok_ritemx F2 T C_peek C_accept arg nuc, c2.1, c2.2⟩
    exact ⟨f1, d1, ok_rrowx F1 T C_peek C_check_depth item, c1.1, c1.2⟩
/-! parse -/
structure MkR (P : Program) (w : World) (K : PySem.W.Frag) (mg : Str → Option Value) (base : Heap) (C : Addr) : Prop where
  ex : ∃ (f : Addr) (fd : FuncData), FnOk P w K mg base CX0 5 f fd ["self", "text"] (spRInitX K C) ∧ Mk K C f ∧ Binds K fd ["self", "text"] []
theorem pe_mkR {X : Cx} {C : Addr} {p pos : Pos} {e : Expr} {es : List Expr} {t : TA} (M : MkR X.prog X.w X.K X.mg X.base C) (hr : Room 6 X.A) (hg : Gl X "Reader") (hm : X.mg "Reader" = some (.ref C)) (ha : PA X (e :: es) t)
    (he : starEach (e :: es) X.env = (false, eval e X.env) :: starEach es X.env := by rfl) (hpl : (backTo pos (starEach es X.env)).any (·.1) = false := by rfl) :
    PE X (.Call (.Name "Reader" p) (e :: es) [] pos) (tMake C (spRInitX X.K C) [] E0 t) := by
  obtain ⟨f, fd, F, mk, hb⟩ := M.ex
  exact pe_make mk F hr hg hm hb .nil pass0 ha (by decide) he hpl
structure TxtP (P : Program) (w : World) (K : PySem.W.Frag) (mg : Str → Option Value) (base : Heap) (C : Addr) : Prop extends TxtSrc mg where
  cl : Cls K C
  g_Reader : mg "Reader" = some (.ref C)
  mkR : MkR P w K mg base C
def large (r : FRow) : Bool := decide (80 < r.count) || decide (400 < (glueW r.words).length)
def parseR (t : Str) : PRes := if 400 < t.length then .long else match rowAt isSymbol (wsP (toksAt t.cps.toList 0)) 8 ["end"] 0 with
  | .ok r _ => if large r = true then .large else .ok r
  | .bad j => .bad (plc (toksAt t.cps.toList 0) j)
  | .deep => .deep
def PostP (K : PySem.W.Frag) (CF CD CL CG : Addr) (Q : VK) (E : XK) (H : Hp) : PRes → Prop
  | .ok r => ∀ v H', Same H H' → Tp K H' v r.d → Q v H'
  | .bad z => ∀ a H', Same H H' → H' a = some (.xd [("place", .int z)]) → E (.ref CF) (some a) H'
  | .deep => ∀ H', Same H H' → E (.ref CD) none H'
  | .large => ∀ H', Same H H' → E (.ref CL) none H'
  | .long => ∀ H', Same H H' → E (.ref CG) none H'
def spParseX (K : PySem.W.Frag) (CF CD CL CG : Addr) : Sp := fun vs H Q E => ∃ t : Str, vs = [.str t] ∧ t.length ≤ 1000 ∧ PostP K CF CD CL CG Q E H (parseR t)
theorem scParseX : FnScope ["text", "formula"] ["text"] (defScope sParse) := ⟨rfl, rfl, rfl, by decide +kernel, rfl, by decide +kernel, by decide +kernel⟩
theorem ok_parsex {f : Addr} {fd : FuncData} (F : Fun K "parse" "parse" sParse f fd) (T : TxtP P w K mg base C) (BG : ExB K mg "TooLong" CG) (C_read : CalM P w K mg base (L2.CX P w) 59 C "read" ["self"] (spRo K C CF CD FRow.d (RoRead 9))) (C_check_formula : Cal P w K mg base (L2.CX P w) 29 "check_formula" ["formula"] (spCheckFormula K 9 CD CL)) :
    FnOk P w K mg base (L2.CX P w) 60 f fd ["text"] (spParseX K CF CD CL CG) := by
  have sc := scParseX
  refine F.okX scParseX (fun vs H Q E h => ?_) (fun cdv A outer s H vs Q E hr h => ?_)
  · obtain ⟨t, rfl, _⟩ := h
    rfl
  · obtain ⟨t, rfl, t4, k⟩ := h
    refine ⟨_, (pss_cons (ps_if (pt_cmpR op_gt (pe_callB call_len_str (by rfl) T.b_len PySem.boot_len (pa_cons (pv 0) pa_nil)) (pe_gint rfl T.c_LONGEST) (nomark _))
  (pss_one (ps_raise rfl (takes_of rfl rfl rfl rfl) (pmk_own PySem.F.excBase_ValueError BG.x BG.g BG.k (raises_own BG.b BG.t) rfl)))
  pss_nil)
  (pss_cons (ps_set (i := 1) sc.nd rfl (Or.inl rfl) (pe_calm0 (pe_mkR T.mkR (hr.mono (by omega)) rfl T.g_Reader (pa_cons (pv 0) pa_nil)) T.cl C_read (hr.mono (by omega)) passX))
  (pss_cons (ps_expr (pe_cal C_check_formula (hr.mono (by omega)) rfl passX (pa_cons (pv 1) pa_nil)))
  (pss_one (ps_ret (pv 1)))))), ?_⟩
    have tst : ∀ (σ : L2.St), σ[0]? = some (some (.str t)) → EvDT K (tTest (tOp (rI0 fun i j => .bl (decide (i > j))) (tCB (fun xs H Q => ∃ s, xs = [V.str s] ∧ s.length ≤ sizeLine ∧ Q (V.int s.length) H) (tCons (tVar 0) tNil)) (tC (.int 400)))) σ H (decide ((t.length : Int) > 400)) := fun σ h => t_test (e_op (d1 := .int t.length) (fun H1 s1 Q q => ⟨_, h, t, rfl, sz5 (by omega), q _ H1 (.refl _) (.int _)⟩) e_int r_I0b)
    unfold parseR at k
    by_cases c : 400 < t.length
    · rw [if_pos c] at k
      refine q_yes (K := K) (b := decide ((t.length : Int) > 400)) ?_ (decide_eq_true (by omega)) fun H1 s1 => ?_
      · exact t_test (e_op (d1 := .int t.length) (fun H1 s1 Q q => ⟨_, rfl, t, rfl, sz5 (by omega), q _ H1 (.refl _) (.int _)⟩) e_int r_I0b)
      · exact k H1 s1
    rw [if_neg c] at k
    refine q_no (K := K) (b := decide ((t.length : Int) > 400)) (t_test (e_op (d1 := .int t.length) (fun H1 s1 Q q => ⟨_, rfl, t, rfl, sz5 (by omega), q _ H1 (.refl _) (.int _)⟩) e_int r_I0b)) (decide_eq_false (by omega)) fun H1 s1 => ?_
    refine ⟨_, rfl, fun x dx nx ndx ne => ?_⟩
    have hx : L2.upd (L2.upd H1 dx (.own x)) x (.ins C dx []) x = some (.ins C dx []) := upd_same
    refine ⟨x, dx, t, rfl, hx, by omega, fun tl H2 k2 a2 => ⟨rfl, ?_⟩⟩
    obtain ⟨dx2, hp2⟩ := a2.ob
    refine ⟨x, dx2, _, rfl, hp2, rf_no (by decide +kernel) (by decide +kernel), ?_⟩
    have sm : ∀ {H3 : Hp}, KeepB x (L2.upd (L2.upd H1 dx (.own x)) x (.ins C dx [])) H3 → Same H H3 := fun kb b o e => by
      have e := s1 _ _ e
      have n1 : b ≠ x := fun z => by
        rw [z, nx] at e
        cases e
      have n2 : b ≠ dx := fun z => by
        rw [z, ndx] at e
        cases e
      exact kb b o (by rw [upd_ne n1, upd_ne n2]; exact e) n1
    have good := rowAt_p (sy := isSymbol) (ws := wsP (toksAt t.cps.toList 0)) (fun x h => sym_len h) 8 ["end"] 0
    have fwd := rowAt_fwe (sy := isSymbol) (ws := wsP (toksAt t.cps.toList 0)) (ends_of (toks_last 0 (Nat.zero_le _))) 8 ["end"] 0 (by rw [wsP_len]; exact a2.lt)
    refine ⟨x, tl, toksAt t.cps.toList 0, 0, [], [], _, rfl, .nil, a2, ⟨rfl, by decide, rfl⟩, ?_⟩
    cases e : rowAt isSymbol (wsP (toksAt t.cps.toList 0)) 8 ["end"] 0 with
    | bad j =>
      rw [e] at k
      exact fun a H3 k3 h3 => k a H3 (sm (k2.trans k3)) h3
    | deep =>
      rw [e] at k
      exact fun H3 k3 => k H3 (sm (k2.trans k3))
    | ok r j =>
      rw [e] at k good fwd
      obtain ⟨g1, g2, g3⟩ := good
      have hj := fwd.2
      rw [wsP_len] at hj
      have := a2.sz
      refine fun v H3 k3 a3 t3 => ?_
      have s3 := sm (k2.trans k3)
      have kk : PostP K CF CD CL CG Q E H (if large r = true then .large else .ok r) := k
      refine ⟨_, rfl, v, r, rfl, t3, by omega, by omega, g2, fun d7 d8 d9 H4 s4 => ?_, fun d7 => by omega, fun d7 d8 H4 s4 => ?_⟩
      · have : large r = false := by
          unfold large
          rw [decide_eq_false (by omega), decide_eq_false (by omega)]
          rfl
        rw [this] at kk
        exact ⟨_, rfl, kk v H4 (s3.trans s4) (t3.stay (.of s4))⟩
      · have : large r = true := by
          unfold large
          rw [Bool.or_eq_true, decide_eq_true_iff, decide_eq_true_iff]
          exact d8
        rw [this] at kk
        exact kk H4 (s3.trans s4)
end
end
section
set_option Elab.async false
set_option linter.all false
set_option maxRecDepth 100000
set_option maxHeartbeats 1000000
open PySem L2
/-! texts made of words, and what parse makes of them -/
theorem app_cps (a b : Str) : (a ++ b).cps.toList = a.cps.toList ++ b.cps.toList := by
  show ((a.cps ++ b.cps)).toList = _
  simp
def tW (L : List Str) : List Nat := L.flatMap fun w => w.cps.toList
theorem tW_app (A B : List Str) : tW (A ++ B) = tW A ++ tW B := List.flatMap_append
def z0 (L : List Str) : List (Str × Nat) := L.map fun w => (w, 0)
theorem z0_txt : ∀ L : List Str, txt (z0 L) = tW L
  | [] => rfl
  | w :: r => by
    show w.cps.toList ++ (List.replicate 0 32 ++ txt (z0 r)) = w.cps.toList ++ tW r
    rw [z0_txt r]
    rfl
theorem z0_fst (L : List Str) : (z0 L).map Prod.fst = L := by
  unfold z0
  rw [List.map_map]
  exact List.map_id L
def twB (w : Str) : Bool := (match w.cps.toList with
  | [c] => decide (c ≠ 64) && (decide (c ∈ cSIGNS.cps.toList) || decide (c ∈ cMARKS.cps.toList))
  | _ => false) || isCommand w
theorem twB_ok {w : Str} (h : twB w = true) : Tw w := by
  unfold twB at h
  rw [Bool.or_eq_true] at h
  rcases h with h | h
  · split at h
    · rename_i c e
      simp only [Bool.and_eq_true, Bool.or_eq_true, decide_eq_true_eq] at h
      exact .inl ⟨c, e, h.1, h.2⟩
    · cases h
  · exact .inr h
def tokB : List Str → Bool
  | [] => true
  | [w] => twB w
  | w :: w' :: r => twB w && (!(isCommand w && headLet w') && tokB (w' :: r))
theorem tokB_ok : ∀ {L : List Str}, tokB L = true → TOk (z0 L)
  | [], _ => trivial
  | [w], h => ⟨twB_ok h, (fun _ _ _ e => nomatch e), trivial⟩
  | w :: w' :: r, h => by
    obtain ⟨h1, h2⟩ := Bool.and_eq_true_iff.mp (show (twB w && (!(isCommand w && headLet w') && tokB (w' :: r))) = true from h)
    obtain ⟨h2, h3⟩ := Bool.and_eq_true_iff.mp h2
    refine ⟨twB_ok h1, fun v k r' e c hl => ?_, tokB_ok h3⟩
    have e : (w', 0) :: z0 r = (v, k) :: r' := e
    cases e
    rw [c, hl] at h2
    cases h2
def ncB (L : List Str) : Bool := match L.getLast? with
  | some w => !isCommand w
  | none => true
theorem tokB_app : ∀ {A B : List Str}, tokB A = true → ncB A = true → tokB B = true → tokB (A ++ B) = true
  | [], B, _, _, h => h
  | [w], [], h, _, _ => h
  | [w], w' :: r, h, n, hb => by
    show (twB w && (!(isCommand w && headLet w') && tokB (w' :: r))) = true
    have h : twB w = true := h
    have n : (!isCommand w) = true := n
    have n : isCommand w = false := by simpa using n
    rw [h, hb, n]
    rfl
  | w :: w' :: r, B, h, n, hb => by
    have h : (twB w && (!(isCommand w && headLet w') && tokB (w' :: r))) = true := h
    obtain ⟨h1, h2⟩ := Bool.and_eq_true_iff.mp h
    obtain ⟨h2, h3⟩ := Bool.and_eq_true_iff.mp h2
    show (twB w && (!(isCommand w && headLet w') && tokB (w' :: r ++ B))) = true
    rw [h1, h2, tokB_app (A := w' :: r) h3 (by
      unfold ncB at n ⊢
      rw [List.getLast?_cons_cons] at n
      exact n) hb]
    rfl
theorem ncB_app {A B : List Str} (ha : ncB A = true) (hb : ncB B = true) : ncB (A ++ B) = true := by
  unfold ncB at ha hb ⊢
  rw [List.getLast?_append]
  cases e : B.getLast? with
  | none => exact ha
  | some w =>
    rw [e] at hb
    exact hb
structure OkW (L : List Str) : Prop where
  t : tokB L = true
  n : ncB L = true
theorem OkW.app {A B : List Str} (a : OkW A) (b : OkW B) : OkW (A ++ B) := ⟨tokB_app a.t a.n b.t, ncB_app a.n b.n⟩
theorem okW_nil : OkW [] := ⟨rfl, rfl⟩
theorem okW_bW : ∀ c, OkW (bW c)
  | 0 => ⟨by decide +kernel, by decide +kernel⟩
  | 1 => ⟨by decide +kernel, by decide +kernel⟩
  | 2 => ⟨by decide +kernel, by decide +kernel⟩
  | 3 => ⟨by decide +kernel, by decide +kernel⟩
  | 4 => ⟨by decide +kernel, by decide +kernel⟩
  | n + 5 => ⟨by show tokB (["@frac", "{", "}", "{"] : List Str) = true; decide +kernel, by show ncB (["@frac", "{", "}", "{"] : List Str) = true; decide +kernel⟩
theorem okW_eW : ∀ c, OkW (eW c)
  | 0 => ⟨by decide +kernel, by decide +kernel⟩
  | 1 => ⟨by decide +kernel, by decide +kernel⟩
  | 2 => ⟨by decide +kernel, by decide +kernel⟩
  | n + 3 => ⟨by show tokB (["}"] : List Str) = true; decide +kernel, by show ncB (["}"] : List Str) = true; decide +kernel⟩
theorem okW_ahead : ∀ cs, OkW (aheadW cs)
  | [] => okW_nil
  | c :: cs => (okW_bW c).app (okW_ahead cs)
theorem okW_behind : ∀ cs, OkW (behindW cs)
  | [] => okW_nil
  | c :: cs => (okW_behind cs).app (okW_eW c)
theorem okW_rep {B : List Str} (h : OkW B) : ∀ n, OkW (repW B n)
  | 0 => okW_nil
  | n + 1 => h.app (okW_rep h n)
/-- the kind of answer -/
def resO : Out FRow → Str
  | .ok r _ => if large r = true then "large" else "done"
  | .bad _ => "fault"
  | .deep => "deep"
def resP : PRes → Str
  | .ok _ => "done"
  | .bad _ => "fault"
  | .deep => "deep"
  | .large => "large"
  | .long => "long"
def kindO (t : Str) : Str := resP (parseR t)
theorem kind_long {t : Str} (h : 400 < t.length) : kindO t = "long" := by
  unfold kindO parseR
  rw [if_pos h]
  rfl
theorem kind_txt {t : Str} {ts : List (Str × Nat)} (e : t.cps.toList = txt ts) (tok : TOk ts) (hl : t.length ≤ 400) : kindO t = resO (rowAt isSymbol (ts.map Prod.fst ++ [("end" : Str)]) 8 ["end"] 0) := by
  unfold kindO parseR
  rw [if_neg (by omega)]
  have : wsP (toksAt t.cps.toList 0) = ts.map Prod.fst ++ [("end" : Str)] := toks_txt tok (by rw [List.drop_zero, e])
  rw [this]
  cases rowAt isSymbol (ts.map Prod.fst ++ [("end" : Str)]) 8 ["end"] 0 with
  | ok r j =>
    show resP (if large r = true then .large else .ok r) = if large r = true then ("large" : Str) else ("done" : Str)
    split <;> rfl
  | bad j => rfl
  | deep => rfl
theorem kind_ws {t : Str} {L : List Str} (e : t.cps.toList = tW L) (tok : tokB L = true) (hl : t.length ≤ 400) : kindO t = resO (rowAt isSymbol (L ++ [("end" : Str)]) 8 ["end"] 0) := by
  have := kind_txt (ts := z0 L) (by rw [z0_txt, e]) (tokB_ok tok) hl
  rw [z0_fst] at this
  exact this
/-! sizes of formulas -/
def isum (L : List FRow) : Int := (L.map fun q => (q.items.length : Int)).sum
theorem isum_app (A B : List FRow) : isum (A ++ B) = isum A + isum B := by
  unfold isum
  rw [List.map_append, List.sum_append_int]
theorem isum_cons (q : FRow) (B : List FRow) : isum (q :: B) = (q.items.length : Int) + isum B := by
  unfold isum
  rw [List.map_cons, List.sum_cons]
theorem count_eq (r : FRow) : r.count = (r.items.length : Int) + isum r.inn := isum_cons r r.inn
theorem count_cons (i : FItem) (r : FRow) : (FRow.cons i r).count = 1 + isum i.inn + r.count := by
  rw [count_eq, count_eq, FRow.items, List.length_cons, FRow.inn, isum_app]
  push_cast
  omega
theorem isum_nil : isum [] = 0 := rfl
theorem itK_inn : ∀ (c : Nat) (f : FRow), c < 6 → isum (itK c f).inn = f.count
  | 0, f, _ => by
    show isum ((f :: f.inn) ++ ([] ++ [])) = _
    rw [isum_app, isum_cons, count_eq]
    show _ + isum [] = _
    rw [isum_nil]
    omega
  | 1, f, _ => by
    show isum ((f :: f.inn) ++ ([] ++ [])) = _
    rw [isum_app, isum_cons, count_eq]
    show _ + isum [] = _
    rw [isum_nil]
    omega
  | 2, f, _ => by
    show isum ((f :: f.inn) ++ ([] ++ [])) = _
    rw [isum_app, isum_cons, count_eq]
    show _ + isum [] = _
    rw [isum_nil]
    omega
  | 3, f, _ => by
    show isum ([] ++ ([] ++ (f :: f.inn))) = _
    exact (isum_cons f f.inn).trans (count_eq f).symm
  | 4, f, _ => by
    show isum ((((f :: f.inn) ++ []) ++ []) ++ ([] ++ [])) = _
    rw [isum_app, isum_app, isum_app, isum_cons, count_eq]
    show _ + isum [] + isum [] + isum [] = _
    rw [isum_nil]
    omega
  | 5, f, _ => by
    show isum (((FRow.nil :: []) ++ (f :: f.inn)) ++ ([] ++ [])) = _
    rw [isum_app, isum_app, isum_cons, isum_cons, count_eq]
    show (0 : Int) + isum [] + _ + isum [] = _
    rw [isum_nil]
    omega
  | n + 6, f, h => by omega
theorem count_fml (m : FRow) : ∀ cs : List Nat, (∀ c ∈ cs, c < 6) → (fmlM m cs).count = (cs.length : Int) + m.count
  | [], _ => by
    show m.count = ((0 : Nat) : Int) + m.count
    omega
  | c :: cs, h => by
    show (FRow.cons (itK c (fmlM m cs)) .nil).count = _
    rw [count_cons, itK_inn c _ (h c List.mem_cons_self), count_fml m cs fun z hz => h z (List.mem_cons_of_mem _ hz), List.length_cons]
    show 1 + _ + (0 : Int) = _
    push_cast
    omega
theorem count_rep (it : FItem) : ∀ n : Nat, (repR it n).count = (n : Int) * (1 + isum it.inn)
  | 0 => by
    show (0 : Int) = ((0 : Nat) : Int) * _
    rw [Int.natCast_zero, Int.zero_mul]
  | n + 1 => by
    show (FRow.cons it (repR it n)).count = _
    rw [count_cons, count_rep it n, Int.natCast_succ, Int.add_mul, Int.one_mul]
    omega
theorem dep_fml (m : FRow) : ∀ cs : List Nat, (fmlM m cs).dep = cs.length + m.dep
  | [] => by
    show m.dep = 0 + m.dep
    omega
  | c :: cs => by
    have ih := dep_fml m cs
    have e : ∀ f : FRow, (itK c f).dep = f.dep + 1 := fun f => by
      match c with
      | 0 => show max (f.dep + 1) (max 0 0) = _; omega
      | 1 => show max (f.dep + 1) (max 0 0) = _; omega
      | 2 => show max (f.dep + 1) (max 0 0) = _; omega
      | 3 => show max 0 (max 0 (f.dep + 1)) = _; omega
      | 4 => show max (max (max (f.dep + 1) 0) 0) (max 0 0) = _; omega
      | n + 5 => show max (max (0 + 1) (f.dep + 1)) (max 0 0) = _; omega
    show max (itK c (fmlM m cs)).dep 0 = _
    rw [e, ih, List.length_cons]
    omega
/-- words with a space behind each -/
def wsum (L : List Str) : Nat := (L.map fun w => w.length + 1).sum
theorem wsum_app (A B : List Str) : wsum (A ++ B) = wsum A + wsum B := by
  unfold wsum
  rw [List.map_append, List.sum_append_nat]
theorem wsum_cons (w : Str) (B : List Str) : wsum (w :: B) = w.length + 1 + wsum B := by
  unfold wsum
  rw [List.map_cons, List.sum_cons]
theorem glue_wsum : ∀ L : List Str, (txt (spW L)).length ≤ wsum L
  | [] => Nat.le_refl _
  | [w] => by
    show (w.cps.toList ++ (List.replicate 0 32 ++ [])).length ≤ _
    rw [wsum_cons, List.length_append, str_len]
    show _ + 0 ≤ _
    omega
  | w :: w' :: r => by
    have ih := glue_wsum (w' :: r)
    rw [wsum_cons, spW]
    show (w.cps.toList ++ (List.replicate _ 32 ++ txt (spW (w' :: r)))).length ≤ _
    rw [List.length_append, List.length_append, List.length_replicate, str_len]
    have : (if (headLet w' && Txt.startswith w "@") = true then 1 else 0) ≤ 1 := by split <;> omega
    omega
theorem glue_len2 (L : List Str) : (glueW L).length ≤ wsum L := by
  rw [str_len, glue_txt]
  exact glue_wsum L
theorem wsum_itK : ∀ (c : Nat) (f : FRow), c < 6 → wsum (itK c f).words ≤ 18 + wsum f.words := fun c f h => by
  have w1 : ∀ {x : Str} {n : Nat}, x.length = n → ∀ B, wsum (x :: B) = n + 1 + wsum B := fun e B => by rw [wsum_cons, e]
  have nl : wsum [] = 0 := rfl
  have l1 : ("{" : Str).length = 1 := by decide +kernel
  have l2 : ("}" : Str).length = 1 := by decide +kernel
  have l3 : ("@root" : Str).length = 5 := by decide +kernel
  have l4 : ("@left" : Str).length = 5 := by decide +kernel
  have l5 : ("@right" : Str).length = 6 := by decide +kernel
  have l6 : (delimW none).length = 1 := by decide +kernel
  have l7 : ("x" : Str).length = 1 := by decide +kernel
  have l8 : ("^" : Str).length = 1 := by decide +kernel
  have l9 : ("@grid" : Str).length = 5 := by decide +kernel
  have l0 : ("@frac" : Str).length = 5 := by decide +kernel
  match c, h with
  | 0, _ =>
    show wsum ((("{" : Str) :: (f.words ++ [("}" : Str)])) ++ ([] ++ [])) ≤ _
    rw [wsum_app, wsum_app, w1 l1, wsum_app, w1 l2, nl]
    omega
  | 1, _ =>
    show wsum ((("@root" : Str) :: ("{" : Str) :: (f.words ++ [("}" : Str)])) ++ ([] ++ [])) ≤ _
    rw [wsum_app, wsum_app, w1 l3, w1 l1, wsum_app, w1 l2, nl]
    omega
  | 2, _ =>
    show wsum ((("@left" : Str) :: delimW none :: (f.words ++ [("@right" : Str), delimW none])) ++ ([] ++ [])) ≤ _
    rw [wsum_app, wsum_app, w1 l4, w1 l6, wsum_app, w1 l5, w1 l6, nl]
    omega
  | 3, _ =>
    show wsum ([("x" : Str)] ++ ([] ++ (("^" : Str) :: ("{" : Str) :: (f.words ++ [("}" : Str)])))) ≤ _
    rw [wsum_app, wsum_app, w1 l7, w1 l8, w1 l1, wsum_app, w1 l2, nl]
    omega
  | 4, _ =>
    show wsum ((("@grid" : Str) :: (((("{" : Str) :: (f.words ++ [])) ++ []) ++ [("}" : Str)])) ++ ([] ++ [])) ≤ _
    rw [wsum_app, wsum_app, w1 l9, wsum_app, wsum_app, w1 l1, wsum_app, w1 l2, nl]
    omega
  | 5, _ =>
    show wsum ((("@frac" : Str) :: ("{" : Str) :: ([] ++ (("}" : Str) :: ("{" : Str) :: (f.words ++ [("}" : Str)])))) ++ ([] ++ [])) ≤ _
    rw [wsum_app, wsum_app, w1 l0, w1 l1, wsum_app, w1 l2, w1 l1, wsum_app, w1 l2, nl]
    omega
  | n + 6, h => omega
theorem wsum_fml (m : FRow) : ∀ cs : List Nat, (∀ c ∈ cs, c < 6) → wsum (fmlM m cs).words ≤ 18 * cs.length + wsum m.words
  | [], _ => by
    show wsum m.words ≤ 18 * 0 + _
    omega
  | c :: cs, h => by
    have ih := wsum_fml m cs fun z hz => h z (List.mem_cons_of_mem _ hz)
    have := wsum_itK c (fmlM m cs) (h c List.mem_cons_self)
    show wsum ((itK c (fmlM m cs)).words ++ []) ≤ _
    rw [List.append_nil, List.length_cons]
    omega
theorem not_large {r : FRow} (h : r.count ≤ 80) (w : wsum r.words ≤ 400) : large r = false := by
  have := glue_len2 r.words
  unfold large
  rw [decide_eq_false (by omega), decide_eq_false (by omega)]
  rfl
theorem is_large {r : FRow} (h : 80 < r.count) : large r = true := by
  unfold large
  rw [decide_eq_true h]
  rfl
/-- the normal text of a repeated item, without spaces -/
theorem rep_words (it : FItem) : ∀ n, (repR it n).words = repW it.words n
  | 0 => rfl
  | n + 1 => by
    show it.words ++ (repR it n).words = it.words ++ repW it.words n
    rw [rep_words it n]
theorem starts_one {c : Nat} (h : Txt.startswith (⟨#[c]⟩ : Str) "@" = true) : c = 64 := by
  unfold Txt.startswith at h
  obtain ⟨_, h⟩ := Bool.and_eq_true_iff.mp h
  unfold PySem.Builtin.Str.subAt at h
  have h : ((#[c] : Array Nat).extract 0 (0 + ("@" : Str).length) == ("@" : Str).cps) = true := h
  have e : (("@" : Str)).length = 1 := by decide +kernel
  rw [e] at h
  have e2 : (#[c] : Array Nat).extract 0 (0 + 1) = #[c] := by simp
  have e3 : ("@" : Str).cps = #[64] := by decide +kernel
  rw [e2, e3] at h
  simpa using h
theorem tokB_spW : ∀ {L : List Str}, tokB L = true → txt (spW L) = tW L
  | [], _ => rfl
  | [w], _ => rfl
  | w :: w' :: r, h => by
    obtain ⟨h1, h2⟩ := Bool.and_eq_true_iff.mp (show (twB w && (!(isCommand w && headLet w') && tokB (w' :: r))) = true from h)
    obtain ⟨h2, h3⟩ := Bool.and_eq_true_iff.mp h2
    have z : (headLet w' && Txt.startswith w "@") = false := by
      cases hl : headLet w' with
      | false => rfl
      | true =>
        cases hs : Txt.startswith w "@" with
        | false => rfl
        | true =>
          rw [hl, Bool.and_true] at h2
          rcases twB_ok h1 with ⟨c, e, ne, _⟩ | hc
          · have := hs
            have e2 : w = ⟨#[c]⟩ := str_of_cps e
            rw [e2] at this
            exact absurd (starts_one this) ne
          · rw [hc] at h2
            cases h2
    rw [spW, z]
    show w.cps.toList ++ ([] ++ txt (spW (w' :: r))) = _
    rw [tokB_spW h3]
    rfl
theorem tW_rep (B : List Str) : ∀ n, (tW (repW B n)).length = n * (tW B).length
  | 0 => by
    rw [Nat.zero_mul]
    rfl
  | n + 1 => by
    show (tW (B ++ repW B n)).length = _
    rw [tW_app, List.length_append, tW_rep B n, Nat.succ_mul]
    omega
theorem glue_rep {it : FItem} (h : OkW it.words) (n : Nat) : (glueW (repR it n).words).length = n * (tW it.words).length := by
  rw [str_len, glue_txt, rep_words, tokB_spW (okW_rep h n).t, tW_rep]
theorem large_rep {it : FItem} (h : OkW it.words) (n : Nat) : large (repR it n) = (decide (80 < (n : Int) * (1 + isum it.inn)) || decide (400 < n * (tW it.words).length)) := by
  unfold large
  rw [count_rep, glue_rep h]
end
end Mg.Pm
namespace Mg
section
set_option Elab.async false
set_option linter.all false
set_option maxRecDepth 100000
set_option maxHeartbeats 4000000
open PySem PySem.Spec PyProof.Rows L2
/-! several clauses behind a suite, with or without a name for what is caught -/
abbrev Hdl := Addr → Value → Option Addr → TS
/-- the name of a clause is gone behind it -/
def Fade (i : Nat) (D : Ends) : Ends := { nx := fun τ G => D.nx (τ.set i none) G, rt := D.rt, bk := fun τ G => D.bk (τ.set i none) G, ct := fun τ G => D.ct (τ.set i none) G }
def wMix (K : PySem.W.Frag) (Wo : WX) (D : Ends) : List (Value × Option Nat × Hdl) → WX
  | [] => Wo
  | (c, none, t) :: r => fun k d τ G => ∃ y, PySem.W.exmOne K k c = some y ∧ (y = true → ∀ x, G x = none → t x k d D τ G) ∧ (y = false → wMix K Wo D r k d τ G)
  | (c, some i, t) :: r => fun k d τ G => ∃ y, PySem.W.exmOne K k c = some y ∧ (y = true → ∀ x, G x = none → t x k d (Fade i D) (τ.set i (some (.ref x))) G) ∧ (y = false → wMix K Wo D r k d τ G)
abbrev Held (X : Cx) (q : List Stmt) (t : Hdl) : Prop := ∀ (x : Addr) (ob : Obj) (k : Value) (d : Option Addr) (more : List (Addr × Obj)), Zc k d ob → (∃ vs, ob.data = .fields vs) → PSs (X.suite x ((x, ob) :: more)) q (t x k d)
inductive Mix (X : Cx) : List ExceptHandler → List (Value × Option Nat × Hdl) → Prop
  | nil : Mix X [] []
  | bare {x : Str} {c : Value} {t : Hdl} {q₀ : Stmt} {q : List Stmt} {p1 p2 : Pos} {hs : List ExceptHandler} {l : List (Value × Option Nat × Hdl)} (nm : Names X x c) (su : Held X (q₀ :: q) t) (r : Mix X hs l) :
      Mix X (.ExceptHandler (some (.Name x p1)) none (q₀ :: q) p2 :: hs) ((c, none, t) :: l)
  | named {x n : Str} {i : Nat} {c : Value} {t : Hdl} {q₀ : Stmt} {q : List Stmt} {p1 p2 : Pos} {hs : List ExceptHandler} {l : List (Value × Option Nat × Hdl)} (nm : Names X x c) (at' : X.N[i]? = some n) (lc : X.env.kindOf n = some .local) (su : Held X (q₀ :: q) t) (r : Mix X hs l) :
      Mix X (.ExceptHandler (some (.Name x p1)) (some n) (q₀ :: q) p2 :: hs) ((c, some i, t) :: l)
section
variable {X : Cx} {body : List Stmt} {h1 : ExceptHandler} {hs : List ExceptHandler} {l : List (Value × Option Nat × Hdl)} {pos : Pos} {tb : WX → TS} {Wo : WX}
theorem names_ld {pn : List (Addr × Obj)} {x : Str} {c : Value} (nm : Names X x c) {p : Pos} {a : Addr} {ob : Obj} {τ : L2.St} {G : Hp} {s : Shared} {Q E : Value → Shared → Prop}
    (J : Inv (X.suite a ((a, ob) :: pn)) [] τ G s) (k : Q c s) : wpAny (model X.prog X.w) (X.A.mark (some (.ref a))) (eval (.Name x p) X.env) Q E s := by
  rcases nm with ⟨g1, g2, g3 | ⟨g3, g4, g5⟩⟩
  · exact ld_glob (X := X.suite a ((a, ob) :: pn)) J g1 g3 k g2
  · exact ld_blt (X := X.suite a ((a, ob) :: pn)) J g1 g3 g4 k g5 g2
theorem ps_try_mix (st : X.stack = X.env :: X.outer) (fr : X.env.frame = some X.env.locals) (nd : X.N.Nodup) (tk : Takes X Wo)
    (hb : ∀ (W : WX) (pn : List (Addr × Obj)) (xe : Value → Shared → Prop), Takes (X.tr pn xe) W → PassesOwn (model X.prog X.w) X.A X.env xe → PSs (X.tr pn xe) body (tb W))
    (hh : Mix X (h1 :: hs) l) : PS X (.Try body (h1 :: hs) [] [] pos) (fun D τ G => tb (wMix X.K Wo D l) D τ G) := by
  refine ⟨fun pins s τ G D I h => ?_⟩
  have okI := I.ok
  have hA : X.A.frames = some (X.env :: X.outer) := okI.frames.trans (by rw [st])
  refine wpAny_Try_except ?_
  refine wpAny_mono ((hb (wMix X.K Wo D l) (X.pn ++ pins) (fun e s₁ => wpAny (model X.prog X.w) X.A (noteFrame e X.env) (fun _ s₂ =>
      wpAny (model X.prog X.w) X.A (setFlight e none) (fun _ s₃ => wpAny (model X.prog X.w) X.A (handleBy e X.env (h1 :: hs))
        (SP X pins D) X.xe s₃) X.xe s₂) X.xe s₁) (fun u s' xx => ?_) PassesOwn.looking).run [] s τ G D (I.toTry _) h) (fun fl s1 hp => ?_) fun e s1 he => he
  rotate_left
  · cases fl with
    | next =>
      obtain ⟨a1, a2, a3, a4⟩ := hp
      exact wpAny_execs_nil ⟨a1, a2, a3.ofTry okI, a4⟩
    | brk =>
      obtain ⟨a1, a2, a3, a4⟩ := hp
      exact ⟨a1, a2, a3.ofTry okI, a4⟩
    | cont =>
      obtain ⟨a1, a2, a3, a4⟩ := hp
      exact ⟨a1, a2, a3.ofTry okI, a4⟩
    | ret u =>
      obtain ⟨a0, a1, a2, a3, a4, a5⟩ := hp
      exact ⟨a0, a1, a2, a3.ofTry okI, a4, a5⟩
  obtain ⟨x, B, sI, pins', τ', G', k, d, rfl, J0, nb, up, sky, na, os, ag, w⟩ := xx
  have J : Inv X pins τ' G' sI := J0.ofTry okI
  show wpAny _ X.A (noteFrame (.ref x) X.env) _ _ _
  refine Sky.land Zc.steady hA fr (by rw [← st]; exact sky) fun hp3 F3 up3 => ?_
  have J3 : Inv X pins τ' G' { s' with heap := hp3 } := J.landed nb F3.1 (up.trans up3) os ag
  obtain ⟨ob, vs, eo, zo, fo⟩ := F3.there
  have off : x ∉ frs (X.env :: X.outer) := fun hm => by
    obtain ⟨_, o', e', nf⟩ := F3.2.2.1.mem hm
    rw [eo] at e'
    cases e'
    exact nf _ fo
  have nL : x ≠ X.env.locals := fun z => off (List.mem_filterMap.mpr ⟨X.env, List.mem_cons_self, fr.trans (by rw [z])⟩)
  have nF : x ∉ X.fs := fun hm => by
    obtain ⟨en, hen, q⟩ := List.mem_filterMap.mp hm
    exact off (List.mem_filterMap.mpr ⟨en, List.mem_cons_of_mem _ hen, q⟩)
  have S3 := J3.suite eo fo na nL nF
  have looks : PySem.W.Looks (model X.prog X.w) hp3 (typeOf (.ref x)) k := fun A Q E s kk q => wpAny_typeOf_ref (kk _ _ eo) (by rw [zo.1]; exact q)
  suffices go : ∀ {hds : List ExceptHandler} {ll : List (Value × Option Nat × Hdl)}, Mix X hds ll → wMix X.K Wo D ll k d τ' G' → wpAny (model X.prog X.w) X.A (handleBy (.ref x) X.env hds) (SP X pins D) X.xe { s' with heap := hp3 } from go hh w
  intro hds ll m
  induction m with
  | nil =>
    intro w
    refine wpAny_handleBy_nil ?_
    obtain ⟨_, _, _, oe, vs', T, oT, ts', he, hz, hd, hT, hr⟩ := id F3
    unfold PySem.passOn
    refine wpAny_bind (wpAny_field he hd hT ?_)
    rw [if_neg (by simp : ¬ ((Value.ref T == Value.none) = true))]
    have last : wpAny (model X.prog X.w) X.A (setFlight (.ref x) X.env.frame) (fun _ s4 => wpAny (model X.prog X.w) X.A (throw (.ref x) : Sem Flow) (SP X pins D) X.xe s4) X.xe { s' with heap := hp3 } := by
      rw [fr]
      exact HandSPX.setFlight_upZ F3 fun hp4 F4 up4 => wpAny_throw (tk _ _ ⟨x, B, sI, pins, τ', G', k, d, rfl, J, nb, (up.trans up3).trans up4, .inr (.inr (by rw [st]; exact F4)), na, os, ag, w⟩)
    first
      | exact wpAny_bind (wpAny_pure (wpAny_bind last))
      | exact wpAny_bind last
  | @bare xn c t q₀ q p1 p2 hds2 l2 nm su r ih =>
    rintro ⟨y, ey, hy, hn⟩
    refine wpAny_handleBy_cons (codeAny_handlers_test (names_ld nm S3 ((PySem.W.exm_one (M := model X.prog X.w) J3.kIn looks ey).here ?_))) fun z => nomatch z
    cases y with
    | false => exact ih (hn rfl)
    | true =>
      refine codeAny_handlers_suite (HandSPX.lands_againZ F3 fun hp4 F4 up4 => ?_)
      have J4 : Inv X pins τ' G' { s' with heap := hp4 } := J.landed nb F4.1 ((up.trans up3).trans up4) os ag
      obtain ⟨ob4, vs4, eo4, zo4, fo4⟩ := F4.there
      refine wpAny_mono ((su x ob4 k d (X.pn ++ pins) zo4 ⟨_, fo4⟩).run [] _ _ G' _ (J4.suite eo4 fo4 na nL nF) (hy rfl x na)) (fun fl s6 hp => ?_) fun _ _ z => z.elim
      cases fl with
      | next =>
        obtain ⟨a1, a2, a3, a4⟩ := hp
        exact ⟨_, _, a3.unsuite okI, a4⟩
      | brk =>
        obtain ⟨a1, a2, a3, a4⟩ := hp
        exact ⟨_, _, a3.unsuite okI, a4⟩
      | cont =>
        obtain ⟨a1, a2, a3, a4⟩ := hp
        exact ⟨_, _, a3.unsuite okI, a4⟩
      | ret u =>
        obtain ⟨a0, a1, a2, a3, a4, a5⟩ := hp
        exact ⟨_, _, _, a3.unsuite okI, a4, a5⟩
  | @named xn n i c t q₀ q p1 p2 hds2 l2 nm at' lc su r ih =>
    rintro ⟨y, ey, hy, hn⟩
    refine wpAny_handleBy_cons (codeAny_handlers_test (names_ld nm S3 ((PySem.W.exm_one (M := model X.prog X.w) J3.kIn looks ey).here ?_))) fun z => nomatch z
    cases y with
    | false => exact ih (hn rfl)
    | true =>
      refine codeAny_handlers_suite_as (HandSPX.lands_againZ F3 fun hp4 F4 up4 => ?_)
      have J4 : Inv X pins τ' G' { s' with heap := hp4 } := J.landed nb F4.1 ((up.trans up3).trans up4) os ag
      obtain ⟨ob4, vs4, eo4, zo4, fo4⟩ := F4.there
      refine store_ok (X := X.suite x ((x, ob4) :: (X.pn ++ pins))) (v := .ref x) (J4.suite eo4 fo4 na nL nF) nd at' (.inl lc) rfl (fun s5 J5 => ?_) (.inr lc)
      refine wpAny_mono ((su x ob4 k d (X.pn ++ pins) zo4 ⟨_, fo4⟩).run [] s5 _ G' _ J5 (hy rfl x na)) (fun fl s6 hp => ?_) fun _ _ z => z.elim
      have fin : ∀ {τ6 : L2.St} {G6 : Hp} {Q : Shared → Prop}, Inv (X.suite x ((x, ob4) :: (X.pn ++ pins))) [] τ6 G6 s6 → (∀ s7, Inv X pins (τ6.set i none) G6 s7 → Q s7) →
          wpAny (model X.prog X.w) X.A (do bindName X.env n .none; unbindBehindTheSuite X.env n p2) (fun _ s7 => Q s7) X.xe s6 := fun J6 kq => gone_ok (J6.unsuite okI) nd at' lc kq
      cases fl with
      | next =>
        obtain ⟨a1, a2, a3, a4⟩ := hp
        exact fin a3 fun s7 J7 => ⟨_, _, J7, a4⟩
      | brk =>
        obtain ⟨a1, a2, a3, a4⟩ := hp
        exact fin a3 fun s7 J7 => ⟨_, _, J7, a4⟩
      | cont =>
        obtain ⟨a1, a2, a3, a4⟩ := hp
        exact fin a3 fun s7 J7 => ⟨_, _, J7, a4⟩
      | ret u =>
        obtain ⟨a0, a1, a2, a3, a4, a5⟩ := hp
        exact fin a3 fun s7 J7 => ⟨_, _, _, J7, a4, a5⟩
end
end
end Mg
namespace Mg.Pm
section
set_option Elab.async false
set_option linter.all false
set_option maxRecDepth 100000
set_option maxHeartbeats 1000000
open PySem L2
/-! the law's texts, and what parse makes of them -/
abbrev x2W : List Str := ["x", "^", "2"]
abbrev ampW : List Str := ["&"]
abbrev g2W : List Str := ["@grid", "{", "&", "}"]
def begS : Nat → Str
  | 0 => "{"
  | 1 => "@root{"
  | 2 => "@left."
  | 3 => "x^{"
  | 4 => "@grid{"
  | _ => "@frac{}{"
def endS : Nat → Str
  | 2 => "@right."
  | _ => "}"
def aheadS : List Nat → Str
  | [] => ""
  | c :: cs => begS c ++ aheadS cs
def behindS : List Nat → Str
  | [] => ""
  | c :: cs => behindS cs ++ endS c
theorem begS_t : ∀ c, (begS c).cps.toList = tW (bW c)
  | 0 => by decide +kernel
  | 1 => by decide +kernel
  | 2 => by decide +kernel
  | 3 => by decide +kernel
  | 4 => by decide +kernel
  | n + 5 => by show ("@frac{}{" : Str).cps.toList = tW (["@frac", "{", "}", "{"] : List Str); decide +kernel
theorem endS_t : ∀ c, (endS c).cps.toList = tW (eW c)
  | 0 => by decide +kernel
  | 1 => by decide +kernel
  | 2 => by decide +kernel
  | n + 3 => by show ("}" : Str).cps.toList = tW (["}"] : List Str); decide +kernel
theorem aheadS_t : ∀ cs, (aheadS cs).cps.toList = tW (aheadW cs)
  | [] => by decide +kernel
  | c :: cs => by rw [aheadS, app_cps, aheadW, tW_app, begS_t, aheadS_t cs]
theorem behindS_t : ∀ cs, (behindS cs).cps.toList = tW (behindW cs)
  | [] => by decide +kernel
  | c :: cs => by rw [behindS, app_cps, behindW, tW_app, endS_t, behindS_t cs]
theorem begS_len : ∀ c, (begS c).length ≤ 8
  | 0 => by decide +kernel
  | 1 => by decide +kernel
  | 2 => by decide +kernel
  | 3 => by decide +kernel
  | 4 => by decide +kernel
  | n + 5 => by show ("@frac{}{" : Str).length ≤ 8; decide +kernel
theorem endS_len : ∀ c, (endS c).length ≤ 8
  | 0 => by decide +kernel
  | 1 => by decide +kernel
  | 2 => by decide +kernel
  | n + 3 => by show ("}" : Str).length ≤ 8; decide +kernel
theorem len_app (a b : Str) : (a ++ b).length = a.length + b.length := PySem.strLen_append a b
theorem aheadS_len : ∀ cs, (aheadS cs).length ≤ 8 * cs.length
  | [] => by decide +kernel
  | c :: cs => by
    have := begS_len c
    have := aheadS_len cs
    rw [aheadS, len_app, List.length_cons]
    omega
theorem behindS_len : ∀ cs, (behindS cs).length ≤ 8 * cs.length
  | [] => by decide +kernel
  | c :: cs => by
    have := endS_len c
    have := behindS_len cs
    rw [behindS, len_app, List.length_cons]
    omega
theorem at_top (L : List Str) : At (L ++ [("end" : Str)]) 0 (L ++ [("end" : Str)]) := by
  unfold At
  rw [List.drop_zero]
  exact List.prefix_refl _
theorem at_mid (A B C E : List Str) : At ((A ++ (B ++ C)) ++ E) A.length B := ⟨C ++ E, by rw [List.append_assoc A, List.drop_left, List.append_assoc]⟩
theorem end_stop : ∀ z ∈ ([("end" : Str)] : List Str), z ∈ stopWs := by decide +kernel
theorem res_ok {r : FRow} {j : Nat} (h : large r = false) : resO (.ok r j) = "done" := by
  show (if large r = true then ("large" : Str) else "done") = _
  rw [h]
  rfl
theorem res_large {r : FRow} {j : Nat} (h : large r = true) : resO (.ok r j) = "large" := by
  show (if large r = true then ("large" : Str) else "done") = _
  rw [h]
  rfl
def dueS (n : Nat) : Str := if 7 < n then "deep" else "done"
/-- nested rows that are read, at the top -/
theorem top_nest {L mid : List Str} {m : FRow} {cs : List Nat} {k : Nat} (eL : L = aheadW cs ++ (mid ++ behindW cs)) (hc : ∀ c ∈ cs, c < 6) (hk : k + cs.length = 7)
    (hm : ∀ (st : List Str) (i : Nat) (y : Str), At (L ++ [("end" : Str)]) i (mid ++ [y]) → y ∈ st → (∀ z ∈ st, z ∈ stopWs) → rowAt isSymbol (L ++ [("end" : Str)]) (k + 1) st i = .ok m (i + mid.length)) :
    ∃ j, rowAt isSymbol (L ++ [("end" : Str)]) 8 ["end"] 0 = .ok (fmlM m cs) j := by
  refine ⟨0 + (aheadW cs ++ (mid ++ behindW cs)).length, ?_⟩
  have h := nest_ok (k := k) hm cs hc ["end"] 0 "end" (by
    have := at_top L
    rw [eL] at this ⊢
    simpa only [List.append_assoc] using this) (by decide +kernel) end_stop
  rw [hk] at h
  exact h
theorem top_err {L rest : List Str} {cs : List Nat} {k : Nat} {e : EC} (eL : L = aheadW cs ++ rest) (hc : ∀ c ∈ cs, c < 6) (hk : k + cs.length = 8) (h0 : k = 0 → e = .deep) (hr : rowAt isSymbol (L ++ [("end" : Str)]) k (stLast ["end"] cs) (aheadW cs).length = e.out) :
    rowAt isSymbol (L ++ [("end" : Str)]) 8 ["end"] 0 = e.out := by
  have h := nest_err (ws := L ++ [("end" : Str)]) (k := k) (e := e) cs hc ["end"] 0 (by
    have := at_top L
    rw [eL, List.append_assoc] at this ⊢
    exact (at_app.mp this).1) end_stop h0 (by rw [Nat.zero_add]; exact hr)
  rw [hk] at h
  exact h
theorem top_deep {L rest : List Str} {cs : List Nat} (eL : L = aheadW cs ++ rest) (hc : ∀ c ∈ cs, c < 6) (hk : cs.length = 8) : rowAt isSymbol (L ++ [("end" : Str)]) 8 ["end"] 0 = .deep := top_err (k := 0) (e := .deep) eL hc (by omega) (fun _ => rfl) rfl
theorem stLast_stop : ∀ (cs : List Nat) (st : List Str), (∀ z ∈ st, z ∈ stopWs) → ∀ z ∈ stLast st cs, z ∈ stopWs
  | [], st, h => h
  | c :: cs, st, h => stLast_stop cs (stK c) (stK_stop c)
section
variable {cs : List Nat}
theorem hm_nil {ws : List Str} {k : Nat} : ∀ (st : List Str) (i : Nat) (y : Str), At ws i ([] ++ [y]) → y ∈ st → (∀ z ∈ st, z ∈ stopWs) → rowAt isSymbol ws (k + 1) st i = .ok .nil (i + 0) := fun st i y h hy _ => row_stop (by
  rw [hd_at (at_cons.mp h).1]
  exact hy)
theorem at_item {ws : List Str} {i : Nat} {B : List Str} {y : Str} (h : At ws i (B ++ [y])) (hy : y ∈ stopWs) : At ws i B ∧ hd ws (i + B.length) = y ∧ hd ws (i + B.length) ≠ "_" ∧ hd ws (i + B.length) ≠ "^" := by
  obtain ⟨h1, h2⟩ := at_app.mp h
  have e := hd_at (at_cons.mp h2).1
  refine ⟨h1, e, ?_⟩
  rw [e]
  exact stop_scr hy
def mX2 : FRow := .cons (.mk (.sym "x") .no (.yes (one "2"))) .nil
theorem hm_x2 {ws : List Str} {k : Nat} : ∀ (st : List Str) (i : Nat) (y : Str), At ws i (x2W ++ [y]) → y ∈ st → (∀ z ∈ st, z ∈ stopWs) → rowAt isSymbol ws (k + 1 + 1) st i = .ok mX2 (i + 3) := fun st i y h hy hst => by
  obtain ⟨h1, h2, h3, h4⟩ := at_item h (hst y hy)
  refine row_one (k := k + 1) ?_ (at_lt h1 (by simp)) (itXS i (by decide +kernel) (by decide +kernel) h1 h3 h4) ?_
  · rw [hd_at (at_cons.mp h1).1]
    exact fun z => absurd (hst _ z) (by decide +kernel)
  · have h2 : hd ws (i + 3) = y := h2
    rw [h2]
    exact hy
theorem kind_nest {t : Str} {L : List Str} (e : t.cps.toList = tW L) (ok : OkW L) (hl : t.length ≤ 400) : kindO t = resO (rowAt isSymbol (L ++ [("end" : Str)]) 8 ["end"] 0) := kind_ws e ok.t hl
theorem ok_x2 : OkW x2W := ⟨by decide +kernel, by decide +kernel⟩
theorem ok_amp : OkW ampW := ⟨by decide +kernel, by decide +kernel⟩
/-- ahead + behind -/
theorem f_plain (hc : ∀ c ∈ cs, c < 6) (hl : cs.length ≤ 8) : kindO (aheadS cs ++ behindS cs) = dueS cs.length := by
  have l1 := aheadS_len cs
  have l2 := behindS_len cs
  rw [kind_nest (L := aheadW cs ++ ([] ++ behindW cs)) (by rw [app_cps, aheadS_t, behindS_t, tW_app]; rfl) ((okW_ahead cs).app (okW_behind cs)) (by rw [len_app]; omega)]
  unfold dueS
  by_cases c : 7 < cs.length
  · rw [if_pos c, top_deep rfl hc (by omega)]
    rfl
  · rw [if_neg c]
    obtain ⟨j, h⟩ := top_nest (L := aheadW cs ++ ([] ++ behindW cs)) (mid := []) (m := .nil) (cs := cs) (k := 7 - cs.length) rfl hc (by omega) hm_nil
    rw [h]
    refine res_ok (not_large ?_ ?_)
    · rw [count_fml _ cs hc, show FRow.nil.count = 0 from rfl]
      omega
    · have := wsum_fml .nil cs hc
      have : wsum FRow.nil.words = 0 := rfl
      omega
/-- the formula itself -/
def chkO (r : FRow) : Str := if 7 < r.dep then "deep" else if large r = true then "large" else "done"
theorem f_checked (hc : ∀ c ∈ cs, c < 6) (hl : cs.length ≤ 8) : chkO (fmlM .nil cs) = dueS cs.length := by
  unfold chkO dueS
  rw [dep_fml, show FRow.nil.dep = 0 from rfl, Nat.add_zero]
  by_cases c : 7 < cs.length
  · rw [if_pos c, if_pos c]
  · rw [if_neg c, if_neg c, not_large, if_neg (by decide)]
    · rw [count_fml _ cs hc, show FRow.nil.count = 0 from rfl]
      omega
    · have := wsum_fml .nil cs hc
      have : wsum FRow.nil.words = 0 := rfl
      omega
/-- ahead + x^2 + behind -/
theorem f_x2 (hc : ∀ c ∈ cs, c < 6) (hl : cs.length ≤ 8) : kindO ((aheadS cs ++ "x^2") ++ behindS cs) = (if 6 < cs.length then ("deep" : Str) else ("done" : Str)) := by
  have l1 := aheadS_len cs
  have l2 := behindS_len cs
  have l3 : ("x^2" : Str).length = 3 := by decide +kernel
  rw [kind_nest (L := aheadW cs ++ (x2W ++ behindW cs)) (by rw [app_cps, app_cps, aheadS_t, behindS_t, tW_app, tW_app, List.append_assoc]; rfl) ((okW_ahead cs).app (ok_x2.app (okW_behind cs))) (by rw [len_app, len_app]; omega)]
  by_cases c : 6 < cs.length
  · rw [if_pos c]
    by_cases c8 : cs.length = 8
    · rw [top_deep rfl hc c8]
      rfl
    · have at1 : At ((aheadW cs ++ (x2W ++ behindW cs)) ++ [("end" : Str)]) (aheadW cs).length x2W := at_mid _ _ _ _
      rw [top_err (k := 1) (e := .deep) rfl hc (by omega) (fun _ => rfl) (row_err (k := 0) (e := .deep) (fun z => absurd (stLast_stop cs _ end_stop _ z) (by rw [hd_at (at_cons.mp at1).1]; decide +kernel)) (itXD _ (by decide +kernel) (by decide +kernel) at1))]
      rfl
  · rw [if_neg c]
    have hm := @hm_x2 ((aheadW cs ++ (x2W ++ behindW cs)) ++ [("end" : Str)]) (6 - cs.length)
    rw [show 6 - cs.length + 1 = 7 - cs.length by omega] at hm
    obtain ⟨j, h⟩ := top_nest (L := aheadW cs ++ (x2W ++ behindW cs)) (mid := x2W) (m := mX2) (cs := cs) (k := 7 - cs.length) rfl hc (by omega) hm
    rw [h]
    refine res_ok (not_large ?_ ?_)
    · rw [count_fml _ cs hc, show mX2.count = 2 by decide +kernel]
      omega
    · have := wsum_fml mX2 cs hc
      have : wsum mX2.words = 10 := by decide +kernel
      omega
theorem ahead_snoc (c : Nat) : ∀ cs, aheadW (cs ++ [c]) = aheadW cs ++ bW c
  | [] => by
    show bW c ++ [] = [] ++ bW c
    simp
  | d :: cs => by
    show bW d ++ aheadW (cs ++ [c]) = (bW d ++ aheadW cs) ++ bW c
    rw [ahead_snoc c cs, List.append_assoc]
theorem behind_snoc (c : Nat) : ∀ cs, behindW (cs ++ [c]) = eW c ++ behindW cs
  | [] => by
    show [] ++ eW c = eW c ++ []
    simp
  | d :: cs => by
    show behindW (cs ++ [c]) ++ eW d = eW c ++ (behindW cs ++ eW d)
    rw [behind_snoc c cs, List.append_assoc]
theorem stLast_snoc (c : Nat) : ∀ (cs : List Nat) (st : List Str), stLast st (cs ++ [c]) = stK c
  | [], st => rfl
  | d :: cs, st => stLast_snoc c cs (stK d)
def mG2 : FRow := .cons (.mk (.grid (.cons (.cons .nil (.cons .nil .nil)) .nil)) .no .no) .nil
theorem hm_g2 {ws : List Str} {k : Nat} : ∀ (st : List Str) (i : Nat) (y : Str), At ws i (g2W ++ [y]) → y ∈ st → (∀ z ∈ st, z ∈ stopWs) → rowAt isSymbol ws (k + 1 + 1) st i = .ok mG2 (i + 4) := fun st i y h hy hst => by
  obtain ⟨h1, h2, h3, h4⟩ := at_item h (hst y hy)
  obtain ⟨w1, w2⟩ := at_cons.mp h1
  obtain ⟨w2, w3⟩ := at_cons.mp w2
  obtain ⟨w3, w4⟩ := at_cons.mp w3
  obtain ⟨w4, _⟩ := at_cons.mp w4
  refine row_one (k := k + 1) ?_ (at_lt h1 (by simp)) (j := i + 4) (it := .mk (.grid (.cons (.cons .nil (.cons .nil .nil)) .nil)) .no .no) (item_of ?_ h3 h4) ?_
  · rw [hd_at w1]
    exact fun z => absurd (hst _ z) (by decide +kernel)
  · have len : ∃ n, ws.length = n + 1 := ⟨ws.length - 1, by have := at_lt h1 (by simp); omega⟩
    obtain ⟨n, en⟩ := len
    unfold nucO gridO acc
    rw [hd_at w1, if_neg (by decide +kernel), if_neg (by decide +kernel), if_neg (by decide +kernel), if_neg (by decide +kernel), if_pos rfl, if_pos rfl, ok_bind, if_pos (hd_at w2), ok_bind]
    unfold cellsO
    rw [row_stop (by rw [hd_at w3]; decide +kernel), ok_bind, hd_at w3, if_pos rfl, en]
    unfold cellsO
    rw [row_stop (by rw [hd_at w4]; decide +kernel), ok_bind, hd_at w4, if_neg (by decide +kernel), ok_bind, ok_bind]
    unfold gridR
    rw [hd_at w4, if_neg (by decide +kernel), ok_bind, if_pos (hd_at w4)]
    rfl
  · have h2 : hd ws (i + 4) = y := h2
    rw [h2]
    exact hy
/-- ahead + & + behind -/
theorem f_amp (hc : ∀ c ∈ cs, c < 6) (hl : cs.length ≤ 8) (hn : cs ≠ []) : kindO ((aheadS cs ++ "&") ++ behindS cs) = dueS cs.length ∨ kindO ((aheadS cs ++ "&") ++ behindS cs) = "fault" := by
  have l1 := aheadS_len cs
  have l2 := behindS_len cs
  have l3 : ("&" : Str).length = 1 := by decide +kernel
  rw [kind_nest (L := aheadW cs ++ (ampW ++ behindW cs)) (by rw [app_cps, app_cps, aheadS_t, behindS_t, tW_app, tW_app, List.append_assoc]; rfl) ((okW_ahead cs).app (ok_amp.app (okW_behind cs))) (by rw [len_app, len_app]; omega)]
  by_cases c8 : cs.length = 8
  · left
    rw [top_deep rfl hc c8, dueS, if_pos (by omega)]
    rfl
  obtain ⟨ds, c, rfl⟩ : ∃ ds c, cs = ds ++ [c] := ⟨cs.dropLast, cs.getLast hn, (List.dropLast_concat_getLast hn).symm⟩
  rw [List.length_append, List.length_singleton] at hl c8 ⊢
  have hd' : ∀ c ∈ ds, c < 6 := fun z hz => hc z (List.mem_append_left _ hz)
  by_cases c4 : c = 4
  · left
    subst c4
    have eL : aheadW (ds ++ [4]) ++ (ampW ++ behindW (ds ++ [4])) = aheadW ds ++ (g2W ++ behindW ds) := by
      rw [ahead_snoc, behind_snoc, List.append_assoc]
      rfl
    rw [eL, dueS, if_neg (by omega)]
    have hm := @hm_g2 ((aheadW ds ++ (g2W ++ behindW ds)) ++ [("end" : Str)]) (6 - ds.length)
    rw [show 6 - ds.length + 1 = 7 - ds.length by omega] at hm
    obtain ⟨j, h⟩ := top_nest (L := aheadW ds ++ (g2W ++ behindW ds)) (mid := g2W) (m := mG2) (cs := ds) (k := 7 - ds.length) rfl hd' (by omega) hm
    rw [h]
    refine res_ok (not_large ?_ ?_)
    · rw [count_fml _ ds hd', show mG2.count = 1 by decide +kernel]
      omega
    · have := wsum_fml mG2 ds hd'
      have : wsum mG2.words = 12 := by decide +kernel
      omega
  · right
    have at1 : At ((aheadW (ds ++ [c]) ++ (ampW ++ behindW (ds ++ [c]))) ++ [("end" : Str)]) (aheadW (ds ++ [c])).length ampW := at_mid _ _ _ _
    have e1 := hd_at (at_cons.mp at1).1
    obtain ⟨k, hk⟩ : ∃ k, k + 1 + (ds ++ [c]).length = 8 := ⟨7 - (ds ++ [c]).length, by rw [List.length_append, List.length_singleton]; omega⟩
    rw [top_err (k := k + 1) (e := .bad (aheadW (ds ++ [c])).length) rfl hc hk (fun z => by omega) (row_err (k := k) (e := .bad (aheadW (ds ++ [c])).length) (fun z => ?_) (item_err (e := .bad (aheadW (ds ++ [c])).length) (nuc_bad (by rw [e1]; decide +kernel) (by rw [e1]; decide +kernel))))]
    · rfl
    · rw [e1, stLast_snoc] at z
      have : ∀ c, c ≠ 4 → ("&" : Str) ∉ stK c := fun c h => by
        match c, h with
        | 0, _ => decide +kernel
        | 1, _ => decide +kernel
        | 2, _ => decide +kernel
        | 3, _ => decide +kernel
        | 4, h => exact absurd rfl h
        | n + 5, _ => show ("&" : Str) ∉ (["}"] : List Str); decide +kernel
      exact this c c4 z
/-- & + ahead + behind -/
theorem f_amp0 (hl : cs.length ≤ 8) : kindO (("&" ++ aheadS cs) ++ behindS cs) = "fault" := by
  have l1 := aheadS_len cs
  have l2 := behindS_len cs
  have l3 : ("&" : Str).length = 1 := by decide +kernel
  rw [kind_nest (L := ampW ++ (aheadW cs ++ behindW cs)) (by rw [app_cps, app_cps, aheadS_t, behindS_t, tW_app, tW_app, List.append_assoc]; rfl) (ok_amp.app ((okW_ahead cs).app (okW_behind cs))) (by rw [len_app, len_app]; omega)]
  have e1 : hd ((ampW ++ (aheadW cs ++ behindW cs)) ++ [("end" : Str)]) 0 = "&" := rfl
  rw [row_err (k := 7) (e := .bad 0) (by rw [e1]; decide +kernel) (item_err (e := .bad 0) (nuc_bad (by rw [e1]; decide +kernel) (by rw [e1]; decide +kernel)))]
  rfl
/-- ahead + behind + & -/
theorem f_ampZ (hc : ∀ c ∈ cs, c < 6) (hl : cs.length ≤ 8) (hn : cs ≠ []) : kindO ((aheadS cs ++ behindS cs) ++ "&") = (if 7 < cs.length then ("deep" : Str) else ("fault" : Str)) := by
  have l1 := aheadS_len cs
  have l2 := behindS_len cs
  have l3 : ("&" : Str).length = 1 := by decide +kernel
  rw [kind_nest (L := aheadW cs ++ (behindW cs ++ ampW)) (by rw [app_cps, app_cps, aheadS_t, behindS_t, tW_app, tW_app, List.append_assoc]; rfl) ((okW_ahead cs).app ((okW_behind cs).app ok_amp)) (by rw [len_app, len_app]; omega)]
  by_cases c8 : 7 < cs.length
  · rw [if_pos c8, top_deep rfl hc (by omega)]
    rfl
  rw [if_neg c8]
  cases cs with
  | nil => exact absurd rfl hn
  | cons c ds =>
    have hc' : ∀ c ∈ ds, c < 6 := fun z hz => hc z (List.mem_cons_of_mem _ hz)
    rw [List.length_cons] at c8
    have a0 := at_top (aheadW (c :: ds) ++ (behindW (c :: ds) ++ ampW))
    have a1 : At ((aheadW (c :: ds) ++ (behindW (c :: ds) ++ ampW)) ++ [("end" : Str)]) 0 (aheadW (c :: ds) ++ ([] ++ (behindW (c :: ds) ++ [("&" : Str)]))) := (at_app.mp a0).1
    have it := nest_item (k := 6) (dp := (7 == 0)) (y := "&") (hc c List.mem_cons_self) (mid := []) (m := .nil) (fun st i y h hy hst => by
      have := nest_ok (k := 6 - ds.length) (m := .nil) (mid := []) hm_nil ds hc' st i y h hy hst
      rw [show 6 - ds.length + ds.length + 1 = 6 + 1 by omega] at this
      exact this) a1 (by decide +kernel) (by decide +kernel)
    have e2 : hd ((aheadW (c :: ds) ++ (behindW (c :: ds) ++ ampW)) ++ [("end" : Str)]) (0 + (aheadW (c :: ds) ++ ([] ++ behindW (c :: ds))).length) = "&" := by
      have h : At ((aheadW (c :: ds) ++ (behindW (c :: ds) ++ ampW)) ++ [("end" : Str)]) 0 ((aheadW (c :: ds) ++ ([] ++ behindW (c :: ds))) ++ [("&" : Str)]) := by
        simpa only [List.append_assoc] using a1
      exact hd_at (at_cons.mp (at_app.mp h).2).1
    obtain ⟨x, r, e, fx⟩ := bW_hd c
    have h0 : hd ((aheadW (c :: ds) ++ (behindW (c :: ds) ++ ampW)) ++ [("end" : Str)]) 0 = x := by
      show hd (((bW c ++ aheadW ds) ++ (behindW (c :: ds) ++ ampW)) ++ [("end" : Str)]) 0 = x
      rw [e]
      rfl
    rw [row_errB (k := 7) (e := .bad (0 + (aheadW (c :: ds) ++ ([] ++ behindW (c :: ds))).length)) (by rw [h0]; exact fun z => fx.1 (end_stop _ z)) (at_lt a0 (by simp)) it (by rw [e2]; decide +kernel) (item_err (e := .bad (0 + (aheadW (c :: ds) ++ ([] ++ behindW (c :: ds))).length)) (nuc_bad (by rw [e2]; decide +kernel) (by rw [e2]; decide +kernel)))]
    rfl
end
end
section
set_option Elab.async false
set_option linter.all false
set_option maxRecDepth 100000
set_option maxHeartbeats 1000000
open PySem L2
/-! texts of repeated parts -/
theorem fold_cps (x : Array Nat) : ∀ (n : Nat) (a : Array Nat), ((List.replicate n x).foldl (· ++ ·) a).toList = a.toList ++ (List.replicate n x.toList).flatten
  | 0, a => by simp
  | n + 1, a => by
    rw [List.replicate_succ, List.foldl_cons, fold_cps x n (a ++ x), List.replicate_succ, List.flatten_cons]
    simp
theorem mul_cps (x : Str) (n : Nat) : (Txt.mul x (n : Int)).cps.toList = (List.replicate n x.cps.toList).flatten := by
  unfold Txt.mul
  by_cases h0 : (n : Int) < 1
  · rw [if_pos h0]
    have : n = 0 := by omega
    subst this
    rfl
  rw [if_neg h0]
  by_cases h1 : ((n : Int) == 1 || x.length == 0) = true
  · rw [if_pos h1]
    rw [Bool.or_eq_true] at h1
    rcases h1 with h1 | h1
    · have : n = 1 := by
        have : (n : Int) = 1 := by simpa using h1
        omega
      subst this
      simp
    · have h1 : x.length = 0 := by simpa using h1
      rw [str_len] at h1
      have e := List.eq_nil_of_length_eq_zero h1
      rw [e]
      simp
  · rw [if_neg h1]
    show ((List.replicate (n : Int).toNat x.cps).foldl (· ++ ·) #[]).toList = _
    rw [fold_cps]
    simp
theorem tW_mul {x : Str} {B : List Str} (h : x.cps.toList = tW B) : ∀ n : Nat, (Txt.mul x (n : Int)).cps.toList = tW (repW B n) := fun n => by
  rw [mul_cps, h]
  induction n with
  | zero => rfl
  | succ n ih => rw [List.replicate_succ, List.flatten_cons, ih, repW, tW_app]
theorem mul_len (x : Str) (n : Nat) : (Txt.mul x (n : Int)).length = n * x.length := by
  rw [str_len, mul_cps, str_len, List.length_flatten, List.map_replicate, List.sum_replicate_nat]
def lrg (b : Bool) : Str := if b = true then "large" else "done"
theorem res_eq {r : FRow} {j : Nat} : resO (.ok r j) = lrg (large r) := rfl
theorem okW1 {x : Str} (h : tokB [x] = true) (n : ncB [x] = true) : OkW [x] := ⟨h, n⟩
/-- a block again and again, at the top -/
theorem top_rep {B : List Str} {it : FItem} {b : Str} {br : List Str} (eB : B = b :: br) (fb : firstOk b) (n : Nat) (hB : ∀ i, At (repW B n ++ [("end" : Str)]) i B → hd (repW B n ++ [("end" : Str)]) (i + B.length) ≠ "_" → hd (repW B n ++ [("end" : Str)]) (i + B.length) ≠ "^" → itemO isSymbol (repW B n ++ [("end" : Str)]) (rowAt isSymbol (repW B n ++ [("end" : Str)]) 7) false i = .ok it (i + B.length)) :
    ∃ j, rowAt isSymbol (repW B n ++ [("end" : Str)]) 8 ["end"] 0 = .ok (repR it n) j := ⟨_, rep_rowAt (k := 7) eB fb hB n 0 (at_top _) (by decide +kernel) end_stop⟩
def itx : FItem := .mk (.sym "x") .no .no
abbrev xW : List Str := ["x"]
theorem ok_x : OkW xW := ⟨by decide +kernel, by decide +kernel⟩
theorem xS_t : ("x" : Str).cps.toList = tW xW := by decide +kernel
theorem large_x (n : Nat) (h : n ≤ 200) : large (repR itx n) = decide (80 < n) := by
  rw [large_rep (it := itx) ok_x n, show isum itx.inn = 0 by decide +kernel, show (tW itx.words).length = 1 by decide +kernel, decide_eq_false (show ¬ 400 < n * 1 by omega), Bool.or_false]
  exact decide_eq_decide.mpr (by omega)
theorem f_x (n : Nat) (h : n ≤ 200) : kindO (Txt.mul "x" (n : Int)) = lrg (decide (80 < n)) := by
  rw [kind_ws (L := repW xW n) (tW_mul xS_t n) (okW_rep ok_x n).t (by rw [mul_len, show ("x" : Str).length = 1 by decide +kernel]; omega)]
  obtain ⟨j, e⟩ := top_rep (B := xW) (it := itx) rfl (by decide +kernel) n fun i h1 h2 h3 => itX i (by decide +kernel) h1 h2 h3
  rw [e, res_eq, large_x n h]
theorem f_root (n : Nat) (h : n ≤ 200) : kindO (("@root{" ++ Txt.mul "x" (n : Int)) ++ "}") = lrg (decide (80 < n + 1)) := by
  rw [kind_ws (L := aheadW [1] ++ (repW xW n ++ behindW [1])) (by
    rw [app_cps, app_cps, tW_mul xS_t n, tW_app, tW_app, ← List.append_assoc]
    congr 1) ((okW_ahead [1]).app ((okW_rep ok_x n).app (okW_behind [1]))).t (by rw [len_app, len_app, mul_len, show ("x" : Str).length = 1 by decide +kernel, show ("@root{" : Str).length = 6 by decide +kernel, show ("}" : Str).length = 1 by decide +kernel]; omega)]
  obtain ⟨j, e⟩ := top_nest (L := aheadW [1] ++ (repW xW n ++ behindW [1])) (mid := repW xW n) (m := repR itx n) (cs := [1]) (k := 6) rfl (by decide) rfl fun st i y h1 h2 h3 => rep_rowAt (k := 6) (B := xW) (it := itx) rfl (by decide +kernel) (fun i h1 h2 h3 => itX i (by decide +kernel) h1 h2 h3) n i h1 h2 h3
  rw [e, res_eq]
  congr 1
  by_cases c : 80 < n + 1
  · rw [decide_eq_true c]
    refine is_large ?_
    rw [count_fml _ _ (by decide), count_rep, show isum itx.inn = 0 by decide +kernel]
    show (80 : Int) < ((1 : Nat) : Int) + _
    omega
  · rw [decide_eq_false c]
    refine not_large ?_ ?_
    · rw [count_fml _ _ (by decide), count_rep, show isum itx.inn = 0 by decide +kernel]
      show ((1 : Nat) : Int) + _ ≤ _
      omega
    · have := wsum_fml (repR itx n) [1] (by decide)
      have e : wsum (repR itx n).words = n * 2 := by
        rw [rep_words]
        have : ∀ n, wsum (repW itx.words n) = n * 2 := fun n => by
          induction n with
          | zero => rfl
          | succ n ih =>
            rw [repW, wsum_app, ih, show wsum itx.words = 2 by decide +kernel]
            omega
        exact this n
      rw [e] at this
      have : ([1] : List Nat).length = 1 := rfl
      omega
theorem f_sp (n : Nat) (h : n ≤ 600) : kindO ("x" ++ Txt.mul " " (n : Int)) = if 400 < n + 1 then ("long" : Str) else ("done" : Str) := by
  have l : ("x" ++ Txt.mul " " (n : Int)).length = n + 1 := by
    rw [len_app, mul_len, show ("x" : Str).length = 1 by decide +kernel, show (" " : Str).length = 1 by decide +kernel]
    omega
  by_cases c : 400 < n + 1
  · rw [if_pos c, kind_long (by omega)]
  · rw [if_neg c]
    have e : ("x" ++ Txt.mul " " (n : Int)).cps.toList = txt [(("x" : Str), n)] := by
      rw [app_cps, mul_cps]
      show _ = ("x" : Str).cps.toList ++ (List.replicate n 32 ++ [])
      rw [List.append_nil, show (" " : Str).cps.toList = [32] by decide +kernel]
      congr 1
      have : ∀ n : Nat, (List.replicate n [32]).flatten = List.replicate n 32 := fun n => by
        induction n with
        | zero => rfl
        | succ n ih => rw [List.replicate_succ, List.flatten_cons, ih, List.replicate_succ]; rfl
      exact this n
    rw [kind_txt e ⟨twB_ok (by decide +kernel), (fun _ _ _ z => nomatch z), trivial⟩ (by omega)]
    obtain ⟨j, e⟩ := top_rep (B := xW) (it := itx) rfl (by decide +kernel) 1 fun i h1 h2 h3 => itX i (by decide +kernel) h1 h2 h3
    have e : rowAt isSymbol ([("x" : Str)] ++ [("end" : Str)]) 8 ["end"] 0 = .ok (repR itx 1) j := e
    show resO (rowAt isSymbol ([("x" : Str)] ++ [("end" : Str)]) 8 ["end"] 0) = _
    rw [e, res_eq, large_x 1 (by decide)]
    rfl
def itw : FItem := .mk (.sym "@abcdefgh") .no (.yes (one "x"))
abbrev wideW : List Str := ["@abcdefgh", "^", "x"]
theorem f_wide (n : Nat) (h : n ≤ 36) : kindO (Txt.mul "@abcdefgh^x" (n : Int)) = lrg (decide (400 < 13 * n)) := by
  rw [kind_ws (L := repW wideW n) (tW_mul (by decide +kernel) n) (okW_rep ⟨by decide +kernel, by decide +kernel⟩ n).t (by rw [mul_len, show ("@abcdefgh^x" : Str).length = 11 by decide +kernel]; omega)]
  obtain ⟨j, e⟩ := top_rep (B := wideW) (it := itw) rfl (by decide +kernel) n fun i h1 h2 h3 => itXS i (by decide +kernel) (by decide +kernel) h1 h2 h3
  rw [e, res_eq, large_rep (it := itw) ⟨by decide +kernel, by decide +kernel⟩ n, show isum itw.inn = 1 by decide +kernel, show (tW itw.words).length = 13 by decide +kernel, decide_eq_false (show ¬ (80 : Int) < (n : Int) * (1 + 1) by omega), Bool.false_or]
  congr 1
  exact decide_eq_decide.mpr (by omega)
def ity : FItem := .mk (.sym "x") .no (.yes (one "x"))
abbrev xxW : List Str := ["x", "^", "x"]
theorem f_xx (n : Nat) (h : n ≤ 50) : kindO (Txt.mul "x^x" (n : Int)) = lrg (decide (40 < n)) := by
  rw [kind_ws (L := repW xxW n) (tW_mul (by decide +kernel) n) (okW_rep ⟨by decide +kernel, by decide +kernel⟩ n).t (by rw [mul_len, show ("x^x" : Str).length = 3 by decide +kernel]; omega)]
  obtain ⟨j, e⟩ := top_rep (B := xxW) (it := ity) rfl (by decide +kernel) n fun i h1 h2 h3 => itXS i (by decide +kernel) (by decide +kernel) h1 h2 h3
  rw [e, res_eq, large_rep (it := ity) ⟨by decide +kernel, by decide +kernel⟩ n, show isum ity.inn = 1 by decide +kernel, show (tW ity.words).length = 5 by decide +kernel, decide_eq_false (show ¬ 400 < n * 5 by omega), Bool.or_false]
  congr 1
  exact decide_eq_decide.mpr (by omega)
def itz : FItem := .mk (.sym "x") (.yes (one "x")) (.yes (one "x"))
abbrev xxxW : List Str := ["x", "_", "x", "^", "x"]
theorem f_xxx (n : Nat) (h : n ≤ 40) : kindO (Txt.mul "x_x^x" (n : Int)) = lrg (decide (26 < n)) := by
  rw [kind_ws (L := repW xxxW n) (tW_mul (by decide +kernel) n) (okW_rep ⟨by decide +kernel, by decide +kernel⟩ n).t (by rw [mul_len, show ("x_x^x" : Str).length = 5 by decide +kernel]; omega)]
  obtain ⟨j, e⟩ := top_rep (B := xxxW) (it := itz) rfl (by decide +kernel) n fun i h1 h2 h3 => itXB i (by decide +kernel) (by decide +kernel) (by decide +kernel) h1 h2 h3
  rw [e, res_eq, large_rep (it := itz) ⟨by decide +kernel, by decide +kernel⟩ n, show isum itz.inn = 2 by decide +kernel, show (tW itz.words).length = 9 by decide +kernel, decide_eq_false (show ¬ 400 < n * 9 by omega), Bool.or_false]
  congr 1
  exact decide_eq_decide.mpr (by omega)
/-! braces -/
theorem rep0_ahead : ∀ n, repW ["{"] n = aheadW (List.replicate n 0)
  | 0 => rfl
  | n + 1 => by
    rw [List.replicate_succ]
    show (["{"] : List Str) ++ repW ["{"] n = bW 0 ++ aheadW (List.replicate n 0)
    rw [rep0_ahead n]
    rfl
theorem rep_comm (b : Str) : ∀ n, [b] ++ repW [b] n = repW [b] n ++ [b]
  | 0 => rfl
  | n + 1 => by
    show [b] ++ ([b] ++ repW [b] n) = ([b] ++ repW [b] n) ++ [b]
    rw [List.append_assoc, rep_comm b n]
theorem rep0_behind : ∀ n, repW ["}"] n = behindW (List.replicate n 0)
  | 0 => rfl
  | n + 1 => by
    rw [List.replicate_succ]
    show (["}"] : List Str) ++ repW ["}"] n = behindW (List.replicate n 0) ++ eW 0
    rw [rep_comm, rep0_behind n]
    rfl
theorem zeros_lt (n : Nat) : ∀ c ∈ List.replicate n 0, c < 6 := fun c h => by
  rw [List.eq_of_mem_replicate h]
  decide
theorem f_br (n : Nat) (h : n ≤ 8) : kindO (Txt.mul "{" (n : Int) ++ Txt.mul "}" (n : Int)) = dueS n := by
  have a := f_plain (cs := List.replicate n 0) (zeros_lt n) (by rw [List.length_replicate]; exact h)
  rw [List.length_replicate] at a
  rw [← a]
  have e : (Txt.mul "{" (n : Int) ++ Txt.mul "}" (n : Int)) = aheadS (List.replicate n 0) ++ behindS (List.replicate n 0) := by
    have z : (Txt.mul "{" (n : Int) ++ Txt.mul "}" (n : Int)).cps.toList = (aheadS (List.replicate n 0) ++ behindS (List.replicate n 0)).cps.toList := by
      rw [app_cps, app_cps, aheadS_t, behindS_t, tW_mul (B := ["{"]) (by decide +kernel), tW_mul (B := ["}"]) (by decide +kernel), rep0_ahead, rep0_behind]
    rw [str_of_cps z, str_of_cps (w := aheadS (List.replicate n 0) ++ behindS (List.replicate n 0)) rfl]
  rw [e]
theorem f_br400 : kindO (Txt.mul "{" ((400 : Nat) : Int)) = "deep" := by
  rw [kind_ws (L := repW ["{"] 400) (tW_mul (by decide +kernel) 400) (okW_rep (B := ["{"]) ⟨by decide +kernel, by decide +kernel⟩ 400).t (by rw [mul_len, show ("{" : Str).length = 1 by decide +kernel]; omega)]
  have e : repW ["{"] 400 = aheadW (List.replicate 8 0) ++ repW ["{"] 392 := rfl
  rw [top_deep (cs := List.replicate 8 0) (rest := repW ["{"] 392) e (zeros_lt 8) (by rfl)]
  rfl
theorem f_br401 : kindO (Txt.mul "{" ((401 : Nat) : Int)) = "long" := kind_long (by rw [mul_len, show ("{" : Str).length = 1 by decide +kernel]; omega)
/-! formulas of repeated symbols -/
def ita : FItem := .mk (.sym "@abcdefgh") .no .no
theorem dep_rep {it : FItem} (h : it.dep = 0) : ∀ n, (repR it n).dep = 0
  | 0 => rfl
  | n + 1 => by
    show max it.dep (repR it n).dep = 0
    rw [h, dep_rep h n]
    rfl
theorem c_x (n : Nat) (h : n ≤ 200) : chkO (repR itx n) = lrg (decide (80 < n)) := by
  unfold chkO
  rw [dep_rep (by decide +kernel) n, if_neg (by decide), large_x n h]
  rfl
theorem tok_a : ∀ n, tokB (repW ita.words n) = true
  | 0 => rfl
  | 1 => by decide +kernel
  | n + 2 => by
    have ih := tok_a (n + 1)
    show (twB "@abcdefgh" && (!(isCommand "@abcdefgh" && headLet "@abcdefgh") && tokB (repW ita.words (n + 1)))) = true
    rw [ih]
    decide +kernel
theorem glue_repT {it : FItem} {n : Nat} (h : tokB (repW it.words n) = true) : (glueW (repR it n).words).length = n * (tW it.words).length := by
  rw [str_len, glue_txt, rep_words, tokB_spW h, tW_rep]
theorem large_repT {it : FItem} {n : Nat} (h : tokB (repW it.words n) = true) : large (repR it n) = (decide (80 < (n : Int) * (1 + isum it.inn)) || decide (400 < n * (tW it.words).length)) := by
  unfold large
  rw [count_rep, glue_repT h]
theorem c_a (n : Nat) (h : n ≤ 80) : chkO (repR ita n) = lrg (decide (44 < n)) := by
  unfold chkO
  rw [dep_rep (by decide +kernel) n, if_neg (by decide), large_repT (it := ita) (tok_a n), show isum ita.inn = 0 by decide +kernel, show (tW ita.words).length = 9 by decide +kernel, decide_eq_false (show ¬ (80 : Int) < (n : Int) * (1 + 0) by omega), Bool.false_or]
  show (if _ then ("large" : Str) else ("done" : Str)) = (if _ then ("large" : Str) else ("done" : Str))
  congr 1
  exact congrArg (· = true) (decide_eq_decide.mpr (by omega))
end
end Mg.Pm
namespace Mg.Nw
section
set_option Elab.async false
set_option linter.all false
set_option maxRecDepth 100000
set_option maxHeartbeats 1000000
open PySem PySem.Spec PyProof.Rows L2
/-! data: what values are, seen from the heap; things that are objects by what is true of them -/
abbrev AS := Addr → Prop
inductive Dt where
  | non | bl (b : Bool) | int (i : Int) | str (x : Str) | lst (ds : List Dt) | tup (ds : List Dt) | obj (P : AS → Hp → V → Prop)
/-- tuples never change -/
def stil : HO → Bool
  | .tup _ => true
  | .frz _ (.tup _) => true
  | _ => false
/-- what stands outside of S stands, and so do tuples -/
def Fr (S : AS) (H H' : Hp) : Prop := ∀ b o, H b = some o → (S b → stil o = true) → H' b = some o
theorem Fr.refl {S : AS} {H : Hp} : Fr S H H := fun _ _ h _ => h
theorem Fr.trans {S : AS} {H H1 H2 : Hp} (a : Fr S H H1) (b : Fr S H1 H2) : Fr S H H2 := fun c o h n => b c o (a c o h n) n
theorem Fr.mono {S S' : AS} {H H1 : Hp} (a : Fr S H H1) (h : ∀ x, S x → S' x) : Fr S' H H1 := fun c o e n => a c o e fun z => n (h _ z)
theorem Fr.of {S : AS} {H H1 : Hp} (a : Same H H1) : Fr S H H1 := fun c o e _ => a c o e
theorem Fr.new {S : AS} {H : Hp} {p : Addr} {o : HO} (h : H p = none) : Fr S H (upd H p o) := .of (same_new h)
theorem Fr.at {S : AS} {H : Hp} {p : Addr} {o u : HO} (h : S p) (hp : H p = some u) (hu : stil u = false) : Fr S H (upd H p o) := fun b v e n => by
  rw [upd_ne fun z => by
    rw [z] at e n
    rw [hp] at e
    cases e
    rw [n h] at hu
    cases hu]
  exact e
theorem Fr.no {S : AS} {H H1 : Hp} (a : Fr S H H1) {b : Addr} {o : HO} (h : H b = some o) (n : ¬ S b) : H1 b = some o := a b o h fun z => absurd z n
theorem Fr.sqt {K : PySem.W.Frag} {S : AS} {H H' : Hp} {a : Addr} {xs : List V} (f : Fr S H H') (h : SqT K H a xs) : SqT K H' a xs := by
  rcases h with (h | ⟨o, h⟩) | h
  · exact .inl (.inl (f _ _ h fun _ => rfl))
  · exact .inl (.inr ⟨o, f _ _ h fun _ => rfl⟩)
  · exact .inr h
/-- what is true of an object stands -/
structure Stab (P : AS → Hp → V → Prop) : Prop where
  stay : ∀ {S H H' v}, Fr S H H' → P S H v → P S H' v
  chg : ∀ {S S' : AS} {H v}, (∀ a, S' a → S a ∨ H a = none) → P S H v → P S' H v
mutual
inductive IsD (K : PySem.W.Frag) (S : AS) (H : Hp) : V → Dt → Prop
  | non : IsD K S H .non .non
  | bl (b : Bool) : IsD K S H (.bl b) (.bl b)
  | int (i : Int) : IsD K S H (.int i) (.int i)
  | str (x : Str) : IsD K S H (.str x) (.str x)
  | lst {a : Addr} {xs : List V} {ds : List Dt} : H a = some (.lst xs) → ¬ S a → IsL K S H xs ds → IsD K S H (.ref a) (.lst ds)
  | tup {a : Addr} {xs : List V} {ds : List Dt} : SqT K H a xs → IsL K S H xs ds → IsD K S H (.ref a) (.tup ds)
  | obj {v : V} {P : AS → Hp → V → Prop} : Stab P → P S H v → IsD K S H v (.obj P)
inductive IsL (K : PySem.W.Frag) (S : AS) (H : Hp) : List V → List Dt → Prop
  | nil : IsL K S H [] []
  | cons {v : V} {d : Dt} {vs : List V} {ds : List Dt} : IsD K S H v d → IsL K S H vs ds → IsL K S H (v :: vs) (d :: ds)
end
mutual
theorem IsD.stay {K : PySem.W.Frag} {S : AS} {H H' : Hp} (f : Fr S H H') : ∀ {v : V} {d : Dt}, IsD K S H v d → IsD K S H' v d
  | _, _, .non => .non
  | _, _, .bl b => .bl b
  | _, _, .int i => .int i
  | _, _, .str x => .str x
  | _, _, .lst h n l => .lst (f.no h n) n (IsL.stay f l)
  | _, _, .tup h l => .tup (f.sqt h) (IsL.stay f l)
  | _, _, .obj st h => .obj st (st.stay f h)
theorem IsL.stay {K : PySem.W.Frag} {S : AS} {H H' : Hp} (f : Fr S H H') : ∀ {vs : List V} {ds : List Dt}, IsL K S H vs ds → IsL K S H' vs ds
  | _, _, .nil => .nil
  | _, _, .cons a b => .cons (IsD.stay f a) (IsL.stay f b)
end
mutual
theorem IsD.chg {K : PySem.W.Frag} {S S' : AS} {H : Hp} (f : ∀ a, S' a → S a ∨ H a = none) : ∀ {v : V} {d : Dt}, IsD K S H v d → IsD K S' H v d
  | _, _, .non => .non
  | _, _, .bl b => .bl b
  | _, _, .int i => .int i
  | _, _, .str x => .str x
  | _, _, .lst h n l => .lst h (fun z => (f _ z).elim n fun e => by rw [h] at e; cases e) (IsL.chg f l)
  | _, _, .tup h l => .tup h (IsL.chg f l)
  | _, _, .obj st h => .obj st (st.chg f h)
theorem IsL.chg {K : PySem.W.Frag} {S S' : AS} {H : Hp} (f : ∀ a, S' a → S a ∨ H a = none) : ∀ {vs : List V} {ds : List Dt}, IsL K S H vs ds → IsL K S' H vs ds
  | _, _, .nil => .nil
  | _, _, .cons a b => .cons (IsD.chg f a) (IsL.chg f b)
end
section
variable {K : PySem.W.Frag} {S S' : AS} {H H' : Hp}
theorem IsL.len : ∀ {vs : List V} {ds : List Dt}, IsL K S H vs ds → vs.length = ds.length
  | _, _, .nil => rfl
  | _, _, .cons _ b => by rw [List.length_cons, List.length_cons, IsL.len b]
theorem IsL.get : ∀ {vs : List V} {ds : List Dt} {i : Nat} {d : Dt}, IsL K S H vs ds → ds[i]? = some d → ∃ v, vs[i]? = some v ∧ IsD K S H v d
  | _, _, _, _, .nil, e => by simp at e
  | _, _, 0, _, .cons a _, e => by
    cases Option.some.inj e
    exact ⟨_, rfl, a⟩
  | _, _, i + 1, _, .cons _ b, e => by
    obtain ⟨v, h1, h2⟩ := IsL.get (i := i) b e
    exact ⟨v, h1, h2⟩
theorem IsL.get' : ∀ {vs : List V} {ds : List Dt} {i : Nat} {v : V}, IsL K S H vs ds → vs[i]? = some v → ∃ d, ds[i]? = some d ∧ IsD K S H v d
  | _, _, _, _, .nil, e => by simp at e
  | _, _, 0, _, .cons a _, e => by
    cases Option.some.inj e
    exact ⟨_, rfl, a⟩
  | _, _, i + 1, _, .cons _ b, e => by
    obtain ⟨v, h1, h2⟩ := IsL.get' (i := i) b e
    exact ⟨v, h1, h2⟩
theorem IsL.at {vs : List V} {ds : List Dt} {i : Nat} {x : V} {d : Dt} (h : IsL K S H vs ds) (h1 : vs[i]? = some x) (h2 : ds[i]? = some d) : IsD K S H x d := by
  obtain ⟨v, a, b⟩ := h.get h2
  rw [h1] at a
  cases a
  exact b
theorem IsL.app : ∀ {vs us : List V} {ds es : List Dt}, IsL K S H vs ds → IsL K S H us es → IsL K S H (vs ++ us) (ds ++ es)
  | _, _, _, _, .nil, g => g
  | _, _, _, _, .cons a b, g => .cons a (IsL.app b g)
theorem IsL.one {v : V} {d : Dt} (h : IsD K S H v d) : IsL K S H [v] [d] := .cons h .nil
theorem IsL.drop : ∀ {vs : List V} {ds : List Dt} (n : Nat), IsL K S H vs ds → IsL K S H (vs.drop n) (ds.drop n)
  | _, _, 0, h => h
  | _, _, n + 1, .nil => .nil
  | _, _, n + 1, .cons _ b => IsL.drop n b
theorem IsL.take : ∀ {vs : List V} {ds : List Dt} (n : Nat), IsL K S H vs ds → IsL K S H (vs.take n) (ds.take n)
  | _, _, 0, h => .nil
  | _, _, n + 1, .nil => .nil
  | _, _, n + 1, .cons a b => .cons a (IsL.take n b)
theorem IsL.set : ∀ {vs : List V} {ds : List Dt} {v : V} {d : Dt} (n : Nat), IsL K S H vs ds → IsD K S H v d → IsL K S H (vs.set n v) (ds.set n d)
  | _, _, _, _, _, .nil, _ => .nil
  | _, _, _, _, 0, .cons _ b, h => .cons h b
  | _, _, _, _, n + 1, .cons a b, h => .cons a (IsL.set n b h)
theorem isd_int {v : V} {i : Int} (h : IsD K S H v (.int i)) : v = .int i := by cases h; rfl
theorem isd_str {v : V} {i : Str} (h : IsD K S H v (.str i)) : v = .str i := by cases h; rfl
theorem isd_bl {v : V} {i : Bool} (h : IsD K S H v (.bl i)) : v = .bl i := by cases h; rfl
theorem isd_non {v : V} (h : IsD K S H v .non) : v = .non := by cases h; rfl
theorem isd_tup {v : V} {ds : List Dt} (h : IsD K S H v (.tup ds)) : ∃ a xs, v = .ref a ∧ SqT K H a xs ∧ IsL K S H xs ds := by
  cases h with
  | tup t l => exact ⟨_, _, rfl, t, l⟩
theorem isd_lst {v : V} {ds : List Dt} (h : IsD K S H v (.lst ds)) : ∃ a xs, v = .ref a ∧ H a = some (.lst xs) ∧ ¬ S a ∧ IsL K S H xs ds := by
  cases h with
  | lst t n l => exact ⟨_, _, rfl, t, n, l⟩
theorem isd_obj {v : V} {P : AS → Hp → V → Prop} (h : IsD K S H v (.obj P)) : P S H v := by
  cases h with
  | obj _ h => exact h
theorem isl_ints : ∀ {vs : List V} {ns : List Int}, IsL K S H vs (ns.map Dt.int) → vs = ns.map V.int
  | vs, [], h => by cases h; rfl
  | vs, n :: ns, h => by
    cases h with
    | cons a b =>
      rw [isd_int a, isl_ints b]
      rfl
theorem isl_strs : ∀ {vs : List V} {ns : List Str}, IsL K S H vs (ns.map Dt.str) → vs = ns.map V.str
  | vs, [], h => by cases h; rfl
  | vs, n :: ns, h => by
    cases h with
    | cons a b =>
      rw [isd_str a, isl_strs b]
      rfl
theorem isl_bls : ∀ {vs : List V} {ns : List Bool}, IsL K S H vs (ns.map Dt.bl) → vs = ns.map V.bl
  | vs, [], h => by cases h; rfl
  | vs, n :: ns, h => by
    cases h with
    | cons a b =>
      rw [isd_bl a, isl_bls b]
      rfl
theorem isl_of_ints : ∀ (ns : List Int), IsL K S H (ns.map V.int) (ns.map Dt.int)
  | [] => .nil
  | n :: ns => .cons (.int n) (isl_of_ints ns)
theorem isl_of_strs : ∀ (ns : List Str), IsL K S H (ns.map V.str) (ns.map Dt.str)
  | [] => .nil
  | n :: ns => .cons (.str n) (isl_of_strs ns)
end
/-! slots -/
inductive Sl where
  | any | f (d : Dt) | o (ds : List Dt)
def own (σ : L2.St) (Γ : List Sl) : AS := fun (a : Addr) => ∃ (i : Nat) (ds : List Dt), Γ[i]? = some (Sl.o ds) ∧ σ[i]? = some (some (V.ref a))
def SlOk (K : PySem.W.Frag) (S : AS) (H : Hp) (x : Option (Option V)) : Sl → Prop
  | .any => True
  | .f d => ∃ v, x = some (some v) ∧ IsD K S H v d
  | .o ds => ∃ p xs, x = some (some (.ref p)) ∧ H p = some (.lst xs) ∧ IsL K S H xs ds
/-- what may change besides (C), what data stay away from (A), what is true of it (G) -/
structure Md where
  K : PySem.W.Frag
  C : AS
  G : AS → Hp → Prop
  gs : ∀ {S : AS} {H H' : Hp}, Fr (fun b => S b ∧ ¬ C b) H H' → G S H → G S H'
  gc : ∀ {S S' : AS} {H : Hp}, (∀ a, S' a → S a ∨ H a = none) → G S H → G S' H
def SA (A : AS) (σ : L2.St) (Γ : List Sl) : AS := fun a => A a ∨ own σ Γ a
structure En (M : Md) (A : AS) (H0 : Hp) (Γ : List Sl) (σ : L2.St) (H : Hp) : Prop where
  len : σ.length = Γ.length
  at' : ∀ (i : Nat) (s : Sl), Γ[i]? = some s → SlOk M.K (SA A σ Γ) H σ[i]? s
  inj : ∀ (i j : Nat) (ds es : List Dt) (a : Addr), Γ[i]? = some (Sl.o ds) → Γ[j]? = some (Sl.o es) → σ[i]? = some (some (V.ref a)) → σ[j]? = some (some (V.ref a)) → i = j
  fr : Fr M.C H0 H
  new : ∀ a, own σ Γ a → H0 a = none
  nA : ∀ a, own σ Γ a → ¬ A a
  av : ∀ a, A a → ∃ o, H a = some o
  inv : M.G (SA A σ Γ) H
  cA : ∀ a, M.C a → A a
/-- what an expression leaves -/
structure Nx (M : Md) (S : AS) (H H' : Hp) : Prop where
  fr : Fr M.C H H'
  al : ∀ a, M.C a → ∃ o, H' a = some o
  inv : M.G S H'
  cS : ∀ a, M.C a → S a
/-- Γ says no more than Γ' -/
inductive SlLe : Sl → Sl → Prop
  | refl {s : Sl} : SlLe s s
  | any {s : Sl} : SlLe s .any
  | frz {ds : List Dt} : SlLe (.o ds) (.f (.lst ds))
inductive Sub : List Sl → List Sl → Prop
  | nil : Sub [] []
  | cons {s t : Sl} {Γ Δ : List Sl} : SlLe s t → Sub Γ Δ → Sub (s :: Γ) (t :: Δ)
theorem Sub.refl : ∀ {Γ : List Sl}, Sub Γ Γ
  | [] => .nil
  | _ :: _ => .cons .refl Sub.refl
theorem Sub.len : ∀ {Γ Δ : List Sl}, Sub Γ Δ → Γ.length = Δ.length
  | _, _, .nil => rfl
  | _, _, .cons _ b => by rw [List.length_cons, List.length_cons, Sub.len b]
theorem Sub.at : ∀ {Γ Δ : List Sl} {i : Nat} {t : Sl}, Sub Γ Δ → Δ[i]? = some t → ∃ s, Γ[i]? = some s ∧ SlLe s t
  | _, _, _, _, .nil, e => by simp at e
  | _, _, 0, _, .cons a _, e => by
    cases Option.some.inj e
    exact ⟨_, rfl, a⟩
  | _, _, i + 1, _, .cons _ b, e => by
    obtain ⟨v, h1, h2⟩ := Sub.at (i := i) b e
    exact ⟨v, h1, h2⟩
section
variable {M : Md} {A : AS} {H0 H H1 H2 H' : Hp} {Γ Δ Γ' : List Sl} {σ σ' : L2.St} {S : AS} {d d1 d2 : Dt} {ds es : List Dt} {te ta tb tl : TE} {tas : TA} {t u : TT} {b : Bool}
theorem En.sv (e : En M A H0 Γ σ H) : ∀ a, SA A σ Γ a → ∃ o, H a = some o := fun a h => by
  rcases h with h | ⟨i, ds, h1, h2⟩
  · exact e.av a h
  · obtain ⟨p, xs, h3, h4, _⟩ := e.at' i _ h1
    rw [h2] at h3
    cases h3
    exact ⟨_, h4⟩
theorem En.fresh (e : En M A H0 Γ σ H) {p : Addr} (h : H p = none) : ¬ SA A σ Γ p := fun z => by
  obtain ⟨o, ho⟩ := e.sv p z
  rw [h] at ho
  cases ho
theorem En.ownA (e : En M A H0 Γ σ H) {p : Addr} (h : own σ Γ p) : ¬ A p := e.nA p h
theorem En.ownC (e : En M A H0 Γ σ H) {p : Addr} (h : own σ Γ p) : ¬ M.C p := fun z => e.nA p h (e.cA p z)
theorem Nx.refl (e : En M A H0 Γ σ H) : Nx M (SA A σ Γ) H H := ⟨.refl, fun a h => e.av a (e.cA a h), e.inv, fun a h => .inl (e.cA a h)⟩
theorem Nx.trans (a : Nx M S H H1) (b : Nx M S H1 H2) : Nx M S H H2 := ⟨a.fr.trans b.fr, b.al, b.inv, a.cS⟩
theorem Nx.sf (a : Nx M (SA A σ Γ) H H1) : Fr (SA A σ Γ) H H1 := a.fr.mono a.cS
theorem Nx.own (a : Nx M (SA A σ Γ) H H1) (e : En M A H0 Γ σ H) {p : Addr} {o : HO} (hp : own σ Γ p) (h : H p = some o) : H1 p = some o := a.fr.no h (e.ownC hp)
theorem En.nx (e : En M A H0 Γ σ H) (n : Nx M (SA A σ Γ) H H1) : En M A H0 Γ σ H1 where
  len := e.len
  at' := fun i s h => by
    have q := e.at' i s h
    cases s with
    | any => exact q
    | f d =>
      obtain ⟨v, h1, h2⟩ := q
      exact ⟨v, h1, h2.stay n.sf⟩
    | o ds =>
      obtain ⟨p, xs, h1, h2, h3⟩ := q
      exact ⟨p, xs, h1, n.own e ⟨i, ds, h, h1⟩ h2, h3.stay n.sf⟩
  inj := e.inj
  fr := e.fr.trans n.fr
  new := e.new
  nA := e.nA
  av := fun a h => by
    by_cases c : M.C a
    · exact n.al a c
    · obtain ⟨o, ho⟩ := e.av a h
      exact ⟨o, n.fr.no ho c⟩
  inv := n.inv
  cA := e.cA
/-- a new object -/
theorem Nx.new (e : En M A H0 Γ σ H) {p : Addr} {o : HO} (h : H p = none) : Nx M (SA A σ Γ) H (upd H p o) where
  fr := .new h
  al := fun a ha => by
    obtain ⟨o, ho⟩ := e.av a (e.cA a ha)
    exact ⟨o, same_new h _ _ ho⟩
  inv := M.gs (.new h) e.inv
  cS := fun a h => .inl (e.cA a h)
/-! what evaluates to what -/
def E (M : Md) (te : TE) (Γ : List Sl) (d : Dt) : Prop := ∀ A H0 σ H, En M A H0 Γ σ H → ∀ Q : VK, (∀ v H', Nx M (SA A σ Γ) H H' → IsD M.K (SA A σ Γ) H' v d → Q v H') → te σ H Q
/-- a list to be read -/
def ER (M : Md) (te : TE) (Γ : List Sl) (ds : List Dt) : Prop := ∀ A H0 σ H, En M A H0 Γ σ H → ∀ Q : VK, (∀ p xs H', Nx M (SA A σ Γ) H H' → H' p = some (.lst xs) → ¬ M.C p → IsL M.K (SA A σ Γ) H' xs ds → Q (.ref p) H') → te σ H Q
/-- a new list -/
def EL (M : Md) (te : TE) (Γ : List Sl) (ds : List Dt) : Prop := ∀ A H0 σ H, En M A H0 Γ σ H → ∀ Q : VK, (∀ p xs H', H p = none → Nx M (SA A σ Γ) H H' → H' p = some (.lst xs) → IsL M.K (fun a => SA A σ Γ a ∨ a = p) H' xs ds → M.G (fun a => SA A σ Γ a ∨ a = p) H' → Q (.ref p) H') → te σ H Q
def EA (M : Md) (ta : TA) (Γ : List Sl) (ds : List Dt) : Prop := ∀ A H0 σ H, En M A H0 Γ σ H → ∀ Q : List V → Hp → Prop, (∀ vs H', Nx M (SA A σ Γ) H H' → IsL M.K (SA A σ Γ) H' vs ds → Q vs H') → ta σ H Q
def ET (M : Md) (tt : TT) (Γ : List Sl) (b : Bool) : Prop := ∀ A H0 σ H, En M A H0 Γ σ H → ∀ Q : Bool → Hp → Prop, (∀ H', Nx M (SA A σ Γ) H H' → Q b H') → tt σ H Q
theorem el_e (h : EL M te Γ ds) : E M te Γ (.lst ds) := fun A H0 σ H e Q q => h A H0 σ H e Q fun p xs H' hp n hx l _ => q _ _ n (.lst hx (e.fresh hp) (l.chg fun a h => .inl (.inl h)))
theorem el_r (h : EL M te Γ ds) : ER M te Γ ds := fun A H0 σ H e Q q => h A H0 σ H e Q fun p xs H' hp n hx l _ => q _ _ _ n hx (fun z => e.fresh hp (.inl (e.cA _ z))) (l.chg fun a h => .inl (.inl h))
theorem e_r (h : E M te Γ (.lst ds)) : ER M te Γ ds := fun A H0 σ H e Q q => h A H0 σ H e Q fun v H' n hv => by
  obtain ⟨a, xs, rfl, h1, h2, h3⟩ := isd_lst hv
  exact q _ _ _ n h1 (fun z => h2 (.inl (e.cA _ z))) h3
theorem E.is (h : E M te Γ d) (e : d = d1) : E M te Γ d1 := e ▸ h
theorem ER.is (h : ER M te Γ ds) (e : ds = es) : ER M te Γ es := e ▸ h
theorem EL.is (h : EL M te Γ ds) (e : ds = es) : EL M te Γ es := e ▸ h
theorem ET.is {c : Bool} (h : ET M t Γ b) (e : b = c) : ET M t Γ c := e ▸ h
theorem x_var {i : Nat} (h : Γ[i]? = some (.f d)) : E M (tVar i) Γ d := fun A H0 σ H e Q q => by
  obtain ⟨v, h1, h2⟩ := e.at' i _ h
  exact ⟨v, h1, q v H (.refl e) h2⟩
theorem r_var {i : Nat} (h : Γ[i]? = some (.o ds)) : ER M (tVar i) Γ ds := fun A H0 σ H e Q q => by
  obtain ⟨p, xs, h1, h2, h3⟩ := e.at' i _ h
  exact ⟨_, h1, q p xs H (.refl e) h2 (e.ownC ⟨i, ds, h, h1⟩) h3⟩
theorem x_c {v : V} (h : ∀ S H, IsD M.K S H v d) : E M (tC v) Γ d := fun A H0 σ H e Q q => q v H (.refl e) (h _ _)
theorem x_int {i : Int} : E M (tC (.int i)) Γ (.int i) := x_c fun _ _ => .int i
theorem x_str {i : Str} : E M (tC (.str i)) Γ (.str i) := x_c fun _ _ => .str i
theorem x_bl {i : Bool} : E M (tC (.bl i)) Γ (.bl i) := x_c fun _ _ => .bl i
theorem x_non : E M (tC .non) Γ .non := x_c fun _ _ => .non
theorem x_tupc {a : Addr} {xs : List V} (h : ∀ H', SqT M.K H' a xs) (l : ∀ S H, IsL M.K S H xs ds) : E M (tC (.ref a)) Γ (.tup ds) := x_c fun S H => .tup (h H) (l S H)
/-- an operation of two places upon data -/
def RX (K : PySem.W.Frag) (r : R2) (d1 d2 d : Dt) : Prop := ∀ S v1 v2 H Q, IsD K S H v1 d1 → IsD K S H v2 d2 → (∀ v, IsD K S H v d → Q v H) → r v1 v2 H Q
theorem x_op {r : R2} (ha : E M ta Γ d1) (hb : E M tb Γ d2) (hr : RX M.K r d1 d2 d) : E M (tOp r ta tb) Γ d := fun A H0 σ H e Q q =>
  ha A H0 σ H e _ fun v1 H1 n1 t1 => hb A H0 σ H1 (e.nx n1) _ fun v2 H2 n2 t2 => hr _ v1 v2 H2 Q (t1.stay n2.sf) t2 fun v tv => q v H2 (n1.trans n2) tv
variable {K : PySem.W.Frag}
theorem o_I0i {f : Int → Int → Int} {i j : Int} : RX K (rI0 fun i j => .int (f i j)) (.int i) (.int j) (.int (f i j)) := fun S v1 v2 H Q t1 t2 q => by
  rw [isd_int t1, isd_int t2]
  exact ⟨i, j, rfl, rfl, q _ (.int _)⟩
theorem o_I0b {f : Int → Int → Bool} {i j : Int} : RX K (rI0 fun i j => .bl (f i j)) (.int i) (.int j) (.bl (f i j)) := fun S v1 v2 H Q t1 t2 q => by
  rw [isd_int t1, isd_int t2]
  exact ⟨i, j, rfl, rfl, q _ (.bl _)⟩
theorem o_Ii {C : Int → Int → Prop} {f : Int → Int → Int} {i j : Int} (c : C i j) : RX K (rI C fun i j => .int (f i j)) (.int i) (.int j) (.int (f i j)) := fun S v1 v2 H Q t1 t2 q => by
  rw [isd_int t1, isd_int t2]
  exact ⟨i, j, rfl, rfl, c, q _ (.int _)⟩
theorem o_eqS {x y : Str} : RX K rEq (.str x) (.str y) (.bl (decide (x = y))) := fun S v1 v2 H Q t1 t2 q => by
  rw [isd_str t1, isd_str t2]
  refine ⟨rfl, ?_⟩
  rw [show decide (V.str x = V.str y) = decide (x = y) by simp]
  exact q _ (.bl _)
theorem o_neS {x y : Str} : RX K rNe (.str x) (.str y) (.bl (!decide (x = y))) := fun S v1 v2 H Q t1 t2 q => by
  rw [isd_str t1, isd_str t2]
  refine ⟨rfl, ?_⟩
  rw [show decide (V.str x = V.str y) = decide (x = y) by simp]
  exact q _ (.bl _)
theorem o_eqI {x y : Int} : RX K rEq (.int x) (.int y) (.bl (decide (x = y))) := fun S v1 v2 H Q t1 t2 q => by
  rw [isd_int t1, isd_int t2]
  refine ⟨rfl, ?_⟩
  rw [show decide (V.int x = V.int y) = decide (x = y) by simp]
  exact q _ (.bl _)
theorem o_neI {x y : Int} : RX K rNe (.int x) (.int y) (.bl (!decide (x = y))) := fun S v1 v2 H Q t1 t2 q => by
  rw [isd_int t1, isd_int t2]
  refine ⟨rfl, ?_⟩
  rw [show decide (V.int x = V.int y) = decide (x = y) by simp]
  exact q _ (.bl _)
def Dt.isNon : Dt → Bool
  | .non => true
  | _ => false
def Dt.noObj : Dt → Bool
  | .obj _ => false
  | _ => true
theorem isd_dec {S : AS} {v : V} {d : Dt} (t : IsD K S H v d) (h : d.noObj = true) : decide (v = .non) = d.isNon := by
  cases t <;> first | (simp [Dt.isNon]; done) | cases h
theorem o_isN (h : d.noObj = true) : RX K (fun x y H Q => y = .non ∧ Q (.bl (decide (x = .non))) H) d .non (.bl d.isNon) := fun S v1 v2 H Q t1 t2 q => by
  refine ⟨isd_non t2, ?_⟩
  rw [isd_dec t1 h]
  exact q _ (.bl _)
theorem o_notN (h : d.noObj = true) : RX K (fun x y H Q => y = .non ∧ Q (.bl (!decide (x = .non))) H) d .non (.bl (!d.isNon)) := fun S v1 v2 H Q t1 t2 q => by
  refine ⟨isd_non t2, ?_⟩
  rw [isd_dec t1 h]
  exact q _ (.bl _)
theorem atI_get2 {α β : Type} {xs : List α} {ys : List β} {i : Int} {y : β} (hl : xs.length = ys.length) (h : atI ys i = some y) : ∃ n : Nat, ∃ x, atI xs i = some x ∧ xs[n]? = some x ∧ ys[n]? = some y := by
  unfold atI at h ⊢
  rw [hl]
  cases e : ixN ys.length i with
  | none =>
    rw [e] at h
    cases h
  | some n =>
    rw [e] at h
    have h : ys[n]? = some y := h
    have hn := (List.getElem?_eq_some_iff.mp h).1
    exact ⟨n, xs[n]'(by omega), List.getElem?_eq_getElem (by omega), List.getElem?_eq_getElem (by omega), h⟩
theorem o_ixT {i : Int} (h : atI ds i = some d) : RX K (rIxT K) (.tup ds) (.int i) d := fun S v1 v2 H Q t1 t2 q => by
  obtain ⟨a, xs, rfl, s, l⟩ := isd_tup t1
  rw [isd_int t2]
  obtain ⟨n, x, h1, h2, h3⟩ := atI_get2 l.len h
  exact ⟨a, xs, i, x, rfl, rfl, s, h1, q _ (l.at h2 h3)⟩
/-- an index of a list that is read -/
theorem x_ixL {i : Int} (ha : ER M ta Γ ds) (hb : E M tb Γ (.int i)) (h : atI ds i = some d) : E M (tOp (rIxL M.K) ta tb) Γ d := fun A H0 σ H e Q q =>
  ha A H0 σ H e _ fun p xs H1 n1 h1 c1 l1 => hb A H0 σ H1 (e.nx n1) _ fun v2 H2 n2 t2 => by
    rw [isd_int t2]
    have l2 := l1.stay n2.sf
    obtain ⟨n, x, e1, e2, e3⟩ := atI_get2 l2.len h
    exact ⟨p, xs, i, x, rfl, rfl, SqL.of (n2.fr.no h1 c1), e1, q _ _ (n1.trans n2) (l2.at e2 e3)⟩
theorem xa_nil : EA M tNil Γ [] := fun A H0 σ H e Q q => q _ H (.refl e) .nil
theorem xa_cons (h : E M te Γ d) (hs : EA M tas Γ ds) : EA M (tCons te tas) Γ (d :: ds) := fun A H0 σ H e Q q =>
  h A H0 σ H e _ fun v H1 n1 hd => hs A H0 σ H1 (e.nx n1) _ fun vs H2 n2 hds => q _ H2 (n1.trans n2) (.cons (hd.stay n2.sf) hds)
theorem x_tup (h : EA M tas Γ ds) (hl : ds.length ≤ 1000) : E M (tTup tas) Γ (.tup ds) := fun A H0 σ H e Q q => h A H0 σ H e _ fun vs H1 n1 l =>
  ⟨by rw [l.len]; exact sz5 (by omega), fun p hp => q _ _ (n1.trans (.new (e.nx n1) hp)) (.tup (SqT.of upd_same) (l.stay (.new hp)))⟩
theorem Nx.free (n : Nx M (SA A σ Γ) H H1) {p : Addr} (hp : H1 p = none) : H p = none := by
  cases z : H p with
  | none => rfl
  | some o =>
    by_cases c : M.C p
    · obtain ⟨o, ho⟩ := n.al p c
      rw [hp] at ho
      cases ho
    · rw [n.fr.no z c] at hp
      cases hp
/-- a new list is made -/
theorem el_new (e : En M A H0 Γ σ H) (n : Nx M (SA A σ Γ) H H1) {p : Addr} {xs : List V} {Q : VK} (hp : H1 p = none) (l : IsL M.K (SA A σ Γ) H1 xs ds)
    (q : ∀ p xs H', H p = none → Nx M (SA A σ Γ) H H' → H' p = some (.lst xs) → IsL M.K (fun a => SA A σ Γ a ∨ a = p) H' xs ds → M.G (fun a => SA A σ Γ a ∨ a = p) H' → Q (.ref p) H') : Q (.ref p) (upd H1 p (.lst xs)) :=
  have c : ∀ a, (SA A σ Γ a ∨ a = p) → SA A σ Γ a ∨ H1 a = none := fun a h => h.elim .inl fun z => .inr (by rw [z]; exact hp)
  q p xs _ (n.free hp) (n.trans (.new (e.nx n) hp)) upd_same ((l.chg c).stay (.new hp)) (M.gs (.new hp) (M.gc c n.inv))
theorem xl_lst (h : EA M tas Γ ds) (hl : ds.length ≤ 1000) : EL M (tLst tas) Γ ds := fun A H0 σ H e Q q => h A H0 σ H e _ fun vs H1 n1 l =>
  ⟨by rw [l.len]; exact sz5 (by omega), fun p hp => el_new e n1 hp l q⟩
theorem xl_cat (ha : ER M ta Γ ds) (hb : ER M tb Γ es) (hl : ds.length + es.length ≤ 1000000) : EL M (tOp rCat ta tb) Γ (ds ++ es) := fun A H0 σ H e Q q =>
  ha A H0 σ H e _ fun l xs H1 n1 e1 c1 t1 => hb A H0 σ H1 (e.nx n1) _ fun m ys H2 n2 e2 c2 t2 =>
    ⟨l, m, xs, ys, rfl, rfl, n2.fr.no e1 c1, e2, by rw [t1.len, t2.len]; exact sz5 hl, fun p hp => el_new e (n1.trans n2) hp ((t1.stay n2.sf).app t2) q⟩
theorem x_catT (ha : E M ta Γ (.tup ds)) (hb : E M tb Γ (.tup es)) (h1 : ds ≠ []) (h2 : es ≠ []) (hl : ds.length + es.length ≤ 1000000) : E M (tOp (rCatT M.K) ta tb) Γ (.tup (ds ++ es)) := fun A H0 σ H e Q q =>
  ha A H0 σ H e _ fun v1 H1 n1 t1 => hb A H0 σ H1 (e.nx n1) _ fun v2 H2 n2 t2 => by
    obtain ⟨a, xs, rfl, s1, l1⟩ := isd_tup (t1.stay n2.sf)
    obtain ⟨c, ys, rfl, s2, l2⟩ := isd_tup t2
    refine ⟨a, c, xs, ys, rfl, rfl, s1, s2, fun z => h1 (by have := l1.len; rw [z] at this; exact List.length_eq_zero_iff.mp this.symm), by rw [l1.len, l2.len]; exact sz5 hl, fun z => absurd (by have := l2.len; rw [z] at this; exact List.length_eq_zero_iff.mp this.symm) h2, fun _ p hp => q _ _ ((n1.trans n2).trans (.new ((e.nx n1).nx n2) hp)) (.tup (SqT.of upd_same) ((l1.app l2).stay (.new hp)))⟩
theorem x_if (h : ET M t Γ b) (h1 : b = true → E M ta Γ d) (h2 : b = false → E M tb Γ d) : E M (tIf t ta tb) Γ d := fun A H0 σ H e Q q => h A H0 σ H e _ fun H1 n1 => by
  cases b with
  | true => exact iteT (h1 rfl A H0 σ H1 (e.nx n1) Q fun v H2 n2 => q v H2 (n1.trans n2))
  | false => exact iteF (h2 rfl A H0 σ H1 (e.nx n1) Q fun v H2 n2 => q v H2 (n1.trans n2))
theorem xt_test (h : E M te Γ (.bl b)) : ET M (tTest te) Γ b := fun A H0 σ H e Q q => h A H0 σ H e _ fun v H1 n1 hv => ⟨b, isd_bl hv, q H1 n1⟩
theorem xt_B (h : E M te Γ (.bl b)) : ET M (tB te) Γ b := fun A H0 σ H e Q q => h A H0 σ H e _ fun v H1 n1 hv => ⟨b, isd_bl hv, q H1 n1⟩
theorem xt_not (h : ET M t Γ b) : ET M (tNot t) Γ (!b) := fun A H0 σ H e Q q => h A H0 σ H e _ fun H1 n1 => q H1 n1
theorem xt_and {c : Bool} (h : ET M t Γ b) (h2 : b = true → ET M u Γ c) : ET M (tAnd t u) Γ (b && c) := fun A H0 σ H e Q q => h A H0 σ H e _ fun H1 n1 => by
  cases b with
  | true => exact iteT (h2 rfl A H0 σ H1 (e.nx n1) Q fun H2 n2 => q H2 (n1.trans n2))
  | false => exact iteF (q H1 n1)
theorem xt_or {c : Bool} (h : ET M t Γ b) (h2 : b = false → ET M u Γ c) : ET M (tOr t u) Γ (b || c) := fun A H0 σ H e Q q => h A H0 σ H e _ fun H1 n1 => by
  cases b with
  | true => exact iteT (q H1 n1)
  | false => exact iteF (h2 rfl A H0 σ H1 (e.nx n1) Q fun H2 n2 => q H2 (n1.trans n2))
theorem x_and {c : Bool} (h : E M ta Γ (.bl b)) (h2 : b = true → E M tb Γ (.bl c)) : E M (tAndV ta tb) Γ (.bl (b && c)) := fun A H0 σ H e Q q => h A H0 σ H e _ fun v H1 n1 hv => ⟨b, isd_bl hv, by
  cases b with
  | true => exact iteT (h2 rfl A H0 σ H1 (e.nx n1) Q fun v H2 n2 => q v H2 (n1.trans n2))
  | false => exact iteF (q _ H1 n1 (.bl _))⟩
theorem x_or {c : Bool} (h : E M ta Γ (.bl b)) (h2 : b = false → E M tb Γ (.bl c)) : E M (tOrV ta tb) Γ (.bl (b || c)) := fun A H0 σ H e Q q => h A H0 σ H e _ fun v H1 n1 hv => ⟨b, isd_bl hv, by
  cases b with
  | true => exact iteT (q _ H1 n1 (.bl _))
  | false => exact iteF (h2 rfl A H0 σ H1 (e.nx n1) Q fun v H2 n2 => q v H2 (n1.trans n2))⟩
theorem x_not (h : E M ta Γ (.bl b)) : E M (tNotV ta) Γ (.bl (!b)) := fun A H0 σ H e Q q => h A H0 σ H e _ fun v H1 n1 hv => ⟨b, isd_bl hv, q _ H1 n1 (.bl _)⟩
/-- a built-in of one thing; of two -/
def RB1 (K : PySem.W.Frag) (r : List V → Hp → VK → Prop) (d1 d : Dt) : Prop := ∀ S v1 H Q, IsD K S H v1 d1 → (∀ v, IsD K S H v d → Q v H) → r [v1] H Q
def RB2 (K : PySem.W.Frag) (r : List V → Hp → VK → Prop) (d1 d2 d : Dt) : Prop := ∀ S v1 v2 H Q, IsD K S H v1 d1 → IsD K S H v2 d2 → (∀ v, IsD K S H v d → Q v H) → r [v1, v2] H Q
theorem x_b1 {r : List V → Hp → VK → Prop} (h : E M te Γ d1) (hr : RB1 M.K r d1 d) : E M (tCB r (tCons te tNil)) Γ d := fun A H0 σ H e Q q => h A H0 σ H e _ fun v H1 n1 tv => hr _ v H1 Q tv fun v tv => q v H1 n1 tv
theorem x_b2 {r : List V → Hp → VK → Prop} (h : E M te Γ d1) (h2 : E M ta Γ d2) (hr : RB2 M.K r d1 d2 d) : E M (tCB r (tCons te (tCons ta tNil))) Γ d := fun A H0 σ H e Q q => h A H0 σ H e _ fun v H1 n1 tv => h2 A H0 σ H1 (e.nx n1) _ fun v2 H2 n2 t2 => hr _ v v2 H2 Q (tv.stay n2.sf) t2 fun v tv => q v H2 (n1.trans n2) tv
/-- a built-in upon a list that is read, without a new thing -/
def RBL (K : PySem.W.Frag) (r : List V → Hp → VK → Prop) (ds : List Dt) (d : Dt) : Prop := ∀ S p xs H Q, H p = some (.lst xs) → IsL K S H xs ds → (∀ v, IsD K S H v d → Q v H) → r [.ref p] H Q
theorem x_bL {r : List V → Hp → VK → Prop} (h : ER M te Γ ds) (hr : RBL M.K r ds d) : E M (tCB r (tCons te tNil)) Γ d := fun A H0 σ H e Q q => h A H0 σ H e _ fun p xs H1 n1 h1 c1 l1 => hr _ p xs H1 Q h1 l1 fun v tv => q v H1 n1 tv
theorem b_sum {ns : List Int} : RBL K (rSum K) (ns.map Dt.int) (.int ns.sum) := fun S p xs H Q h l q => by
  rw [isl_ints l] at h
  exact ⟨p, ns, rfl, SqL.of h, q _ (.int _)⟩
theorem b_all {bs : List Bool} : RBL K (rAll K) (bs.map Dt.bl) (.bl (bs.all id)) := fun S p xs H Q h l q => by
  rw [isl_bls l] at h
  exact ⟨p, bs, rfl, SqL.of h, q _ (.bl _)⟩
theorem b_any {bs : List Bool} : RBL K (rAny K) (bs.map Dt.bl) (.bl (bs.any id)) := fun S p xs H Q h l q => by
  rw [isl_bls l] at h
  exact ⟨p, bs, rfl, SqL.of h, q _ (.bl _)⟩
/-- tuple(a list that is read) -/
theorem x_tupOf {r : List V → Hp → VK → Prop} (hr : ∀ p xs H Q, SqL M.K H p xs → (∀ l, H l = none → Q (V.ref l) (upd H l (.tup xs))) → r [.ref p] H Q) (h : ER M te Γ ds) : E M (tCB r (tCons te tNil)) Γ (.tup ds) := fun A H0 σ H e Q q => h A H0 σ H e _ fun p xs H1 n1 h1 c1 l1 =>
  hr p xs H1 Q (SqL.of h1) fun l hl => q _ _ (n1.trans (.new (e.nx n1) hl)) (.tup (SqT.of upd_same) (l1.stay (.new hl)))
theorem xl_listOf {r : List V → Hp → VK → Prop} (hr : ∀ p xs H Q, SqL M.K H p xs → (∀ l, H l = none → Q (V.ref l) (upd H l (.lst xs))) → r [.ref p] H Q) (h : ER M te Γ ds) : EL M (tCB r (tCons te tNil)) Γ ds := fun A H0 σ H e Q q => h A H0 σ H e _ fun p xs H1 n1 h1 c1 l1 =>
  hr p xs H1 Q (SqL.of h1) fun l hl => el_new e n1 hl l1 q
theorem xl_listT {r : List V → Hp → VK → Prop} (hr : ∀ p xs H Q, SqT M.K H p xs → (∀ l, H l = none → Q (V.ref l) (upd H l (.lst xs))) → r [.ref p] H Q) (h : E M te Γ (.tup ds)) : EL M (tCB r (tCons te tNil)) Γ ds := fun A H0 σ H e Q q => h A H0 σ H e _ fun v H1 n1 tv => by
  obtain ⟨a, xs, rfl, s1, l1⟩ := isd_tup tv
  exact hr a xs H1 Q s1 fun l hl => el_new e n1 hl l1 q
end
end
section
set_option Elab.async false
set_option linter.all false
set_option maxRecDepth 100000
set_option maxHeartbeats 1000000
open PySem PySem.Spec PyProof.Rows L2
/-! statements -/
structure Go (A : AS) (σ : L2.St) (Γ : List Sl) (H : Hp) (σ' : L2.St) (Γ' : List Sl) (H' : Hp) : Prop where
  fr : Fr (SA A σ Γ) H H'
  ow : ∀ a, own σ' Γ' a → own σ Γ a ∨ H a = none
  al : ∀ a, H' a = none → H a = none
structure Po where
  nx : List Sl → Prop
  rt : Dt → Prop
  bk : List Sl → Prop := fun _ => False
  ct : List Sl → Prop := fun _ => False
def W (M : Md) (ts : TS) (Γ : List Sl) (P : Po) : Prop := ∀ A H0 D σ H, En M A H0 Γ σ H →
  (∀ Γ' σ' H', P.nx Γ' → En M A H0 Γ' σ' H' → Go A σ Γ H σ' Γ' H' → D.nx σ' H') →
  (∀ Γ' σ' H', P.bk Γ' → En M A H0 Γ' σ' H' → Go A σ Γ H σ' Γ' H' → D.bk σ' H') →
  (∀ Γ' σ' H', P.ct Γ' → En M A H0 Γ' σ' H' → Go A σ Γ H σ' Γ' H' → D.ct σ' H') →
  (∀ v d H', P.rt d → Nx M A H0 H' → IsD M.K A H' v d → D.rt v H') → ts D σ H
section
variable {M : Md} {A : AS} {H0 H H1 H2 H' : Hp} {Γ Δ Γ' Γ1 : List Sl} {σ σ' σ1 : L2.St} {S : AS} {d d1 d2 : Dt} {ds es : List Dt} {te ta tb tl : TE} {tas : TA} {t u : TT} {b : Bool} {tu tw tz ts : TS} {P : Po} {g : TG}
theorem Go.refl : Go A σ Γ H σ Γ H := ⟨.refl, fun _ h => .inl h, fun _ h => h⟩
theorem Go.trans (e1 : En M A H0 Γ1 σ1 H1) (a : Go A σ Γ H σ1 Γ1 H1) (b : Go A σ1 Γ1 H1 σ' Γ' H') : Go A σ Γ H σ' Γ' H' where
  fr := fun c o h n => by
    by_cases s : stil o = true
    · exact b.fr c o (a.fr c o h fun _ => s) fun _ => s
    · have ns : ¬ SA A σ Γ c := fun z => s (n z)
      refine b.fr c o (a.fr.no h ns) fun z => absurd z fun z => ?_
      rcases z with z | z
      · exact ns (.inl z)
      · rcases a.ow c z with z | z
        · exact ns (.inr z)
        · rw [h] at z
          cases z
  ow := fun c h => (b.ow c h).elim (a.ow c) fun z => .inr (a.al c z)
  al := fun c h => a.al c (b.al c h)
theorem Nx.go (n : Nx M (SA A σ Γ) H H1) : Go A σ Γ H σ Γ H1 := ⟨n.sf, fun _ h => .inl h, fun _ h => n.free h⟩
/-- what is known is known by less -/
theorem En.sub (e : En M A H0 Γ σ H) (s : Sub Γ Δ) : En M A H0 Δ σ H := by
  have ow : ∀ {i : Nat} {ds : List Dt}, Δ[i]? = some (Sl.o ds) → Γ[i]? = some (Sl.o ds) := fun h => by
    obtain ⟨x, h1, h2⟩ := s.at h
    cases h2
    exact h1
  have so : ∀ a, own σ Δ a → own σ Γ a := fun a ⟨i, ds, h1, h2⟩ => ⟨i, ds, ow h1, h2⟩
  have ss : ∀ a, SA A σ Δ a → SA A σ Γ a := fun a h => h.elim .inl fun h => .inr (so a h)
  refine ⟨by rw [e.len, s.len], fun i x h => ?_, fun i j ds es a h1 h2 => e.inj i j ds es a (ow h1) (ow h2), e.fr, fun a h => e.new a (so a h), fun a h => e.nA a (so a h), e.av, M.gc (fun a h => .inl (ss a h)) e.inv, e.cA⟩
  obtain ⟨y, h1, h2⟩ := s.at h
  have q := e.at' i y h1
  cases h2 with
  | refl =>
    cases x with
    | any => exact q
    | f d =>
      obtain ⟨v, h3, h4⟩ := q
      exact ⟨v, h3, h4.chg fun a h => .inl (ss a h)⟩
    | o ds =>
      obtain ⟨p, xs, h3, h4, h5⟩ := q
      exact ⟨p, xs, h3, h4, h5.chg fun a h => .inl (ss a h)⟩
  | any => exact True.intro
  | frz =>
    rename_i ds
    obtain ⟨p, xs, h3, h4, h5⟩ := q
    refine ⟨_, h3, .lst h4 (fun z => ?_) (h5.chg fun a h => .inl (ss a h))⟩
    rcases z with z | ⟨j, es, z1, z2⟩
    · exact e.ownA ⟨i, ds, h1, h3⟩ z
    · have : j = i := e.inj j i es ds p (ow z1) h1 z2 h3
      subst this
      rw [h] at z1
      cases z1
theorem Go.sub (s : Sub Γ' Δ) (a : Go A σ Γ H σ' Γ' H') : Go A σ Γ H σ' Δ H' := ⟨a.fr, fun c ⟨i, ds, h1, h2⟩ => a.ow c ⟨i, ds, by
  obtain ⟨x, h3, h4⟩ := s.at h1
  cases h4
  exact h3, h2⟩, a.al⟩
theorem w_sub (s : Sub Γ Δ) (h : W M ts Δ P) : W M ts Γ P := fun A H0 D σ H e kn kb kc kr => by
  have g : Go A σ Γ H σ Δ H := Go.refl.sub s
  exact h A H0 D σ H (e.sub s) (fun Γ' σ' H' p e' g' => kn Γ' σ' H' p e' (g.trans (e.sub s) g')) (fun Γ' σ' H' p e' g' => kb Γ' σ' H' p e' (g.trans (e.sub s) g')) (fun Γ' σ' H' p e' g' => kc Γ' σ' H' p e' (g.trans (e.sub s) g')) kr
/-- a slot is set -/
theorem set_at {α : Type} {l : List α} {i j : Nat} {x y : α} (h : (l.set i x)[j]? = some y) : (j = i ∧ y = x) ∨ (j ≠ i ∧ l[j]? = some y) := by
  rw [List.getElem?_set] at h
  by_cases c : i = j
  · rw [if_pos c] at h
    split at h
    · cases h
      exact .inl ⟨c.symm, rfl⟩
    · cases h
  · rw [if_neg c] at h
    exact .inr ⟨fun z => c z.symm, h⟩
theorem set_ne {α : Type} {l : List α} {i j : Nat} {x : α} (h : j ≠ i) : (l.set i x)[j]? = l[j]? := by
  rw [List.getElem?_set, if_neg fun z => h z.symm]
theorem own_set {i : Nat} {x : Option V} {s : Sl} (ns : ∀ ds, s ≠ .o ds) : ∀ a, own (σ.set i x) (Γ.set i s) a → own σ Γ a := fun a w => by
  obtain ⟨j, ds, h1, h2⟩ := w
  rcases set_at h1 with ⟨_, h⟩ | ⟨n, h⟩
  · exact absurd h.symm (ns ds)
  · rw [set_ne n] at h2
    exact ⟨j, ds, h, h2⟩
theorem En.setf {i : Nat} {v : V} (e : En M A H0 Γ σ H) (h : IsD M.K (SA A σ Γ) H v d) : En M A H0 (Γ.set i (.f d)) (σ.set i (some v)) H := by
  have so : ∀ a, own (σ.set i (some v)) (Γ.set i (.f d)) a → own σ Γ a := own_set fun _ z => by cases z
  have ss : ∀ a, SA A (σ.set i (some v)) (Γ.set i (.f d)) a → SA A σ Γ a := fun a h => h.elim .inl fun h => .inr (so a h)
  refine ⟨by rw [List.length_set, List.length_set, e.len], fun j x hx => ?_, fun j k ds es a h1 h2 h3 h4 => ?_, e.fr, fun a h => e.new a (so a h), fun a h => e.nA a (so a h), e.av, M.gc (fun a h => .inl (ss a h)) e.inv, e.cA⟩
  · rcases set_at hx with ⟨rfl, rfl⟩ | ⟨n, hj⟩
    · refine ⟨v, ?_, h.chg fun a h => .inl (ss a h)⟩
      have : j < σ.length := by
        rw [e.len]
        have := (List.getElem?_eq_some_iff.mp hx).1
        rw [List.length_set] at this
        exact this
      rw [List.getElem?_set, if_pos rfl, if_pos this]
    · rw [set_ne n]
      have q := e.at' j x hj
      cases x with
      | any => exact q
      | f d =>
        obtain ⟨v, h3, h4⟩ := q
        exact ⟨v, h3, h4.chg fun a h => .inl (ss a h)⟩
      | o ds =>
        obtain ⟨p, xs, h3, h4, h5⟩ := q
        exact ⟨p, xs, h3, h4, h5.chg fun a h => .inl (ss a h)⟩
  · rcases set_at h1 with ⟨_, z⟩ | ⟨n1, h1⟩
    · cases z
    rcases set_at h2 with ⟨_, z⟩ | ⟨n2, h2⟩
    · cases z
    rw [set_ne n1] at h3
    rw [set_ne n2] at h4
    exact e.inj j k ds es a h1 h2 h3 h4
theorem Go.setf {i : Nat} {v : V} : Go A σ Γ H (σ.set i (some v)) (Γ.set i (.f d)) H := ⟨.refl, fun a h => .inl (own_set (fun _ z => by cases z) a h), fun _ h => h⟩
theorem En.seto {i : Nat} {p : Addr} {xs : List V} (e : En M A H0 Γ σ H) (n : Nx M (SA A σ Γ) H H1) (hi : i < Γ.length) (hf : H p = none) (hp : H1 p = some (.lst xs)) (l : IsL M.K (fun a => SA A σ Γ a ∨ a = p) H1 xs ds) (G : M.G (fun a => SA A σ Γ a ∨ a = p) H1) :
    En M A H0 (Γ.set i (.o ds)) (σ.set i (some (.ref p))) H1 := by
  have so : ∀ a, own (σ.set i (some (.ref p))) (Γ.set i (.o ds)) a → own σ Γ a ∨ a = p := fun a ⟨j, es, h1, h2⟩ => by
    rcases set_at h1 with ⟨rfl, h⟩ | ⟨n, h⟩
    · rcases set_at h2 with ⟨_, h⟩ | ⟨n, h⟩
      · cases h
        exact .inr rfl
      · exact absurd rfl n
    · rw [set_ne n] at h2
      exact .inl ⟨j, es, h, h2⟩
  have ss : ∀ a, SA A (σ.set i (some (.ref p))) (Γ.set i (.o ds)) a → SA A σ Γ a ∨ a = p := fun a h => h.elim (fun h => .inl (.inl h)) fun h => (so a h).elim (fun h => .inl (.inr h)) .inr
  have sg : ∀ a, SA A (σ.set i (some (.ref p))) (Γ.set i (.o ds)) a → (fun a => SA A σ Γ a ∨ a = p) a ∨ H1 a = none := fun a h => .inl (ss a h)
  have sf : ∀ a, SA A (σ.set i (some (.ref p))) (Γ.set i (.o ds)) a → SA A σ Γ a ∨ H a = none := fun a h => (ss a h).elim .inl fun z => .inr (by rw [z]; exact hf)
  have fS : Fr (SA A (σ.set i (some (.ref p))) (Γ.set i (.o ds))) H H1 := n.fr.mono fun a h => .inl (e.cA a h)
  have nA : ¬ SA A σ Γ p := e.fresh hf
  have e1 := e.nx n
  have h0 : H0 p = none := by
    cases z : H0 p with
    | none => rfl
    | some o =>
      by_cases c : M.C p
      · obtain ⟨o, ho⟩ := e.av p (e.cA p c)
        rw [hf] at ho
        cases ho
      · rw [e.fr.no z c] at hf
        cases hf
  refine ⟨by rw [List.length_set, List.length_set, e.len], fun j x hx => ?_, fun j k es fs a h1 h2 h3 h4 => ?_, e1.fr, fun a h => (so a h).elim (e.new a) fun z => by rw [z]; exact h0, fun a h => (so a h).elim (e.nA a) fun z => by rw [z]; exact fun y => nA (.inl y), e1.av, M.gc sg G, e.cA⟩
  · rcases set_at hx with ⟨rfl, rfl⟩ | ⟨n2, hj⟩
    · refine ⟨p, xs, ?_, hp, l.chg sg⟩
      rw [List.getElem?_set, if_pos rfl, if_pos (by rw [e.len]; exact hi)]
    · rw [set_ne n2]
      have q := e.at' j x hj
      cases x with
      | any => exact q
      | f d =>
        obtain ⟨v, h3, h4⟩ := q
        exact ⟨v, h3, (h4.chg sf).stay fS⟩
      | o es =>
        obtain ⟨q, ys, h3, h4, h5⟩ := q
        exact ⟨q, ys, h3, n.own e ⟨j, es, hj, h3⟩ h4, (h5.chg sf).stay fS⟩
  · rcases set_at h1 with ⟨rfl, z⟩ | ⟨n1, g1⟩
    · rcases set_at h2 with ⟨rfl, z⟩ | ⟨n2, h2⟩
      · rfl
      · rw [set_ne n2] at h4
        rcases set_at h3 with ⟨_, h⟩ | ⟨n, h⟩
        · cases h
          exact absurd (.inr ⟨k, fs, h2, h4⟩) nA
        · exact absurd rfl n
    · rw [set_ne n1] at h3
      rcases set_at h2 with ⟨rfl, z⟩ | ⟨n2, h2⟩
      · rcases set_at h4 with ⟨_, h⟩ | ⟨n, h⟩
        · cases h
          exact absurd (.inr ⟨j, es, g1, h3⟩) nA
        · exact absurd rfl n
      · rw [set_ne n2] at h4
        exact e.inj j k es fs a g1 h2 h3 h4
theorem Go.seto {i : Nat} {p : Addr} (n : Nx M (SA A σ Γ) H H1) (hf : H p = none) : Go A σ Γ H (σ.set i (some (.ref p))) (Γ.set i (.o ds)) H1 := ⟨n.sf, fun a ⟨j, es, h1, h2⟩ => by
  rcases set_at h1 with ⟨rfl, h⟩ | ⟨n, h⟩
  · rcases set_at h2 with ⟨_, h⟩ | ⟨n, h⟩
    · cases h
      exact .inr hf
    · exact absurd rfl n
  · rw [set_ne n] at h2
    exact .inl ⟨j, es, h, h2⟩, fun a h => n.free h⟩
theorem w_set {i : Nat} (h : E M te Γ d) (k : W M tz (Γ.set i (.f d)) P) : W M (tSeq (tAsg te (gName i)) tz) Γ P := fun A H0 D σ H e kn kb kc kr => h A H0 σ H e _ fun v H1 n1 tv => by
  have e1 := (e.nx n1).setf (i := i) tv
  have g1 : Go A σ Γ H (σ.set i (some v)) (Γ.set i (.f d)) H1 := (n1.go).trans (e.nx n1) Go.setf
  exact k A H0 D _ H1 e1 (fun Γ' σ' H' p e' g' => kn Γ' σ' H' p e' (g1.trans e1 g')) (fun Γ' σ' H' p e' g' => kb Γ' σ' H' p e' (g1.trans e1 g')) (fun Γ' σ' H' p e' g' => kc Γ' σ' H' p e' (g1.trans e1 g')) kr
theorem s_set {i : Nat} (h : E M te Γ d) (k : P.nx (Γ.set i (.f d))) : W M (tAsg te (gName i)) Γ P := fun A H0 D σ H e kn kb kc kr => h A H0 σ H e _ fun v H1 n1 tv => by
  have e1 := (e.nx n1).setf (i := i) tv
  exact kn _ _ _ k e1 ((n1.go).trans (e.nx n1) Go.setf)
end
end
section
set_option Elab.async false
set_option linter.all false
set_option maxRecDepth 100000
set_option maxHeartbeats 1000000
open PySem PySem.Spec PyProof.Rows L2
section
variable {M : Md} {A : AS} {H0 H H1 H2 H' : Hp} {Γ Δ Γ' Γ1 : List Sl} {σ σ' σ1 : L2.St} {S : AS} {d d1 d2 : Dt} {ds es fs : List Dt} {te ta tb tl : TE} {tas : TA} {t u : TT} {b : Bool} {tu tw tz ts : TS} {P : Po} {g : TG} {D : Ends}
theorem W.go (k : W M tz Γ1 P) (e1 : En M A H0 Γ1 σ1 H1) (g1 : Go A σ Γ H σ1 Γ1 H1)
    (kn : ∀ Γ' σ' H', P.nx Γ' → En M A H0 Γ' σ' H' → Go A σ Γ H σ' Γ' H' → D.nx σ' H') (kb : ∀ Γ' σ' H', P.bk Γ' → En M A H0 Γ' σ' H' → Go A σ Γ H σ' Γ' H' → D.bk σ' H')
    (kc : ∀ Γ' σ' H', P.ct Γ' → En M A H0 Γ' σ' H' → Go A σ Γ H σ' Γ' H' → D.ct σ' H') (kr : ∀ v d H', P.rt d → Nx M A H0 H' → IsD M.K A H' v d → D.rt v H') : tz D σ1 H1 :=
  k A H0 D σ1 H1 e1 (fun Γ' σ' H' p e' g' => kn Γ' σ' H' p e' (g1.trans e1 g')) (fun Γ' σ' H' p e' g' => kb Γ' σ' H' p e' (g1.trans e1 g')) (fun Γ' σ' H' p e' g' => kc Γ' σ' H' p e' (g1.trans e1 g')) kr
theorem w_seq (h : W M ts Γ { P with nx := fun Γ' => W M tz Γ' P }) : W M (tSeq ts tz) Γ P := fun A H0 D σ H e kn kb kc kr =>
  h A H0 { D with nx := tz D } σ H e (fun Γ' σ' H' p e' g' => W.go (D := D) (P := P) p e' g' kn kb kc kr) kb kc kr
theorem w_next (h : P.nx Γ) : W M tNext Γ P := fun A H0 D σ H e kn kb kc kr => kn Γ σ H h e .refl
theorem w_break (h : P.bk Γ) : W M tBreak Γ P := fun A H0 D σ H e kn kb kc kr => kb Γ σ H h e .refl
theorem w_cont (h : P.ct Γ) : W M tCont Γ P := fun A H0 D σ H e kn kb kc kr => kc Γ σ H h e .refl
theorem s_setl {i : Nat} (hi : i < Γ.length) (h : EL M te Γ ds) (k : P.nx (Γ.set i (.o ds))) : W M (tAsg te (gName i)) Γ P := fun A H0 D σ H e kn kb kc kr => h A H0 σ H e _ fun p xs H1 hf n1 hp l G =>
  kn _ _ _ k (e.seto n1 hi hf hp l G) (Go.seto n1 hf)
theorem w_setl {i : Nat} (hi : i < Γ.length) (h : EL M te Γ ds) (k : W M tz (Γ.set i (.o ds)) P) : W M (tSeq (tAsg te (gName i)) tz) Γ P := w_seq (s_setl hi h k)
theorem s_if (h : ET M t Γ b) (h1 : b = true → W M tu Γ P) (h2 : b = false → W M tw Γ P) : W M (tIfS t tu tw) Γ P := fun A H0 D σ H e kn kb kc kr => h A H0 σ H e _ fun H1 n1 => by
  cases b with
  | true => exact iteT ((h1 rfl).go (e.nx n1) n1.go kn kb kc kr)
  | false => exact iteF ((h2 rfl).go (e.nx n1) n1.go kn kb kc kr)
theorem w_if (h : ET M t Γ b) (h1 : b = true → W M tu Γ { P with nx := fun Γ' => W M tz Γ' P }) (h2 : b = false → W M tw Γ { P with nx := fun Γ' => W M tz Γ' P }) : W M (tSeq (tIfS t tu tw) tz) Γ P := w_seq (s_if h h1 h2)
theorem w_when (h : ET M t Γ b) (h1 : b = true → W M tu Γ { P with nx := fun Γ' => W M tz Γ' P }) (h2 : b = false → W M tz Γ P) : W M (tSeq (tIfS t tu tNext) tz) Γ P := w_if h h1 fun z => w_next (h2 z)
theorem En.retA (e : En M A H0 Γ σ H) (n : Nx M (SA A σ Γ) H H1) : Nx M A H0 H1 := ⟨e.fr.trans n.fr, n.al, M.gc (fun a h => .inl (.inl h)) n.inv, e.cA⟩
theorem w_ret (h : E M te Γ d) (k : P.rt d) : W M (tRet te) Γ P := fun A H0 D σ H e kn kb kc kr => h A H0 σ H e _ fun v H1 n1 tv => kr v d H1 k (e.retA n1) (tv.chg fun a h => .inl (.inl h))
theorem w_retN (k : P.rt .non) : W M tRetN Γ P := fun A H0 D σ H e kn kb kc kr => kr .non .non H k (e.retA (.refl e)) .non
theorem w_retO {i : Nat} (h : Γ[i]? = some (.o ds)) (k : P.rt (.lst ds)) : W M (tRet (tVar i)) Γ P := fun A H0 D σ H e kn kb kc kr => by
  obtain ⟨p, xs, h1, h2, h3⟩ := e.at' i _ h
  exact ⟨_, h1, kr _ _ H k (e.retA (.refl e)) (.lst h2 (e.ownA ⟨i, ds, h, h1⟩) (h3.chg fun a h => .inl (.inl h)))⟩
/-- an own list turns -/
theorem En.updo {i : Nat} {p : Addr} {xs : List V} (e : En M A H0 Γ σ H) (h : Γ[i]? = some (.o ds)) (hs : σ[i]? = some (some (.ref p))) (l : IsL M.K (SA A σ Γ) H xs es) : En M A H0 (Γ.set i (.o es)) σ (upd H p (.lst xs)) ∧ Go A σ Γ H σ (Γ.set i (.o es)) (upd H p (.lst xs)) := by
  have hi : i < Γ.length := (List.getElem?_eq_some_iff.mp h).1
  have op : own σ Γ p := ⟨i, ds, h, hs⟩
  obtain ⟨p', ys, h1, hp, _⟩ := e.at' i _ h
  rw [hs] at h1
  cases h1
  have so : ∀ a, own σ (Γ.set i (.o es)) a → own σ Γ a := fun a w => by
    obtain ⟨j, fs, h1, h2⟩ := w
    rcases set_at h1 with ⟨rfl, z⟩ | ⟨n, h⟩
    · exact ⟨j, ds, h, h2⟩
    · exact ⟨j, fs, h, h2⟩
  have ss : ∀ a, SA A σ (Γ.set i (.o es)) a → SA A σ Γ a := fun a h => h.elim .inl fun h => .inr (so a h)
  have fS : Fr (SA A σ Γ) H (upd H p (.lst xs)) := .at (.inr op) hp rfl
  have al : ∀ a, (upd H p (.lst xs)) a = none → H a = none := fun a z => by
    by_cases c : a = p
    · rw [c, upd_same] at z
      cases z
    · rw [upd_ne c] at z
      exact z
  refine ⟨⟨by rw [List.length_set, e.len], fun j x hx => ?_, fun j k es' fs a h1 h2 h3 h4 => ?_, ?_, fun a h => e.new a (so a h), fun a h => e.nA a (so a h), fun a h => ?_, ?_, e.cA⟩, fS, fun a h => .inl (so a h), al⟩
  · rcases set_at hx with ⟨rfl, rfl⟩ | ⟨n, hj⟩
    · exact ⟨p, xs, hs, upd_same, (l.stay fS).chg fun a h => .inl (ss a h)⟩
    · have q := e.at' j x hj
      cases x with
      | any => exact q
      | f d =>
        obtain ⟨v, h3, h4⟩ := q
        exact ⟨v, h3, (h4.stay fS).chg fun a h => .inl (ss a h)⟩
      | o fs =>
        obtain ⟨q, ys, h3, h4, h5⟩ := q
        have ne : q ≠ p := fun z => n (e.inj j i fs ds p hj h (by rw [h3, z]) hs)
        exact ⟨q, ys, h3, by rw [upd_ne ne]; exact h4, (h5.stay fS).chg fun a h => .inl (ss a h)⟩
  · have o1 : ∃ fs, Γ[j]? = some (Sl.o fs) := by
      rcases set_at h1 with ⟨rfl, z⟩ | ⟨n, h⟩
      · exact ⟨_, h⟩
      · exact ⟨_, h⟩
    have o2 : ∃ fs, Γ[k]? = some (Sl.o fs) := by
      rcases set_at h2 with ⟨rfl, z⟩ | ⟨n, h⟩
      · exact ⟨_, h⟩
      · exact ⟨_, h⟩
    obtain ⟨f1, o1⟩ := o1
    obtain ⟨f2, o2⟩ := o2
    exact e.inj j k f1 f2 a o1 o2 h3 h4
  · exact fun b o hb n => by
      rw [upd_ne fun z => by rw [z, e.new p op] at hb; cases hb]
      exact e.fr b o hb n
  · by_cases c : a = p
    · exact ⟨_, by rw [c]; exact upd_same⟩
    · rw [upd_ne c]
      exact e.av a h
  · exact M.gc (fun a h => .inl (ss a h)) (M.gs (.at (S := fun b => SA A σ Γ b ∧ ¬ M.C b) ⟨.inr op, e.ownC op⟩ hp rfl) e.inv)
theorem s_app {i : Nat} (hi : Γ[i]? = some (.o ds)) (h : E M te Γ d) (hz : ds.length < 1000000) (k : P.nx (Γ.set i (.o (ds ++ [d])))) : W M (tDrop (tBM M.K "list" rAppend (tVar i) (tCons te tNil))) Γ P := fun A H0 D σ H e kn kb kc kr => by
  obtain ⟨p, xs, h1, h2, h3⟩ := e.at' i _ hi
  refine ⟨_, h1, .inl ⟨rfl, _, SqL.of h2⟩, h A H0 σ H e _ fun v H1 n1 tv => ?_⟩
  have e1 := e.nx n1
  have hp := n1.own e ⟨i, ds, hi, h1⟩ h2
  obtain ⟨e2, g2⟩ := e1.updo hi h1 ((h3.stay n1.sf).app (.one tv))
  exact ⟨p, xs, v, rfl, rfl, hp, by rw [h3.len]; exact sz6 hz, kn _ _ _ k e2 (n1.go.trans e1 g2)⟩
theorem w_app {i : Nat} (hi : Γ[i]? = some (.o ds)) (h : E M te Γ d) (hz : ds.length < 1000000) (k : W M tz (Γ.set i (.o (ds ++ [d]))) P) : W M (tSeq (tDrop (tBM M.K "list" rAppend (tVar i) (tCons te tNil))) tz) Γ P := w_seq (s_app hi h hz k)
theorem s_ext {i : Nat} (hi : Γ[i]? = some (.o ds)) (h : ER M te Γ es) (hz : ds.length + es.length ≤ 1000000) (k : P.nx (Γ.set i (.o (ds ++ es)))) : W M (tDrop (tBM M.K "list" rExtend (tVar i) (tCons te tNil))) Γ P := fun A H0 D σ H e kn kb kc kr => by
  obtain ⟨p, xs, h1, h2, h3⟩ := e.at' i _ hi
  refine ⟨_, h1, .inl ⟨rfl, _, SqL.of h2⟩, h A H0 σ H e _ fun m ys H1 n1 hm cm tv => ?_⟩
  have e1 := e.nx n1
  have hp := n1.own e ⟨i, ds, hi, h1⟩ h2
  obtain ⟨e2, g2⟩ := e1.updo hi h1 ((h3.stay n1.sf).app tv)
  exact ⟨p, m, xs, ys, rfl, rfl, hp, hm, by rw [h3.len, tv.len]; exact sz5 hz, kn _ _ _ k e2 (n1.go.trans e1 g2)⟩
theorem w_ext {i : Nat} (hi : Γ[i]? = some (.o ds)) (h : ER M te Γ es) (hz : ds.length + es.length ≤ 1000000) (k : W M tz (Γ.set i (.o (ds ++ es))) P) : W M (tSeq (tDrop (tBM M.K "list" rExtend (tVar i) (tCons te tNil))) tz) Γ P := w_seq (s_ext hi h hz k)
theorem s_put {i : Nat} {n : Int} {j : Nat} (hi : Γ[i]? = some (.o ds)) (h : E M te Γ d) (hj : E M ta Γ (.int n)) (hn : ixN ds.length n = some j) (k : P.nx (Γ.set i (.o (ds.set j d)))) : W M (tAsg te (gSub (tVar i) ta rSetL)) Γ P := fun A H0 D σ H e kn kb kc kr => h A H0 σ H e _ fun v H1 n1 tv => by
  obtain ⟨p, xs, h1, h2, h3⟩ := (e.nx n1).at' i _ hi
  refine ⟨_, h1, hj A H0 σ H1 (e.nx n1) _ fun v2 H2 n2 t2 => ?_⟩
  rw [isd_int t2]
  have e2 := (e.nx n1).nx n2
  have hp := n2.own (e.nx n1) ⟨i, ds, hi, h1⟩ h2
  obtain ⟨e3, g3⟩ := e2.updo hi h1 ((h3.stay n2.sf).set j (tv.stay n2.sf))
  exact ⟨p, xs, n, j, rfl, rfl, hp, by rw [h3.len]; exact hn, kn _ _ _ k e3 ((n1.trans n2).go.trans e2 g3)⟩
theorem w_put {i : Nat} {n : Int} {j : Nat} (hi : Γ[i]? = some (.o ds)) (h : E M te Γ d) (hj : E M ta Γ (.int n)) (hn : ixN ds.length n = some j) (k : W M tz (Γ.set i (.o (ds.set j d))) P) : W M (tSeq (tAsg te (gSub (tVar i) ta rSetL)) tz) Γ P := w_seq (s_put hi h hj hn k)
theorem s_drop (h : E M te Γ d) (k : P.nx Γ) : W M (tDrop te) Γ P := fun A H0 D σ H e kn kb kc kr => h A H0 σ H e _ fun v H1 n1 tv => kn _ _ _ k (e.nx n1) n1.go
theorem w_drop (h : E M te Γ d) (k : W M tz Γ P) : W M (tSeq (tDrop te) tz) Γ P := w_seq (s_drop h k)
end
end
section
set_option Elab.async false
set_option linter.all false
set_option maxRecDepth 100000
set_option maxHeartbeats 1000000
open PySem PySem.Spec PyProof.Rows L2
section
variable {M : Md} {A : AS} {K : PySem.W.Frag} {H0 H H1 H2 H' : Hp} {Γ Δ Γ' Γ1 Γ2 : List Sl} {σ σ' σ1 : L2.St} {S : AS} {d d1 d2 : Dt} {ds es fs : List Dt} {te ta tb tl : TE} {tas : TA} {t u : TT} {b : Bool} {tu tw tz ts : TS} {P : Po} {g : TG} {gs : TGs} {D : Ends} {wi : TI} {js ks vs : List Nat}
/-! targets -/
structure Tg (A : AS) (σ : L2.St) (Γ : List Sl) (H : Hp) (σ' : L2.St) (Γ' : List Sl) (js : List Nat) : Prop where
  go : Go A σ Γ H σ' Γ' H
  wp : ∀ vs : List Nat, (∀ j ∈ js, j ∈ vs) → wipe σ' vs = wipe σ vs
  ow : ∀ (a : Addr) (i : Nat) (ds : List Dt), Γ[i]? = some (Sl.o ds) → σ[i]? = some (some (V.ref a)) → i ∉ js → Γ'[i]? = some (Sl.o ds) ∧ σ'[i]? = some (some (V.ref a))
/-- a value that is d is put into the target: Γ' behind it -/
def GT (K : PySem.W.Frag) (g : TG) (Γ : List Sl) (d : Dt) (Γ' : List Sl) (js : List Nat) : Prop := ∀ (M : Md) A H0 σ H v, M.K = K → En M A H0 Γ σ H → IsD K (SA A σ Γ) H v d → ∀ Q : L2.St → Hp → Prop, (∀ σ', En M A H0 Γ' σ' H → Tg A σ Γ H σ' Γ' js → Q σ' H) → g v σ H Q
def GTs (K : PySem.W.Frag) (g : TGs) (Γ : List Sl) (ds : List Dt) (Γ' : List Sl) (js : List Nat) : Prop := ∀ (M : Md) A H0 σ H vs, M.K = K → En M A H0 Γ σ H → IsL K (SA A σ Γ) H vs ds → ∀ Q : L2.St → Hp → Prop, (∀ σ', En M A H0 Γ' σ' H → Tg A σ Γ H σ' Γ' js → Q σ' H) → g vs σ H Q
theorem wipe_get : ∀ {vs : List Nat} {σ : L2.St} {i : Nat}, (wipe σ vs)[i]? = if i ∈ vs ∧ i < σ.length then some none else σ[i]?
  | [], σ, i => by simp [wipe]
  | v :: vs, σ, i => by
    rw [wipe, List.getElem?_set, wipe_length, wipe_get]
    by_cases c : v = i
    · subst c
      by_cases h : v < σ.length
      · simp [h]
      · simp [h]
    · rw [if_neg c]
      by_cases h : i ∈ vs ∧ i < σ.length
      · rw [if_pos h, if_pos ⟨List.mem_cons_of_mem _ h.1, h.2⟩]
      · rw [if_neg h, if_neg fun z => h ⟨(List.mem_cons.mp z.1).resolve_left fun z => c z.symm, z.2⟩]
theorem wipe_eq {σ σ' : L2.St} {vs : List Nat} (hl : σ'.length = σ.length) (h : ∀ i, i ∉ vs → σ'[i]? = σ[i]?) : wipe σ' vs = wipe σ vs := by
  apply List.ext_getElem?
  intro i
  rw [wipe_get, wipe_get, hl]
  by_cases c : i ∈ vs
  · by_cases l : i < σ.length
    · rw [if_pos ⟨c, l⟩, if_pos ⟨c, l⟩]
    · rw [if_neg fun z => l z.2, if_neg fun z => l z.2, List.getElem?_eq_none (by omega), List.getElem?_eq_none (by omega)]
  · rw [if_neg fun z => c z.1, if_neg fun z => c z.1, h i c]
theorem gt_name {j : Nat} : GT K (gName j) Γ d (Γ.set j (.f d)) [j] := fun M A H0 σ H v hk e hv Q q => by
  subst hk
  refine q _ (e.setf hv) ⟨Go.setf, fun vs hj => ?_, fun a i ds h1 h2 h3 => ?_⟩
  · exact wipe_eq (by rw [List.length_set]) fun i hi => set_ne fun z => hi (by rw [z]; exact hj j (List.mem_singleton.mpr rfl))
  · have n : i ≠ j := fun z => h3 (List.mem_singleton.mpr z)
    rw [set_ne n, set_ne n]
    exact ⟨h1, h2⟩
theorem gt_any {j : Nat} : GT K (gName j) Γ d (Γ.set j .any) [j] := fun M A H0 σ H v hk e hv Q q => by
  refine gt_name M A H0 σ H v hk e hv Q fun σ' e' t => q σ' ?_ ?_
  · refine e'.sub ?_
    have : ∀ (Γ : List Sl) (j : Nat), Sub (Γ.set j (.f d)) (Γ.set j .any) := by
      intro Γ
      induction Γ with
      | nil => intro j; exact .nil
      | cons s Γ ih =>
        intro j
        cases j with
        | zero => exact .cons .any Sub.refl
        | succ j => exact .cons .refl (ih j)
    exact this Γ j
  · refine ⟨t.go.sub ?_, t.wp, fun a i ds h1 h2 h3 => ?_⟩
    · have : ∀ (Γ : List Sl) (j : Nat), Sub (Γ.set j (.f d)) (Γ.set j .any) := by
        intro Γ
        induction Γ with
        | nil => intro j; exact .nil
        | cons s Γ ih =>
          intro j
          cases j with
          | zero => exact .cons .any Sub.refl
          | succ j => exact .cons .refl (ih j)
      exact this Γ j
    · have n : i ≠ j := fun z => h3 (List.mem_singleton.mpr z)
      have := t.ow a i ds h1 h2 h3
      rw [set_ne n] at this ⊢
      exact this
theorem gts_nil : GTs K gNil Γ [] Γ [] := fun M A H0 σ H vs hk e hv Q q => by
  cases hv
  exact ⟨rfl, q _ e ⟨.refl, fun _ _ => rfl, fun a i ds h1 h2 _ => ⟨h1, h2⟩⟩⟩
theorem gts_cons (h : GT K g Γ d Γ1 js) (hs : GTs K gs Γ1 ds Γ' ks) : GTs K (gCons g gs) Γ (d :: ds) Γ' (js ++ ks) := fun M A H0 σ H vs hk e hv Q q => by
  cases hv with
  | cons h1 h2 =>
    refine ⟨_, _, rfl, h M A H0 σ H _ hk e h1 _ fun σ1 e1 t1 => ?_⟩
    have ss : ∀ a, SA A σ1 Γ1 a → SA A σ Γ a ∨ H a = none := fun a h => h.elim (fun h => .inl (.inl h)) fun h => (t1.go.ow a h).elim (fun h => .inl (.inr h)) .inr
    refine hs M A H0 σ1 H _ hk e1 (h2.chg ss) Q fun σ2 e2 t2 => q σ2 e2 ⟨t1.go.trans e1 t2.go, fun vs hj => ?_, fun a i ds g1 g2 g3 => ?_⟩
    · rw [t2.wp vs fun j hh => hj j (List.mem_append_right _ hh), t1.wp vs fun j hh => hj j (List.mem_append_left _ hh)]
    · have q1 := t1.ow a i ds g1 g2 fun z => g3 (List.mem_append_left _ z)
      exact t2.ow a i ds q1.1 q1.2 fun z => g3 (List.mem_append_right _ z)
theorem gt_tup {n : Nat} (h : GTs K gs Γ ds Γ' js) (hn : ds.length = n) : GT K (gTup K n gs) Γ (.tup ds) Γ' js := fun M A H0 σ H v hk e hv Q q => by
  obtain ⟨a, xs, rfl, s, l⟩ := isd_tup hv
  exact ⟨a, xs, rfl, s, by rw [l.len, hn], h M A H0 σ H xs hk e l Q q⟩
theorem s_asg (h : E M te Γ d) (hg : GT M.K g Γ d Γ' js) (k : P.nx Γ') : W M (tAsg te g) Γ P := fun A H0 D σ H e kn kb kc kr => h A H0 σ H e _ fun v H1 n1 tv =>
  hg M A H0 σ H1 v rfl (e.nx n1) tv _ fun σ' e' t => kn _ _ _ k e' (n1.go.trans (e.nx n1) t.go)
theorem w_asg (h : E M te Γ d) (hg : GT M.K g Γ d Γ' js) (k : W M tz Γ' P) : W M (tSeq (tAsg te g) tz) Γ P := w_seq (s_asg h hg k)
/-! what is walked -/
def ItOk (K : PySem.W.Frag) (S : AS) (H1 : Hp) (J : It) (ds : List Dt) : Prop := ∀ H2, Fr S H1 H2 → (∀ a, H2 a = none → H1 a = none) → (∀ i, i < ds.length → J.go i H2) ∧ J.stop ds.length H2 ∧ ∀ i x H3, J.yld i H2 x H3 → Same H2 H3 ∧ (∀ a, H3 a = none → H2 a = none) ∧
  ∀ d, ds[i]? = some d → ∀ S' : AS, (∀ a, S' a → S a ∨ H1 a = none) → (∀ a, S' a → ∃ o, H2 a = some o) → IsD K S' H3 x d
def IT (M : Md) (wi : TI) (Γ : List Sl) (ds : List Dt) : Prop := ∀ A H0 σ H, En M A H0 Γ σ H → ∀ R : It → Hp → Prop, (∀ J H1, Nx M (SA A σ Γ) H H1 → ItOk M.K (SA A σ Γ) H1 J ds → R J H1) → wi σ H R
theorem IT.is (h : IT M wi Γ ds) (e : ds = es) : IT M wi Γ es := e ▸ h
theorem isl_turn {S' : AS} {v : V} (h : IsD K S H1 v d) (f : Fr S H1 H2) (h1 : ∀ a, S' a → S a ∨ H1 a = none) : IsD K S' H2 v d :=
  ((h.chg (S' := fun a => S a ∨ S' a) fun a z => z.elim .inl (h1 a)).stay (f.mono fun a z => .inl z)).chg fun a z => .inl (.inr z)
theorem it_tup (h : E M tl Γ (.tup ds)) : IT M (iTup M.K tl) Γ ds := fun A H0 σ H e R r => h A H0 σ H e _ fun v H1 n1 tv => by
  obtain ⟨a, xs, rfl, s, l⟩ := isd_tup tv
  refine ⟨a, rfl, ⟨xs, s⟩, r _ _ n1 fun H2 f al => ⟨fun i hi => ?_, ⟨xs, f.sqt s, Nat.le_of_eq l.len⟩, fun i x H3 y => ?_⟩⟩
  · exact ⟨xs, xs[i]'(by rw [l.len]; exact hi), f.sqt s, List.getElem?_eq_getElem _⟩
  · obtain ⟨rfl, y⟩ := y
    exact ⟨.refl _, fun _ h => h, fun d hd S' h1 h2 => isl_turn (l.at (y xs (f.sqt s)) hd) f h1⟩
theorem it_lst (h : E M tl Γ (.lst ds)) : IT M (iList M.K tl) Γ ds := fun A H0 σ H e R r => h A H0 σ H e _ fun v H1 n1 tv => by
  obtain ⟨a, xs, rfl, s, na, l⟩ := isd_lst tv
  refine ⟨a, rfl, ⟨xs, SqL.of s⟩, r _ _ n1 fun H2 f al => ?_⟩
  have s2 : SqL M.K H2 a xs := SqL.of (f.no s na)
  refine ⟨fun i hi => ?_, ⟨xs, s2, Nat.le_of_eq l.len⟩, fun i x H3 y => ?_⟩
  · exact ⟨xs, xs[i]'(by rw [l.len]; exact hi), s2, List.getElem?_eq_getElem _⟩
  · obtain ⟨rfl, y⟩ := y
    exact ⟨.refl _, fun _ h => h, fun d hd S' h1 h2 => isl_turn (l.at (y xs s2) hd) f h1⟩
theorem it_rng1 {n : Nat} (h : E M te Γ (.int (n : Int))) (hn : n ≤ 1000000) : IT M (iRng1 (tCons te tNil)) Γ ((List.range n).map fun i : Nat => Dt.int (i : Int)) := fun A H0 σ H e R r => h A H0 σ H e _ fun v H1 n1 tv => by
  rw [isd_int tv]
  refine ⟨_, rfl, by omega, by omega, r _ _ n1 fun H2 f al => ⟨fun i hi => ?_, ?_, fun i x H3 y => ?_⟩⟩
  · rw [List.length_map, List.length_range] at hi
    show i < (n : Int).toNat
    omega
  · rw [List.length_map, List.length_range]
    show (n : Int).toNat ≤ n
    omega
  · obtain ⟨rfl, rfl⟩ := y
    refine ⟨.refl _, fun _ h => h, fun d hd S' h1 h2 => ?_⟩
    rw [List.getElem?_map] at hd
    by_cases c : i < n
    · rw [List.getElem?_range c] at hd
      cases hd
      rw [Int.zero_add]
      exact .int _
    · rw [List.getElem?_eq_none (by rw [List.length_range]; omega)] at hd
      cases hd
theorem it_rng2 {a c : Int} (h : E M te Γ (.int a)) (h2 : E M ta Γ (.int c)) (h3 : -1000000 ≤ a ∧ a ≤ 1000000 ∧ -1000000 ≤ c ∧ c ≤ 1000000) : IT M (iRng2 (tCons te (tCons ta tNil))) Γ ((List.range (c - a).toNat).map fun i : Nat => Dt.int (a + (i : Int))) := fun A H0 σ H e R r => h A H0 σ H e _ fun v H1 n1 tv => h2 A H0 σ H1 (e.nx n1) _ fun v2 H2 n2 t2 => by
  rw [isd_int tv, isd_int t2]
  refine ⟨_, _, rfl, by omega, r _ _ (n1.trans n2) fun H2 f al => ⟨fun i hi => ?_, ?_, fun i x H3 y => ?_⟩⟩
  · rw [List.length_map, List.length_range] at hi
    exact hi
  · rw [List.length_map, List.length_range]
    exact Nat.le_refl _
  · obtain ⟨rfl, rfl⟩ := y
    refine ⟨.refl _, fun _ h => h, fun d hd S' h1 h2 => ?_⟩
    rw [List.getElem?_map] at hd
    by_cases c : i < (c - a).toNat
    · rw [List.getElem?_range c] at hd
      cases hd
      exact .int _
    · rw [List.getElem?_eq_none (by rw [List.length_range]; omega)] at hd
      cases hd
theorem new_tup {T : Addr} {xs : List V} (hT : H T = none) (l : IsL K S H xs ds) : IsD K S (upd H T (.tup xs)) (.ref T) (.tup ds) := .tup (SqT.of upd_same) (l.stay (.new hT))
theorem upd_al {T : Addr} {o : HO} : ∀ a, (upd H T o) a = none → H a = none := fun a h => by
  by_cases c : a = T
  · rw [c, upd_same] at h
    cases h
  · rw [upd_ne c] at h
    exact h
def enumD (ds : List Dt) : List Dt := ds.mapIdx fun i d => .tup [.int (i : Nat), d]
theorem it_enum (h : E M te Γ (.lst ds)) : IT M (iEnum M.K (tCons te tNil)) Γ (enumD ds) := fun A H0 σ H e R r => h A H0 σ H e _ fun v H1 n1 tv => by
  obtain ⟨a, xs, rfl, s, na, l⟩ := isd_lst tv
  refine ⟨a, xs, rfl, SqL.of s, r _ _ n1 fun H2 f al => ?_⟩
  have s2 : SqL M.K H2 a xs := SqL.of (f.no s na)
  have el : (enumD ds).length = ds.length := by unfold enumD; rw [List.length_mapIdx]
  refine ⟨fun i hi => ?_, ⟨xs, s2, by rw [el]; exact Nat.le_of_eq l.len⟩, fun i x H3 y => ?_⟩
  · exact ⟨xs, xs[i]'(by rw [l.len, ← el]; exact hi), s2, List.getElem?_eq_getElem _⟩
  · obtain ⟨T, z, rfl, hT, rfl, y⟩ := y
    refine ⟨same_new hT, upd_al, fun d hd S' h1 h2 => ?_⟩
    unfold enumD at hd
    rw [List.getElem?_mapIdx] at hd
    cases e : ds[i]? with
    | none => rw [e] at hd; cases hd
    | some d0 =>
      rw [e] at hd
      cases hd
      exact new_tup hT (.cons (.int _) (.one (isl_turn (l.at (y xs s2) e) f h1)))
def zipD (ds es : List Dt) : List Dt := List.zipWith (fun d e => Dt.tup [d, e]) ds es
theorem zipD_at {i : Nat} (h : (zipD ds es)[i]? = some d) : ∃ a b, ds[i]? = some a ∧ es[i]? = some b ∧ d = .tup [a, b] := by
  unfold zipD at h
  rw [List.getElem?_zipWith] at h
  cases e1 : ds[i]? with
  | none => rw [e1] at h; cases h
  | some a => cases e2 : es[i]? with
    | none => rw [e1, e2] at h; cases h
    | some b =>
      rw [e1, e2] at h
      cases h
      exact ⟨a, b, rfl, rfl, rfl⟩
theorem it_zip (h : E M te Γ (.lst ds)) (h2 : E M ta Γ (.lst es)) : IT M (RZ.iZipA M.K (tCons te (tCons ta tNil))) Γ (zipD ds es) := fun A H0 σ H e R r => h A H0 σ H e _ fun v H1 n1 tv => h2 A H0 σ H1 (e.nx n1) _ fun v2 H2 n2 t2 => by
  obtain ⟨a, xs, rfl, s, na, l⟩ := isd_lst (tv.stay n2.sf)
  obtain ⟨c, ys, rfl, s', nc, l'⟩ := isd_lst t2
  refine ⟨a, c, xs, ys, rfl, .inl ⟨SqL.of s, SqL.of s', r _ _ (n1.trans n2) fun H2 f al => ?_⟩⟩
  have s2 : SqL M.K H2 a xs := SqL.of (f.no s na)
  have s3 : SqL M.K H2 c ys := SqL.of (f.no s' nc)
  have el : (zipD ds es).length = min xs.length ys.length := by unfold zipD; rw [List.length_zipWith, l.len, l'.len]
  refine ⟨fun i hi => ?_, ⟨xs, ys, s2, s3, by omega⟩, fun i x H3 y => ?_⟩
  · exact ⟨xs, ys, xs[i]'(by omega), ys[i]'(by omega), s2, s3, List.getElem?_eq_getElem _, List.getElem?_eq_getElem _⟩
  · obtain ⟨T, x1, y1, rfl, hT, rfl, g1, g2⟩ := y
    refine ⟨same_new hT, upd_al, fun d hd S' h1 h2 => ?_⟩
    obtain ⟨a1, b1, z1, z2, rfl⟩ := zipD_at hd
    exact new_tup hT (.cons (isl_turn (l.at (g1 xs s2) z1) f h1) (.one (isl_turn (l'.at (g2 ys s3) z2) f h1)))
theorem it_zipT (h : E M te Γ (.tup ds)) (h2 : E M ta Γ (.tup es)) : IT M (RZ.iZipA M.K (tCons te (tCons ta tNil))) Γ (zipD ds es) := fun A H0 σ H e R r => h A H0 σ H e _ fun v H1 n1 tv => h2 A H0 σ H1 (e.nx n1) _ fun v2 H2 n2 t2 => by
  obtain ⟨a, xs, rfl, s, l⟩ := isd_tup (tv.stay n2.sf)
  obtain ⟨c, ys, rfl, s', l'⟩ := isd_tup t2
  refine ⟨a, c, xs, ys, rfl, .inr ⟨s, s', r _ _ (n1.trans n2) fun H2 f al => ?_⟩⟩
  have s2 : SqT M.K H2 a xs := f.sqt s
  have s3 : SqT M.K H2 c ys := f.sqt s'
  have el : (zipD ds es).length = min xs.length ys.length := by unfold zipD; rw [List.length_zipWith, l.len, l'.len]
  refine ⟨fun i hi => ?_, ⟨xs, ys, s2, s3, by omega⟩, fun i x H3 y => ?_⟩
  · exact ⟨xs, ys, xs[i]'(by omega), ys[i]'(by omega), s2, s3, List.getElem?_eq_getElem _, List.getElem?_eq_getElem _⟩
  · obtain ⟨T, x1, y1, rfl, hT, rfl, g1, g2⟩ := y
    refine ⟨same_new hT, upd_al, fun d hd S' h1 h2 => ?_⟩
    obtain ⟨a1, b1, z1, z2, rfl⟩ := zipD_at hd
    exact new_tup hT (.cons (isl_turn (l.at (g1 xs s2) z1) f h1) (.one (isl_turn (l'.at (g2 ys s3) z2) f h1)))
theorem rev_at {α : Type} {l : List α} {i : Nat} {x : α} (h : l.reverse[i]? = some x) : l[l.length - 1 - i]? = some x := by
  have hi : i < l.length := by
    have := (List.getElem?_eq_some_iff.mp h).1
    rw [List.length_reverse] at this
    exact this
  rw [List.getElem?_reverse hi] at h
  exact h
theorem it_rev (h : E M te Γ (.lst ds)) : IT M (RT.iRevA M.K te) Γ ds.reverse := fun A H0 σ H e R r => h A H0 σ H e _ fun v H1 n1 tv => by
  obtain ⟨a, xs, rfl, s, na, l⟩ := isd_lst tv
  refine ⟨a, xs, rfl, .inl ⟨SqL.of s, r _ _ n1 fun H2 f al => ?_⟩⟩
  have s2 : SqL M.K H2 a xs := SqL.of (f.no s na)
  refine ⟨fun i hi => ⟨by rw [List.length_reverse] at hi; rw [l.len]; exact hi, xs, xs[xs.length - 1 - i]'(by rw [List.length_reverse] at hi; rw [l.len]; omega), s2, List.getElem?_eq_getElem _⟩, by rw [List.length_reverse]; exact Nat.le_of_eq l.len, fun i x H3 y => ?_⟩
  obtain ⟨rfl, y⟩ := y
  refine ⟨.refl _, fun _ h => h, fun d hd S' h1 h2 => ?_⟩
  have q := y xs s2
  rw [l.len] at q
  exact isl_turn (l.at q (rev_at hd)) f h1
/-! for -/
theorem En.same (e : En M A H0 Γ σ H) (s : Same H H1) (al : ∀ a, H1 a = none → H a = none) : Nx M (SA A σ Γ) H H1 where
  fr := .of s
  al := fun a ha => by
    obtain ⟨o, ho⟩ := e.av a (e.cA a ha)
    exact ⟨o, s _ _ ho⟩
  inv := M.gs (.of s) e.inv
  cS := fun a h => .inl (e.cA a h)
theorem s_forI (h : IT M wi Γ ds) (I : Nat → List Sl → Prop) (h0 : I 0 Γ) (hs : ∀ i Γi d, I i Γi → ds[i]? = some d → ∃ Δ Γ1 js, Sub Γi Δ ∧ GT M.K g Δ d Γ1 js ∧ W M tu Γ1 { nx := I (i + 1), ct := I (i + 1), bk := P.nx, rt := P.rt }) (hd : ∀ Γn, I ds.length Γn → P.nx Γn) : W M (tFor wi g tu) Γ P := fun A H0 D σ H e kn kb kc kr =>
  h A H0 σ H e _ fun J H1 n1 ok => by
    have e1 := e.nx n1
    refine Mg.for_word (n := ds.length) (fun i σ' H' => ∃ Γi, I i Γi ∧ En M A H0 Γi σ' H' ∧ Go A σ Γ H1 σ' Γi H') ⟨Γ, h0, e1, .refl⟩ (fun i σ' H' hi ⟨Γi, _, q⟩ => (ok H' q.2.fr q.2.al).1 i hi) (fun σ' H' ⟨Γi, _, q⟩ => (ok H' q.2.fr q.2.al).2.1) (fun i x σ' H' H'' hi q y => ?_) (fun σ' H' ⟨Γi, p, q⟩ => kn _ _ _ (hd _ p) q.1 (n1.go.trans e1 q.2))
    obtain ⟨Γi, pi, e2, g2⟩ := q
    obtain ⟨sm, al, dat⟩ := (ok H' g2.fr g2.al).2.2 i x H'' y
    obtain ⟨Δ, Γ1, js, sb, tg, body⟩ := hs i Γi _ pi (List.getElem?_eq_getElem hi)
    have g2 := g2.sub sb
    have e2 := e2.sub sb
    have n3 := e2.same sm al
    have dx := dat _ (List.getElem?_eq_getElem hi) (SA A σ' Δ) (fun a z => z.elim (fun z => .inl (.inl z)) fun z => (g2.ow a z).elim (fun z => .inl (.inr z)) .inr) e2.sv
    refine tg M A H0 σ' H'' x rfl (e2.nx n3) dx _ fun σ3 e3 t3 => ?_
    have g3 : Go A σ Γ H1 σ3 Γ1 H'' := (g2.trans e2 n3.go).trans (e2.nx n3) t3.go
    refine body A H0 _ σ3 H'' e3 (fun Γ' σ4 H4 p e4 g4 => ⟨Γ', p, e4, g3.trans e3 g4⟩) (fun Γ' σ4 H4 p e4 g4 => kn _ _ _ p e4 (n1.go.trans e1 (g3.trans e3 g4))) (fun Γ' σ4 H4 p e4 g4 => ⟨Γ', p, e4, g3.trans e3 g4⟩) kr
theorem W.post {Q : Po} (h : W M ts Γ Q) (hn : ∀ Γ, Q.nx Γ → P.nx Γ) (hr : ∀ d, Q.rt d → P.rt d) (hb : ∀ Γ, Q.bk Γ → P.bk Γ) (hc : ∀ Γ, Q.ct Γ → P.ct Γ) : W M ts Γ P := fun A H0 D σ H e kn kb kc kr =>
  h A H0 D σ H e (fun Γ' σ' H' p => kn Γ' σ' H' (hn _ p)) (fun Γ' σ' H' p => kb Γ' σ' H' (hb _ p)) (fun Γ' σ' H' p => kc Γ' σ' H' (hc _ p)) (fun v d H' p => kr v d H' (hr _ p))
theorem w_forI (h : IT M wi Γ ds) (I : Nat → List Sl → Prop) (h0 : I 0 Γ) (hs : ∀ i Γi d, I i Γi → ds[i]? = some d → ∃ Δ Γ1 js, Sub Γi Δ ∧ GT M.K g Δ d Γ1 js ∧ W M tu Γ1 { nx := I (i + 1), ct := I (i + 1), bk := fun Γ' => W M tz Γ' P, rt := P.rt }) (hd : ∀ Γn, I ds.length Γn → W M tz Γn P) : W M (tSeq (tFor wi g tu) tz) Γ P :=
  w_seq (s_forI h I h0 hs hd)
theorem s_for (h : IT M wi Γ ds) (I : Nat → List Sl) (h0 : Sub Γ (I 0)) (hs : ∀ i d, ds[i]? = some d → ∃ Γ1 js, GT M.K g (I i) d Γ1 js ∧ W M tu Γ1 { nx := fun Γ' => Sub Γ' (I (i + 1)), ct := fun Γ' => Sub Γ' (I (i + 1)), bk := P.nx, rt := P.rt }) (hd : P.nx (I ds.length)) : W M (tFor wi g tu) Γ P := fun A H0 D σ H e kn kb kc kr =>
  h A H0 σ H e _ fun J H1 n1 ok => by
    have e1 := e.nx n1
    refine Mg.for_word (n := ds.length) (fun i σ' H' => En M A H0 (I i) σ' H' ∧ Go A σ Γ H1 σ' (I i) H') ⟨e1.sub h0, Go.refl.sub h0⟩ (fun i σ' H' hi q => (ok H' q.2.fr q.2.al).1 i hi) (fun σ' H' q => (ok H' q.2.fr q.2.al).2.1) (fun i x σ' H' H'' hi q y => ?_) (fun σ' H' q => kn _ _ _ hd q.1 (n1.go.trans e1 q.2))
    obtain ⟨e2, g2⟩ := q
    obtain ⟨sm, al, dat⟩ := (ok H' g2.fr g2.al).2.2 i x H'' y
    obtain ⟨Γ1, js, tg, body⟩ := hs i _ (List.getElem?_eq_getElem hi)
    have n3 := e2.same sm al
    have dx := dat _ (List.getElem?_eq_getElem hi) (SA A σ' (I i)) (fun a z => z.elim (fun z => .inl (.inl z)) fun z => (g2.ow a z).elim (fun z => .inl (.inr z)) .inr) e2.sv
    refine tg M A H0 σ' H'' x rfl (e2.nx n3) dx _ fun σ3 e3 t3 => ?_
    have g3 : Go A σ Γ H1 σ3 Γ1 H'' := (g2.trans e2 n3.go).trans (e2.nx n3) t3.go
    refine body A H0 _ σ3 H'' e3 (fun Γ' σ4 H4 p e4 g4 => ⟨e4.sub p, (g3.trans e3 g4).sub p⟩) (fun Γ' σ4 H4 p e4 g4 => kn _ _ _ p e4 (n1.go.trans e1 (g3.trans e3 g4))) (fun Γ' σ4 H4 p e4 g4 => ⟨e4.sub p, (g3.trans e3 g4).sub p⟩) kr
theorem w_for (h : IT M wi Γ ds) (I : Nat → List Sl) (h0 : Sub Γ (I 0)) (hs : ∀ i d, ds[i]? = some d → ∃ Γ1 js, GT M.K g (I i) d Γ1 js ∧ W M tu Γ1 { nx := fun Γ' => Sub Γ' (I (i + 1)), ct := fun Γ' => Sub Γ' (I (i + 1)), bk := fun Γ' => W M tz Γ' P, rt := P.rt }) (hd : W M tz (I ds.length) P) : W M (tSeq (tFor wi g tu) tz) Γ P :=
  w_seq (s_for h I h0 hs hd)
theorem s_while {c : TT} (I : Nat → List Sl → Prop) (h0 : ∃ m, I m Γ) (hs : ∀ m Γi, I m Γi → ∃ Δ b, Sub Γi Δ ∧ ET M c Δ b ∧ (b = true → W M tu Δ { nx := fun Γ' => ∃ m', m' < m ∧ I m' Γ', ct := fun Γ' => ∃ m', m' < m ∧ I m' Γ', bk := P.nx, rt := P.rt }) ∧ (b = false → P.nx Δ)) : W M (tWhile c tu) Γ P := fun A H0 D σ H e kn kb kc kr => by
  refine ⟨fun m σ' H' => ∃ Γi, I m Γi ∧ En M A H0 Γi σ' H' ∧ Go A σ Γ H σ' Γi H', ?_, ?_⟩
  · obtain ⟨m, h0⟩ := h0
    exact ⟨m, Γ, h0, e, .refl⟩
  · rintro m σ' H' ⟨Γi, pi, e1, g1⟩
    obtain ⟨Δ, b, sb, tc, h1, h2⟩ := hs m Γi pi
    have g1 := g1.sub sb
    have e1 := e1.sub sb
    refine tc A H0 σ' H' e1 _ fun H1 n1 => ?_
    cases b with
    | true =>
      refine iteT ⟨fun σ4 H4 => ∃ m', m' < m ∧ ∃ Γi, I m' Γi ∧ En M A H0 Γi σ4 H4 ∧ Go A σ Γ H σ4 Γi H4, fun σ4 H4 q => q, ?_⟩
      have g2 := (g1.trans e1 n1.go)
      exact h1 rfl A H0 _ σ' H1 (e1.nx n1) (fun Γ' σ4 H4 ⟨m', lt, p⟩ e4 g4 => ⟨m', lt, Γ', p, e4, g2.trans (e1.nx n1) g4⟩) (fun Γ' σ4 H4 p e4 g4 => kn _ _ _ p e4 (g2.trans (e1.nx n1) g4)) (fun Γ' σ4 H4 ⟨m', lt, p⟩ e4 g4 => ⟨m', lt, Γ', p, e4, g2.trans (e1.nx n1) g4⟩) kr
    | false => exact iteF (kn _ _ _ (h2 rfl) (e1.nx n1) (g1.trans e1 n1.go))
theorem w_while {c : TT} (I : Nat → List Sl → Prop) (h0 : ∃ m, I m Γ) (hs : ∀ m Γi, I m Γi → ∃ Δ b, Sub Γi Δ ∧ ET M c Δ b ∧ (b = true → W M tu Δ { nx := fun Γ' => ∃ m', m' < m ∧ I m' Γ', ct := fun Γ' => ∃ m', m' < m ∧ I m' Γ', bk := fun Γ' => W M tz Γ' P, rt := P.rt }) ∧ (b = false → W M tz Δ P)) : W M (tSeq (tWhile c tu) tz) Γ P := w_seq (s_while I h0 hs)
theorem w_seqE (Δ : List Sl) (h : W M ts Γ { P with nx := fun Γ' => Γ' = Δ }) (k : W M tz Δ P) : W M (tSeq ts tz) Γ P := w_seq (h.post (fun Γ' e => by
  show W M tz Γ' P
  rw [e]
  exact k) (fun _ z => z) (fun _ z => z) (fun _ z => z))
end
end
section
set_option Elab.async false
set_option linter.all false
set_option maxRecDepth 100000
set_option maxHeartbeats 1000000
open PySem PySem.Spec PyProof.Rows L2
section
variable {M : Md} {A : AS} {K : PySem.W.Frag} {H0 H H1 H2 H' : Hp} {Γ Δ Γ' Γ1 Γ2 : List Sl} {σ σ' σ1 : L2.St} {S : AS} {d d1 d2 : Dt} {ds es fs : List Dt} {te ta tb tl : TE} {tas : TA} {t u tt : TT} {b : Bool} {tu tw tz ts : TS} {P : Po} {g : TG} {gs : TGs} {D : Ends} {wi : TI} {js ks vs : List Nat}
/-! comprehensions -/
def wipeS (Γ : List Sl) : List Nat → List Sl
  | [] => Γ
  | v :: vs => (wipeS Γ vs).set v .any
def noOwn (Γ : List Sl) (vs : List Nat) : Bool := vs.all fun j => match Γ[j]? with
  | some (.o _) => false
  | _ => true
theorem wipeS_len : ∀ {vs : List Nat}, (wipeS Γ vs).length = Γ.length
  | [] => rfl
  | v :: vs => by rw [wipeS, List.length_set, wipeS_len]
theorem wipeS_at : ∀ {vs : List Nat} {i : Nat} {s : Sl}, (wipeS Γ vs)[i]? = some s → (i ∈ vs ∧ s = .any) ∨ (i ∉ vs ∧ Γ[i]? = some s)
  | [], i, s, h => .inr ⟨by simp, h⟩
  | v :: vs, i, s, h => by
    rcases set_at h with ⟨rfl, rfl⟩ | ⟨n, h⟩
    · exact .inl ⟨List.mem_cons_self, rfl⟩
    · rcases wipeS_at h with ⟨h1, h2⟩ | ⟨h1, h2⟩
      · exact .inl ⟨List.mem_cons_of_mem _ h1, h2⟩
      · exact .inr ⟨fun z => (List.mem_cons.mp z).elim n h1, h2⟩
theorem wipeS_out : ∀ {vs : List Nat} {i : Nat}, i ∉ vs → (wipeS Γ vs)[i]? = Γ[i]?
  | [], i, h => rfl
  | v :: vs, i, h => by
    rw [wipeS, set_ne fun z => h (by rw [z]; exact List.mem_cons_self)]
    exact wipeS_out fun z => h (List.mem_cons_of_mem _ z)
theorem En.wipe (e : En M A H0 Γ σ H) (no : noOwn Γ vs = true) : En M A H0 (wipeS Γ vs) (wipe σ vs) H ∧ (∀ a, own σ Γ a → ∃ i ds, i ∉ vs ∧ (wipeS Γ vs)[i]? = some (Sl.o ds) ∧ (wipe σ vs)[i]? = some (some (V.ref a))) := by
  have out : ∀ {i : Nat}, i ∉ vs → (L2.wipe σ vs)[i]? = σ[i]? := fun h => by rw [wipe_get, if_neg fun z => h z.1]
  have back : ∀ {i : Nat} {ds : List Dt}, (wipeS Γ vs)[i]? = some (Sl.o ds) → i ∉ vs ∧ Γ[i]? = some (Sl.o ds) := fun h => by
    rcases wipeS_at h with ⟨_, h⟩ | h
    · cases h
    · exact h
  have so : ∀ a, own (L2.wipe σ vs) (wipeS Γ vs) a → own σ Γ a := fun a ⟨i, ds, h1, h2⟩ => by
    obtain ⟨n, h⟩ := back h1
    rw [out n] at h2
    exact ⟨i, ds, h, h2⟩
  have ss : ∀ a, SA A (L2.wipe σ vs) (wipeS Γ vs) a → SA A σ Γ a := fun a h => h.elim .inl fun h => .inr (so a h)
  refine ⟨⟨by rw [wipe_length, wipeS_len, e.len], fun i x h => ?_, fun i j ds es a h1 h2 h3 h4 => ?_, e.fr, fun a h => e.new a (so a h), fun a h => e.nA a (so a h), e.av, M.gc (fun a h => .inl (ss a h)) e.inv, e.cA⟩, fun a ⟨i, ds, h1, h2⟩ => ?_⟩
  · rcases wipeS_at h with ⟨h1, rfl⟩ | ⟨h1, h2⟩
    · exact True.intro
    · rw [out h1]
      have q := e.at' i x h2
      cases x with
      | any => exact q
      | f d =>
        obtain ⟨v, h3, h4⟩ := q
        exact ⟨v, h3, h4.chg fun a h => .inl (ss a h)⟩
      | o ds =>
        obtain ⟨p, xs, h3, h4, h5⟩ := q
        exact ⟨p, xs, h3, h4, h5.chg fun a h => .inl (ss a h)⟩
  · obtain ⟨n1, h1⟩ := back h1
    obtain ⟨n2, h2⟩ := back h2
    rw [out n1] at h3
    rw [out n2] at h4
    exact e.inj i j ds es a h1 h2 h3 h4
  · have n : i ∉ vs := fun z => by
      have q := List.all_eq_true.mp no i z
      rw [h1] at q
      cases q
    exact ⟨i, ds, n, by rw [wipeS_out n]; exact h1, by rw [out n]; exact h2⟩
theorem wipe_wipe : L2.wipe (L2.wipe σ vs) vs = L2.wipe σ vs := wipe_eq (wipe_length ..) fun i h => by rw [wipe_get, if_neg fun z => h z.1]
/-- a new object to be kept away from -/
theorem En.avoid {D : Addr} {o : HO} (e : En M A H0 Γ σ H) (hD : H D = none) (n : Nx M (SA A σ Γ) H H1) (h1 : H1 D = some o) (G : M.G (fun a => SA A σ Γ a ∨ a = D) H1) : En M (fun a => A a ∨ a = D) H0 Γ σ H1 := by
  have sf : ∀ a, SA (fun a => A a ∨ a = D) σ Γ a → SA A σ Γ a ∨ H a = none := fun a h => h.elim (fun h => h.elim (fun h => .inl (.inl h)) fun z => .inr (by rw [z]; exact hD)) fun h => .inl (.inr h)
  have f : Fr (SA (fun a => A a ∨ a = D) σ Γ) H H1 := n.fr.mono fun a h => .inl (.inl (e.cA a h))
  have e1 := e.nx n
  refine ⟨e.len, fun i x h => ?_, e.inj, e1.fr, e.new, fun a h z => ?_, fun a h => h.elim (e1.av a) fun z => by rw [z]; exact ⟨o, h1⟩, M.gc (fun a h => .inl ?_) G, fun a h => .inl (e.cA a h)⟩
  · have q := e.at' i x h
    cases x with
    | any => exact q
    | f d =>
      obtain ⟨v, h3, h4⟩ := q
      exact ⟨v, h3, (h4.chg sf).stay f⟩
    | o ds =>
      obtain ⟨p, xs, h3, h4, h5⟩ := q
      exact ⟨p, xs, h3, n.own e ⟨i, ds, h, h3⟩ h4, (h5.chg sf).stay f⟩
  · rcases z with z | z
    · exact e.nA a h z
    · obtain ⟨o, ho⟩ := e.sv a (.inr h)
      rw [z, hD] at ho
      cases ho
  · rcases h with (h | h) | h
    · exact .inl (.inl h)
    · exact .inr h
    · exact .inl (.inr h)
/-- [e for .. in wi if ..] over things a of L -/
theorem xl_lcG {α : Type} (L : List α) (f : α → Dt) (p : α → Bool) (q : α → Dt) (h : IT M wi Γ (L.map f)) (hz : L.length ≤ 1000000) (no : noOwn Γ vs = true)
    (hb : ∀ a ∈ L, ∃ Γ1 js, GT M.K g (wipeS Γ vs) (f a) Γ1 js ∧ (js.all fun j => vs.contains j) = true ∧ ET M tt Γ1 (p a) ∧ (p a = true → E M te Γ1 (q a))) : EL M (tLc wi g tt te vs) Γ ((L.filter p).map q) := fun A H0 σ H e Q k => h A H0 σ H e _ fun J H1 n1 ok Dl hD => by
  have e1 := e.nx n1
  have cD : ∀ a, (SA A σ Γ a ∨ a = Dl) → SA A σ Γ a ∨ H1 a = none := fun a h => h.elim .inl fun z => .inr (by rw [z]; exact hD)
  have nC : ¬ M.C Dl := fun z => by
    obtain ⟨o, ho⟩ := e1.av _ (e.cA _ z)
    rw [hD] at ho
    cases ho
  refine ⟨fun i m H' => m = L.length - i ∧ i ≤ L.length ∧ Nx M (SA A σ Γ) H1 H' ∧ M.G (fun a => SA A σ Γ a ∨ a = Dl) H' ∧ ∃ acc, H' Dl = some (.lst acc) ∧ IsL M.K (fun a => SA A σ Γ a ∨ a = Dl) H' acc (((L.take i).filter p).map q), ⟨L.length, by simp, Nat.zero_le _, .new e1 hD, M.gs (.new hD) (M.gc cD n1.inv), [], upd_same, by simp; exact .nil⟩, ?_⟩
  rintro i m H' ⟨rfl, hi, n2, G2, acc, ea, la⟩
  obtain ⟨go, stop, yld⟩ := ok H' n2.sf fun a z => n2.free z
  rw [List.length_map] at go stop
  by_cases hlt : i < L.length
  · refine .inr ⟨go i hlt, fun H3 => i + 1 ≤ L.length ∧ Nx M (SA A σ Γ) H1 H3 ∧ M.G (fun a => SA A σ Γ a ∨ a = Dl) H3 ∧ ∃ acc, H3 Dl = some (.lst acc) ∧ IsL M.K (fun a => SA A σ Γ a ∨ a = Dl) H3 acc (((L.take (i + 1)).filter p).map q), fun H3 h3 => ⟨L.length - (i + 1), by omega, rfl, h3⟩, fun x H'' y => ?_⟩
    obtain ⟨sm, al, dat⟩ := yld i x H'' y
    have n3 := n2.trans ((e1.nx n2).same sm al)
    have ea3 := sm _ _ ea
    obtain ⟨a, ha⟩ : ∃ a, L[i]? = some a := ⟨_, List.getElem?_eq_getElem hlt⟩
    obtain ⟨Γ1, js, tg, jv, tp, bd⟩ := hb a (List.mem_of_getElem? ha)
    have eD : En M (fun a => A a ∨ a = Dl) H0 Γ σ H'' := e1.avoid hD n3 ea3 (M.gs (.of sm) G2)
    obtain ⟨eW, oW⟩ := eD.wipe no
    have sW : ∀ a, SA (fun a => A a ∨ a = Dl) (L2.wipe σ vs) (wipeS Γ vs) a → SA A σ Γ a ∨ a = Dl := fun a z => by
      rcases z with (z | z) | ⟨i, ds, z1, z2⟩
      · exact .inl (.inl z)
      · exact .inr z
      · rcases wipeS_at z1 with ⟨_, z⟩ | ⟨z3, z4⟩
        · cases z
        · rw [wipe_get, if_neg fun z => z3 z.1] at z2
          exact .inl (.inr ⟨i, ds, z4, z2⟩)
    have dx := dat _ (by rw [List.getElem?_map, ha]; rfl) (SA (fun a => A a ∨ a = Dl) (L2.wipe σ vs) (wipeS Γ vs)) (fun a z => cD a (sW a z)) (fun a z => (sW a z).elim ((e1.nx n2).sv a) fun y => by rw [y]; exact ⟨_, ea⟩)
    refine tg M _ H0 _ H'' x rfl eW dx _ fun σ3 e3 t3 => ?_
    have jin : ∀ j ∈ js, j ∈ vs := fun j hj => by
      have := List.all_eq_true.mp jv j hj
      exact List.contains_iff_mem.mp this
    have s3 : ∀ a, (SA A σ Γ a ∨ a = Dl) → SA (fun a => A a ∨ a = Dl) σ3 Γ1 a := fun a z => by
      rcases z with (z | z) | z
      · exact .inl (.inl z)
      · obtain ⟨i, ds, z1, z2, z3⟩ := oW a z
        have := t3.ow a i ds z2 z3 fun y => z1 (jin i y)
        exact .inr ⟨i, ds, this⟩
      · exact .inl (.inr z)
    refine ⟨by rw [t3.wp vs jin]; exact wipe_wipe, tp _ H0 σ3 H'' e3 _ fun H4 n4 => ?_⟩
    have e4 := e3.nx n4
    have n34 : Nx M (SA A σ Γ) H1 H4 := ⟨n3.fr.trans n4.fr, n4.al, M.gc (fun a z => .inl (s3 a (.inl z))) n4.inv, n3.cS⟩
    have tk : L.take (i + 1) = L.take i ++ [a] := by
      rw [List.take_add_one, ha]
      rfl
    have fD : ∀ {H5 H6 : Hp}, Fr M.C H5 H6 → Fr (fun a => SA A σ Γ a ∨ a = Dl) H5 H6 := fun f => f.mono fun a z => .inl (n3.cS a z)
    cases hp : p a with
    | true =>
      refine iteT (B := _ ∧ _) ?_
      refine bd hp _ H0 σ3 H4 e4 _ fun v H5 n5 tv => ?_
      have ea5 := n5.fr.no (n4.fr.no ea3 nC) nC
      have n35 : Nx M (SA A σ Γ) H1 H5 := ⟨n34.fr.trans n5.fr, n5.al, M.gc (fun a z => .inl (s3 a (.inl z))) n5.inv, n3.cS⟩
      have up : Fr (fun a => SA A σ Γ a ∨ a = Dl) H5 (upd H5 Dl (.lst (acc ++ [v]))) := .at (.inr rfl) ea5 rfl
      have G6 : M.G (fun a => SA A σ Γ a ∨ a = Dl) (upd H5 Dl (.lst (acc ++ [v]))) := M.gs (.at (S := fun b => (SA A σ Γ b ∨ b = Dl) ∧ ¬ M.C b) ⟨.inr rfl, nC⟩ ea5 rfl) (M.gc (fun a z => .inl (s3 a z)) n5.inv)
      refine ⟨acc, ea5, ?_, hlt, ⟨fun b o hb hs => ?_, fun b hb => ?_, M.gc (fun a z => .inl (.inl z)) G6, n3.cS⟩, G6, _, upd_same, ?_⟩
      · rw [la.len, List.length_map]
        have h1 := List.length_filter_le p (L.take i)
        rw [List.length_take] at h1
        exact sz6 (by omega)
      · rw [upd_ne (ne_of_none hb hD)]
        exact n35.fr b o hb hs
      · obtain ⟨o, ho⟩ := n35.al b hb
        rw [upd_ne fun z => nC (by rw [← z]; exact hb)]
        exact ⟨o, ho⟩
      · rw [tk, List.filter_append, List.map_append, List.filter_cons, if_pos hp]
        exact (((la.stay (Fr.of sm)).stay (fD (n4.fr.trans n5.fr))).app (.one (tv.chg fun a z => .inl (s3 a z)))).stay up
    | false =>
      refine iteF ?_
      have ea4 := n4.fr.no ea3 nC
      refine ⟨hlt, n34, M.gc (fun a z => .inl (s3 a z)) n4.inv, acc, ea4, ?_⟩
      rw [tk, List.filter_append, List.map_append, List.filter_cons, if_neg (by rw [hp]; exact Bool.false_ne_true)]
      simpa using (la.stay (Fr.of sm)).stay (fD n4.fr)
  · have e0 : i = L.length := by omega
    subst e0
    rw [List.take_length] at la
    exact .inl ⟨stop, k Dl acc H' (n1.free hD) (n1.trans n2) ea la G2⟩
theorem xt_yes : ET M tYes Γ true := fun A H0 σ H e Q q => q H (.refl e)
/-- .. without if -/
theorem xl_lc {α : Type} (L : List α) (f : α → Dt) (q : α → Dt) (h : IT M wi Γ (L.map f)) (hz : L.length ≤ 1000000) (no : noOwn Γ vs = true)
    (hb : ∀ a ∈ L, ∃ Γ1 js, GT M.K g (wipeS Γ vs) (f a) Γ1 js ∧ (js.all fun j => vs.contains j) = true ∧ E M te Γ1 (q a)) : EL M (tLc wi g tYes te vs) Γ (L.map q) :=
  (xl_lcG L f (fun _ => true) q h hz no fun a ha => by
    obtain ⟨Γ1, js, h1, h2, h3⟩ := hb a ha
    exact ⟨Γ1, js, h1, h2, xt_yes, fun _ => h3⟩).is (by rw [List.filter_eq_self.mpr fun _ _ => rfl])
/-! calls -/
/-- a promise of data: nothing is changed -/
def spX (K : PySem.W.Frag) (R : List Dt → Dt → Prop) : Sp := fun vs H Q _ => ∃ (A : AS) (ds : List Dt) (d : Dt), (∀ a, A a → ∃ o, H a = some o) ∧ IsL K A H vs ds ∧ R ds d ∧ ∀ v H', Same H H' → (∀ a, H' a = none → H a = none) → IsD K A H' v d → Q v H'
theorem x_call {R : List Dt → Dt → Prop} {X : XK} (h : EA M tas Γ ds) (r : R ds d) : E M (tCall (spX M.K R) [] X tas) Γ d := fun A H0 σ H e Q q => h A H0 σ H e _ fun vs H1 n1 l => by
  rw [List.append_nil]
  have e1 := e.nx n1
  exact ⟨SA A σ Γ, ds, d, e1.sv, l, r, fun v H2 sm al hv => q v H2 (n1.trans (e1.same sm al)) hv⟩
/-- the world of a def that changes nothing -/
abbrev pure0 (K : PySem.W.Frag) : Md where
  K := K
  C := fun _ => False
  G := fun _ _ => True
  gs := fun _ _ => True.intro
  gc := fun _ _ => True.intro
def st0 (N : List Str) (ds : List Dt) : List Sl := ds.map Sl.f ++ List.replicate (N.length - ds.length) .any
theorem own_f : ∀ (ds : List Dt) (n : Nat) (σ : L2.St) (a : Addr), ¬ own σ (ds.map Sl.f ++ List.replicate n .any) a := fun ds n σ a ⟨i, es, h1, h2⟩ => by
  rw [List.getElem?_append] at h1
  split at h1
  · rw [List.getElem?_map] at h1
    cases e : ds[i]? with
    | none => rw [e] at h1; cases h1
    | some d => rw [e] at h1; cases h1
  · rw [List.getElem?_replicate] at h1
    split at h1
    · cases h1
    · cases h1
theorem En.init {N : List Str} {vs : List V} {ds : List Dt} (av : ∀ a, A a → ∃ o, H a = some o) (l : IsL K A H vs ds) : En (pure0 K) A H (st0 N ds) (L2.start N vs) H where
  len := by
    unfold L2.start st0
    simp [l.len]
  at' := fun i s h => by
    have so : ∀ a, SA A (L2.start N vs) (st0 N ds) a → A a := fun a z => z.elim id fun z => absurd z (own_f _ _ _ _)
    unfold st0 at h
    rw [List.getElem?_append] at h
    split at h
    · rename_i c
      rw [List.length_map] at c
      rw [List.getElem?_map] at h
      cases e : ds[i]? with
      | none => rw [e] at h; cases h
      | some d =>
        rw [e] at h
        cases h
        obtain ⟨v, h1, h2⟩ := l.get e
        refine ⟨v, ?_, h2.chg fun a z => .inl (so a z)⟩
        unfold L2.start
        rw [List.getElem?_append, if_pos (by rw [List.length_map, l.len]; exact c), List.getElem?_map, h1]
        rfl
    · rw [List.getElem?_replicate] at h
      split at h
      · cases h
        exact True.intro
      · cases h
  inj := fun i j ds' es a h1 _ h3 _ => absurd ⟨i, ds', h1, h3⟩ (own_f _ _ (L2.start N vs) a)
  fr := .refl
  new := fun a h => absurd h (own_f _ _ _ _)
  nA := fun a h => absurd h (own_f _ _ _ _)
  av := av
  inv := True.intro
  cA := fun _ z => z.elim
/-- a def's body keeps its promise -/
theorem body_ok {N : List Str} {vs : List V} {ds : List Dt} {ts : TS} {Q : VK} (av : ∀ a, A a → ∃ o, H a = some o) (l : IsL K A H vs ds) (q : ∀ v H', Same H H' → (∀ a, H' a = none → H a = none) → IsD K A H' v d → Q v H')
    (w : W (pure0 K) ts (st0 N ds) { nx := fun _ => d = .non, rt := fun x => x = d }) : ts { nx := fun _ H' => Q .non H', rt := Q } (L2.start N vs) H := by
  have e := En.init (N := N) av l
  have sm : ∀ {H'}, Nx (pure0 K) A H H' → Same H H' ∧ ∀ a, H' a = none → H a = none := fun n => by
    have s : Same H _ := fun b o hb => n.fr.no hb fun z => z
    exact ⟨s, fun a h => s.free h⟩
  refine w A H _ _ H e (fun Γ' σ' H' p e' g' => ?_) (fun _ _ _ p _ _ => p.elim) (fun _ _ _ p _ _ => p.elim) fun v x H' p n hv => ?_
  · have s : Same H H' := fun b o hb => e'.fr.no hb fun z => z
    exact q _ _ s (fun a h => s.free h) (by rw [p]; exact .non)
  · cases p
    exact q v H' (sm n).1 (sm n).2 hv
end
end
section
set_option Elab.async false
set_option linter.all false
set_option maxRecDepth 100000
set_option maxHeartbeats 1000000
open PySem PySem.Spec PyProof.Rows L2
section
variable {M : Md} {A : AS} {K : PySem.W.Frag} {Γ Δ Γ' Γ1 Γ2 : List Sl} {d d1 d2 : Dt} {ds es fs : List Dt} {te ta tb tl : TE} {tas : TA} {t u tt : TT} {b : Bool} {tu tw tz ts : TS} {P : Po} {g : TG} {gs : TGs} {wi : TI} {js ks vs : List Nat}
theorem Sub.set : ∀ {Γ Δ : List Sl} (i : Nat) (s : Sl), Sub Γ Δ → Sub (Γ.set i s) (Δ.set i s)
  | _, _, _, _, .nil => .nil
  | _, _, 0, _, .cons _ b => .cons .refl b
  | _, _, i + 1, s, .cons a b => .cons a (Sub.set i s b)
theorem sub_frz : ∀ {Γ : List Sl} {i : Nat} {ds : List Dt}, Γ[i]? = some (.o ds) → Sub Γ (Γ.set i (.f (.lst ds)))
  | [], _, _, h => by simp at h
  | s :: Γ, 0, ds, h => by
    cases Option.some.inj h
    exact .cons .frz Sub.refl
  | s :: Γ, i + 1, ds, h => .cons .refl (sub_frz (i := i) h)
theorem w_frz {i : Nat} (h : Γ[i]? = some (.o ds)) (k : W M ts (Γ.set i (.f (.lst ds))) P) : W M ts Γ P := w_sub (sub_frz h) k
theorem xa_one (h : E M te Γ d) : EA M (tCons te tNil) Γ [d] := xa_cons h xa_nil
theorem gt_lst {n : Nat} (h : GTs K gs Γ ds Γ' js) (hn : ds.length = n) : GT K (gLst K n gs) Γ (.lst ds) Γ' js := fun M A H0 σ H v hk e hv Q q => by
  obtain ⟨a, xs, rfl, s, na, l⟩ := isd_lst hv
  exact ⟨a, xs, rfl, SqL.of s, by rw [l.len, hn], h M A H0 σ H xs hk e l Q q⟩
theorem o_add {i j : Int} : RX K (rI0 fun i j => .int (i + j)) (.int i) (.int j) (.int (i + j)) := o_I0i
theorem o_mul {i j : Int} (c : CMul i j) : RX K (rI CMul fun i j => .int (i * j)) (.int i) (.int j) (.int (i * j)) := o_Ii c
theorem o_catT (h1 : ds ≠ []) (h2 : es ≠ []) : True := True.intro
/-- parts of lists and tuples -/
def cutD (ds : List Dt) (lo hi : Option Int) : List Dt := (ds.drop (HT.sIx ds.length 0 lo)).take (HT.sIx ds.length ds.length hi - HT.sIx ds.length 0 lo)
def EO (M : Md) (to : TO) (Γ : List Sl) (o : Option Int) : Prop := ∀ A H0 σ H, En M A H0 Γ σ H → ∀ Q : Option Int → Hp → Prop, (∀ H', Nx M (SA A σ Γ) H H' → Q o H') → to σ H Q
theorem xo_no : EO M tNoPart Γ none := fun A H0 σ H e Q q => q H (.refl e)
theorem xo_some {i : Int} (h : E M te Γ (.int i)) : EO M (tPart te) Γ (some i) := fun A H0 σ H e Q q => h A H0 σ H e _ fun v H1 n1 tv => ⟨i, isd_int tv, q H1 n1⟩
theorem x_slT {tl th : TO} {lo hi : Option Int} (h : E M te Γ (.tup ds)) (hl : EO M tl Γ lo) (hh : EO M th Γ hi) (n : ¬ (HT.sIx ds.length 0 lo = 0 ∧ HT.sIx ds.length ds.length hi = ds.length)) : E M (tSl (rSlT M.K) te tl th) Γ (.tup (cutD ds lo hi)) := fun A H0 σ H e Q q =>
  h A H0 σ H e _ fun v H1 n1 tv => hl A H0 σ H1 (e.nx n1) _ fun H2 n2 => hh A H0 σ H2 ((e.nx n1).nx n2) _ fun H3 n3 => by
    obtain ⟨a, xs, rfl, s, l⟩ := isd_tup ((tv.stay n2.sf).stay n3.sf)
    have e3 := ((e.nx n1).nx n2).nx n3
    refine ⟨a, xs, rfl, s, by rw [l.len]; exact n, fun p hp => q _ _ (((n1.trans n2).trans n3).trans (.new e3 hp)) (.tup (SqT.of upd_same) ?_)⟩
    have : cutV xs lo hi = (xs.drop (HT.sIx ds.length 0 lo)).take (HT.sIx ds.length ds.length hi - HT.sIx ds.length 0 lo) := by
      unfold cutV
      rw [l.len]
    rw [this]
    exact ((l.drop _).take _).stay (.new hp)
theorem x_slT' {tl th : TO} {lo hi : Option Int} (h : E M te Γ (.tup ds)) (hl : EO M tl Γ lo) (hh : EO M th Γ hi) (n : ¬ (HT.sIx ds.length 0 lo = 0 ∧ HT.sIx ds.length ds.length hi = ds.length)) (e : cutD ds lo hi = es) : E M (tSl (rSlT M.K) te tl th) Γ (.tup es) := (x_slT h hl hh n).is (by rw [e])
theorem xl_slL {tl th : TO} {lo hi : Option Int} (h : ER M te Γ ds) (hl : EO M tl Γ lo) (hh : EO M th Γ hi) : EL M (tSl (rSlL M.K) te tl th) Γ (cutD ds lo hi) := fun A H0 σ H e Q q =>
  h A H0 σ H e _ fun p xs H1 n1 h1 c1 l1 => hl A H0 σ H1 (e.nx n1) _ fun H2 n2 => hh A H0 σ H2 ((e.nx n1).nx n2) _ fun H3 n3 => by
    have l3 := (l1.stay n2.sf).stay n3.sf
    refine ⟨p, xs, rfl, SqL.of (n3.fr.no (n2.fr.no h1 c1) c1), fun c hc => ?_⟩
    have : cutV xs lo hi = (xs.drop (HT.sIx ds.length 0 lo)).take (HT.sIx ds.length ds.length hi - HT.sIx ds.length 0 lo) := by
      unfold cutV
      rw [l1.len]
    rw [this]
    exact el_new e ((n1.trans n2).trans n3) hc ((l3.drop _).take _) q
theorem b_lenQ : RBL K (fun xs H Q => ∃ p ys, xs = [.ref p] ∧ (SqL K H p ys ∨ SqT K H p ys) ∧ (ys.length ≤ sizeLine → Q (.int ys.length) H)) ds (.int ds.length) := fun S p xs H Q h l q =>
  ⟨p, xs, rfl, .inl (SqL.of h), fun _ => by rw [l.len]; exact q _ (.int _)⟩
theorem b_lenT : RB1 K (fun xs H Q => ∃ p ys, xs = [.ref p] ∧ (SqL K H p ys ∨ SqT K H p ys) ∧ (ys.length ≤ sizeLine → Q (.int ys.length) H)) (.tup ds) (.int ds.length) := fun S v H Q tv q => by
  obtain ⟨a, xs, rfl, s, l⟩ := isd_tup tv
  exact ⟨a, xs, rfl, .inr s, fun _ => by rw [l.len]; exact q _ (.int _)⟩
theorem b_max2 {i j : Int} : RB2 K (fun vs H Q => ∃ a b, vs = [.int a, .int b] ∧ Q (.int (if b > a then b else a)) H) (.int i) (.int j) (.int (max i j)) := fun S v1 v2 H Q t1 t2 q => by
  rw [isd_int t1, isd_int t2]
  refine ⟨i, j, rfl, ?_⟩
  rw [show (if j > i then j else i) = max i j by split <;> omega]
  exact q _ (.int _)
theorem pi_tupK {X : Cx} {K : PySem.W.Frag} (hK : X.K = K) {e tg : Expr} {te : TE} (h : PE X e te) : PI X tg e (iTup K te) := hK ▸ pi_tup h
theorem pi_listK {X : Cx} {K : PySem.W.Frag} (hK : X.K = K) {e tg : Expr} {te : TE} (h : PE X e te) : PI X tg e (iList K te) := hK ▸ pi_list h
theorem pe_fldK {X : Cx} {K : PySem.W.Frag} (hK : X.K = K) {e : Expr} {f : Str} {pos : Pos} {ta : TE} (he : PE X e ta) (hb : attributeBase e f X.env (eval e X.env) = eval e X.env) : PE X (.Attribute e f pos) (tFld K ta f) := hK ▸ pe_fld he hb
def rTupleOf (K : PySem.W.Frag) : List V → Hp → VK → Prop := fun xs H Q => ∃ p ys, xs = [.ref p] ∧ ((SqL K H p ys ∧ ∀ l, H l = none → Q (.ref l) (upd H l (.tup ys))) ∨ (SqT K H p ys ∧ Q (.ref p) H))
theorem call_tupleK {X : Cx} : CallR X (.type "tuple") (rTupleOf X.K) := call_tuple_of
def rListOf (K : PySem.W.Frag) : List V → Hp → VK → Prop := fun xs H Q => ∃ p ys, xs = [.ref p] ∧ (SqL K H p ys ∨ SqT K H p ys) ∧ ∀ l, H l = none → Q (.ref l) (upd H l (.lst ys))
theorem call_listK {X : Cx} : CallR X (.type "list") (rListOf X.K) := call_list_of
/-- tuple(..), list(..) -/
theorem xt_tuple (h : ER M te Γ ds) : E M (tCB (rTupleOf M.K) (tCons te tNil)) Γ (.tup ds) := x_tupOf (fun p xs H Q s q => ⟨p, xs, rfl, .inl ⟨s, q⟩⟩) h
theorem xl_listL (h : ER M te Γ ds) : EL M (tCB (rListOf M.K) (tCons te tNil)) Γ ds := xl_listOf (fun p xs H Q s q => ⟨p, xs, rfl, .inl s, q⟩) h
theorem xl_listU (h : E M te Γ (.tup ds)) : EL M (tCB (rListOf M.K) (tCons te tNil)) Γ ds := xl_listT (fun p xs H Q s q => ⟨p, xs, rfl, .inr s, q⟩) h
theorem x_lenL (h : ER M te Γ ds) : E M (tCB (Mg.rLenQ M.K) (tCons te tNil)) Γ (.int ds.length) := x_bL h b_lenQ
theorem x_lenU (h : E M te Γ (.tup ds)) : E M (tCB (Mg.rLenQ M.K) (tCons te tNil)) Γ (.int ds.length) := x_b1 h b_lenT
theorem x_sum {ns : List Int} (h : ER M te Γ (ns.map Dt.int)) : E M (tCB (rSum M.K) (tCons te tNil)) Γ (.int ns.sum) := x_bL h b_sum
theorem x_max {ns : List Int} {n : Int} {r : List Int} (h : ER M te Γ (ns.map Dt.int)) (e : ns = n :: r) : E M (tCB (rMax M.K) (tCons te tNil)) Γ (.int (r.foldl max n)) := x_bL h fun S p xs H Q hp l q => by
  rw [isl_ints l] at hp
  have up : ∀ (r : List Int) (n : Int), n ≤ r.foldl max n ∧ (∀ y ∈ r, y ≤ r.foldl max n) ∧ (r.foldl max n = n ∨ r.foldl max n ∈ r) := by
    intro r
    induction r with
    | nil => intro n; exact ⟨Int.le_refl _, fun _ h => (nomatch h), .inl rfl⟩
    | cons z zs ih =>
      intro n
      obtain ⟨h1, h2, h3⟩ := ih (max n z)
      refine ⟨by rw [List.foldl_cons]; omega, fun y hy => ?_, ?_⟩
      · rw [List.foldl_cons]
        rcases List.mem_cons.mp hy with rfl | hy
        · omega
        · exact h2 y hy
      · rw [List.foldl_cons]
        rcases h3 with h3 | h3
        · rw [h3]
          rcases (show max n z = n ∨ max n z = z by omega) with g | g
          · exact .inl g
          · rw [g]
            exact .inr List.mem_cons_self
        · exact .inr (List.mem_cons_of_mem _ h3)
  obtain ⟨u1, u2, u3⟩ := up r n
  refine ⟨p, ns, rfl, SqL.of hp, by rw [e]; exact Nat.succ_pos _, fun m hm hy => ?_⟩
  have : m = r.foldl max n := by
    have h1 : m ≤ r.foldl max n := by
      rw [e] at hm
      rcases List.mem_cons.mp hm with rfl | hm
      · exact u1
      · exact u2 m hm
    have h2 : r.foldl max n ≤ m := by
      refine hy _ ?_
      rw [e]
      rcases u3 with g | g
      · rw [g]; exact List.mem_cons_self
      · exact List.mem_cons_of_mem _ g
    omega
  rw [this]
  exact q _ (.int _)
end
end
section
set_option Elab.async false
set_option linter.all false
set_option maxRecDepth 100000
set_option maxHeartbeats 1000000
open PySem PySem.Spec PyProof.Rows L2
/-! the data of older promises -/
mutual
def pd : PyData → Dt
  | .none => .non
  | .bool b => .bl b
  | .int i => .int i
  | .str x => .str x
  | .list l => .lst (pdL l)
  | .tuple l => .tup (pdL l)
  | .dict _ => .non
def pdL : List PyData → List Dt
  | [] => []
  | d :: ds => pd d :: pdL ds
end
theorem pdL_eq : ∀ ds : List PyData, pdL ds = ds.map pd
  | [] => rfl
  | d :: ds => by rw [pdL, pdL_eq ds, List.map_cons]
mutual
def tOnly : PyData → Bool
  | .list _ => false
  | .dict _ => false
  | .tuple l => tOnlyL l
  | _ => true
def tOnlyL : List PyData → Bool
  | [] => true
  | d :: ds => tOnly d && tOnlyL ds
end
theorem tOnlyL_eq : ∀ ds : List PyData, tOnlyL ds = ds.all tOnly
  | [] => rfl
  | d :: ds => by rw [tOnlyL, tOnlyL_eq ds, List.all_cons]
section
variable {M : Md} {A : AS} {K : PySem.W.Frag} {H0 H H1 H2 H' : Hp} {Γ Δ Γ' Γ1 : List Sl} {σ σ' : L2.St} {S : AS} {te ta tb tl : TE} {tas : TA}
theorem isl_of : ∀ {xs : List V} {ds : List Dt}, xs.length = ds.length → (∀ (i : Nat) (x : V) (d : Dt), xs[i]? = some x → ds[i]? = some d → IsD K S H x d) → IsL K S H xs ds
  | [], [], _, _ => .nil
  | [], _ :: _, e, _ => by simp at e
  | _ :: _, [], e, _ => by simp at e
  | x :: xs, d :: ds, e, h => .cons (h 0 x d rfl rfl) (isl_of (by simpa using e) fun i y z h1 h2 => h (i + 1) y z h1 h2)
theorem tp_isd {v : V} {d : PyData} (h : Tp K H v d) : IsD K S H v (pd d) := by
  induction h with
  | non => exact .non
  | bl b => exact .bl b
  | int i => exact .int i
  | str x => exact .str x
  | tup s hl _ ih =>
    rw [pd, pdL_eq]
    refine .tup s (isl_of (by rw [List.length_map, hl]) fun i x d h1 h2 => ?_)
    obtain ⟨e, he, rfl⟩ := Mg.get_map h2
    exact ih i x e h1 he
theorem tpl_isl {vs : List V} {ds : List PyData} : TpL K H vs ds → IsL K S H vs (ds.map pd)
  | .nil => .nil
  | .cons a b => .cons (tp_isd a) (tpl_isl b)
mutual
theorem isd_tp : ∀ (d : PyData), tOnly d = true → ∀ {v : V}, IsD K S H v (pd d) → Tp K H v d
  | .none, _, _, h => by cases h; exact .non
  | .bool b, _, _, h => by cases h; exact .bl _
  | .int b, _, _, h => by cases h; exact .int _
  | .str b, _, _, h => by cases h; exact .str _
  | .tuple l, t, _, h => by
    rw [pd] at h
    obtain ⟨a, xs, rfl, s, q⟩ := isd_tup h
    exact Tp.mk s (isl_tpl l t q)
  | .list _, t, _, _ => by cases t
  | .dict _, t, _, _ => by cases t
theorem isl_tpl : ∀ (ds : List PyData), tOnlyL ds = true → ∀ {vs : List V}, IsL K S H vs (pdL ds) → TpL K H vs ds
  | [], _, _, h => by
    rw [pdL] at h
    cases h
    exact .nil
  | d :: ds, t, _, h => by
    rw [pdL] at h
    rw [tOnlyL, Bool.and_eq_true] at t
    cases h with
    | cons a b => exact .cons (isd_tp d t.1 a) (isl_tpl ds t.2 b)
end
/-- calls of older promises -/
theorem x_callO {R : List PyData → PyData → Prop} {X : XK} {ds : List PyData} {d : PyData} (h : EA M tas Γ (pdL ds)) (t : tOnlyL ds = true) (r : R ds d) : E M (tCall (spR M.K R) [] X tas) Γ (pd d) := fun A H0 σ H e Q q => h A H0 σ H e _ fun vs H1 n1 l => by
  rw [List.append_nil]
  have e1 := e.nx n1
  exact ⟨ds, d, isl_tpl ds t l, r, fun v H2 sm hv => q v H2 (n1.trans (e1.same sm fun a h => sm.free h)) (tp_isd hv)⟩
theorem el_same (e : En M A H0 Γ σ H) (n : Nx M (SA A σ Γ) H H1) (s : Same H1 H2) {p : Addr} {xs : List V} {ds : List Dt} {Q : VK} (hp : H1 p = none) (h2 : H2 p = some (.lst xs)) (l : ∀ S, IsL M.K S H2 xs ds)
    (q : ∀ p xs H', H p = none → Nx M (SA A σ Γ) H H' → H' p = some (.lst xs) → IsL M.K (fun a => SA A σ Γ a ∨ a = p) H' xs ds → M.G (fun a => SA A σ Γ a ∨ a = p) H' → Q (.ref p) H') : Q (.ref p) H2 :=
  have c : ∀ a, (SA A σ Γ a ∨ a = p) → SA A σ Γ a ∨ H1 a = none := fun a h => h.elim .inl fun z => .inr (by rw [z]; exact hp)
  q p xs _ (n.free hp) (n.trans ((e.nx n).same s fun a h => s.free h)) h2 (l _) (M.gs (.of s) (M.gc c n.inv))
theorem xl_callO {R : List PyData → List PyData → Prop} {X : XK} {ds es : List PyData} (h : EA M tas Γ (pdL ds)) (t : tOnlyL ds = true) (r : R ds es) : EL M (tCall (spRL M.K R) [] X tas) Γ (pdL es) := fun A H0 σ H e Q q => h A H0 σ H e _ fun vs H1 n1 l => by
  rw [List.append_nil]
  exact ⟨ds, es, isl_tpl ds t l, r, fun p xs H2 hp sm h2 hx => el_same e n1 sm hp h2 (fun S => by rw [pdL_eq]; exact tpl_isl hx) q⟩
mutual
theorem tOnly_row : ∀ r : FRow, tOnlyL r.ds = true
  | .nil => rfl
  | .cons i r => by rw [FRow.ds, tOnlyL, tOnly_item i, tOnly_row r]; rfl
theorem tOnly_item : ∀ i : FItem, tOnly i.d = true
  | .mk n b a => by rw [FItem.d, tOnly, tOnlyL, tOnlyL, tOnlyL, tOnlyL, tOnly_nuc n, tOnly_scr b, tOnly_scr a]; rfl
theorem tOnly_scr : ∀ s : FScr, tOnly s.d = true
  | .no => rfl
  | .yes r => by rw [FScr.d, tOnly, tOnly_row r]
theorem tOnly_nuc : ∀ n : FNuc, tOnly n.d = true
  | .sym x => rfl
  | .group r => by simp only [FNuc.d, tOnly, tOnlyL, tOnly_row r]; rfl
  | .frac o u => by simp only [FNuc.d, tOnly, tOnlyL, tOnly_row o, tOnly_row u]; rfl
  | .root r => by simp only [FNuc.d, tOnly, tOnlyL, tOnly_row r]; rfl
  | .fence o c r => by
    simp only [FNuc.d, tOnly, tOnlyL, tOnly_row r]
    cases o <;> cases c <;> rfl
  | .grid g => by simp only [FNuc.d, tOnly, tOnlyL, tOnly_grid g]; rfl
theorem tOnly_grid : ∀ g : FGrid, tOnlyL g.ds = true
  | .nil => rfl
  | .cons c g => by rw [FGrid.ds, tOnlyL, tOnly, tOnly_cells c, tOnly_grid g]; rfl
theorem tOnly_cells : ∀ c : FCells, tOnlyL c.ds = true
  | .nil => rfl
  | .cons r c => by rw [FCells.ds, tOnlyL, tOnly, tOnly_row r, tOnly_cells c]; rfl
end
def optT : Option Str → Dt
  | none => .non
  | some x => .str x
def itemT (i : FItem) : Dt := pd i.d
def rowT (r : FRow) : Dt := .tup (r.items.map itemT)
def scrT : FScr → Dt
  | .no => .non
  | .yes r => rowT r
def nucT : FNuc → Dt
  | .sym x => .tup [.str "symbol", .str x]
  | .group r => .tup [.str "group", rowT r]
  | .frac o u => .tup [.str "frac", rowT o, rowT u]
  | .root r => .tup [.str "root", rowT r]
  | .fence o c r => .tup [.str "fence", optT o, optT c, rowT r]
  | .grid g => .tup [.str "grid", .tup (g.lines.map fun c => .tup (c.rows.map rowT))]
theorem pd_row (r : FRow) : pd r.d = rowT r := by
  rw [FRow.d, FRow.ds_eq, pd, pdL_eq, List.map_map]
  rfl
theorem pdL_row (r : FRow) : pdL r.ds = r.items.map itemT := by
  rw [FRow.ds_eq, pdL_eq, List.map_map]
  rfl
theorem pd_scr (s : FScr) : pd s.d = scrT s := by
  cases s with
  | no => rfl
  | yes r => exact pd_row r
theorem pd_nuc (n : FNuc) : pd n.d = nucT n := by
  cases n with
  | sym x => rfl
  | group r => simp only [FNuc.d, pd, pdL, pdL_row]; rfl
  | root r => simp only [FNuc.d, pd, pdL, pdL_row]; rfl
  | frac o u => simp only [FNuc.d, pd, pdL, pdL_row]; rfl
  | fence o c r =>
    simp only [FNuc.d, pd, pdL, pdL_row]
    cases o <;> cases c <;> rfl
  | grid g =>
    simp only [FNuc.d, pd, pdL, nucT]
    rw [FGrid.ds_eq, pdL_eq, List.map_map]
    congr 4
    apply List.map_congr_left
    intro c _
    show pd c.d = _
    rw [FCells.d, FCells.ds_eq, pd, pdL_eq, List.map_map]
    congr 1
    apply List.map_congr_left
    intro r _
    exact pd_row r
end
end
section
set_option Elab.async false
set_option linter.all false
set_option maxRecDepth 100000
set_option maxHeartbeats 1000000
open PySem PySem.Spec PyProof.Rows L2
/-! worlds that turn: M b, b tells how what may change stands -/
structure PoB (B : Type) where
  nx : B → List Sl → Prop
  rt : B → Dt → Prop
  bk : B → List Sl → Prop := fun _ _ => False
  ct : B → List Sl → Prop := fun _ _ => False
/-- worlds of one kind -/
structure Fam {B : Type} (M : B → Md) (K : PySem.W.Frag) (C : AS) : Prop where
  k : ∀ b, (M b).K = K
  c : ∀ b, (M b).C = C
def WB {B : Type} (M : B → Md) (b : B) (ts : TS) (Γ : List Sl) (P : PoB B) : Prop := ∀ A H0 D σ H, En (M b) A H0 Γ σ H →
  (∀ b' Γ' σ' H', P.nx b' Γ' → En (M b') A H0 Γ' σ' H' → Go A σ Γ H σ' Γ' H' → D.nx σ' H') →
  (∀ b' Γ' σ' H', P.bk b' Γ' → En (M b') A H0 Γ' σ' H' → Go A σ Γ H σ' Γ' H' → D.bk σ' H') →
  (∀ b' Γ' σ' H', P.ct b' Γ' → En (M b') A H0 Γ' σ' H' → Go A σ Γ H σ' Γ' H' → D.ct σ' H') →
  (∀ b' v d H', P.rt b' d → Nx (M b') A H0 H' → IsD (M b').K A H' v d → D.rt v H') → ts D σ H
/-- an expression that may turn the world: R tells the worlds and the data -/
def EB {B : Type} (M : B → Md) (b : B) (te : TE) (Γ : List Sl) (R : B → Dt → Prop) : Prop := ∀ A H0 σ H, En (M b) A H0 Γ σ H → ∀ Q : VK, (∀ b' v d H', R b' d → Nx (M b') (SA A σ Γ) H H' → IsD (M b').K (SA A σ Γ) H' v d → Q v H') → te σ H Q
section
variable {B : Type} {M : B → Md} {b b' : B} {K : PySem.W.Frag} {C A : AS} {H0 H H1 H' : Hp} {Γ Δ Γ' Γ1 : List Sl} {σ σ' σ1 : L2.St} {d : Dt} {ds : List Dt} {te : TE} {t : TT} {c : Bool} {tu tw tz ts : TS} {P : PoB B} {g : TG} {D : Ends} {wi : TI} {js : List Nat} {R : B → Dt → Prop}
theorem En.turn (F : Fam M K C) (e : En (M b) A H0 Γ σ H) (n : Nx (M b') (SA A σ Γ) H H1) : En (M b') A H0 Γ σ H1 := by
  have hk : (M b').K = (M b).K := by rw [F.k, F.k]
  have hc : (M b').C = (M b).C := by rw [F.c, F.c]
  have sf : Fr (SA A σ Γ) H H1 := n.fr.mono n.cS
  refine ⟨e.len, fun i s h => ?_, e.inj, ?_, e.new, e.nA, fun a h => ?_, n.inv, fun a h => e.cA a (by rw [← hc]; exact h)⟩
  · have q := e.at' i s h
    cases s with
    | any => exact q
    | f d =>
      obtain ⟨v, h1, h2⟩ := q
      exact ⟨v, h1, by rw [hk]; exact h2.stay sf⟩
    | o ds =>
      obtain ⟨p, xs, h1, h2, h3⟩ := q
      refine ⟨p, xs, h1, n.fr.no h2 fun z => ?_, by rw [hk]; exact h3.stay sf⟩
      rw [hc] at z
      exact e.ownC ⟨i, ds, h, h1⟩ z
  · rw [hc]
    exact e.fr.trans (by rw [← hc]; exact n.fr)
  · by_cases z : (M b').C a
    · exact n.al a z
    · obtain ⟨o, ho⟩ := e.av a h
      exact ⟨o, n.fr.no ho z⟩
theorem Nx.goB (F : Fam M K C) (e : En (M b) A H0 Γ σ H) (n : Nx (M b') (SA A σ Γ) H H1) : Go A σ Γ H σ Γ H1 := ⟨n.fr.mono n.cS, fun _ h => .inl h, fun a h => by
  cases z : H a with
  | none => rfl
  | some o =>
    by_cases c : (M b').C a
    · obtain ⟨o, ho⟩ := n.al a c
      rw [h] at ho
      cases ho
    · rw [n.fr.no z c] at h
      cases h⟩
theorem WB.go (k : WB M b' tz Γ1 P) (e1 : En (M b') A H0 Γ1 σ1 H1) (g1 : Go A σ Γ H σ1 Γ1 H1)
    (kn : ∀ b' Γ' σ' H', P.nx b' Γ' → En (M b') A H0 Γ' σ' H' → Go A σ Γ H σ' Γ' H' → D.nx σ' H') (kb : ∀ b' Γ' σ' H', P.bk b' Γ' → En (M b') A H0 Γ' σ' H' → Go A σ Γ H σ' Γ' H' → D.bk σ' H')
    (kc : ∀ b' Γ' σ' H', P.ct b' Γ' → En (M b') A H0 Γ' σ' H' → Go A σ Γ H σ' Γ' H' → D.ct σ' H') (kr : ∀ b' v d H', P.rt b' d → Nx (M b') A H0 H' → IsD (M b').K A H' v d → D.rt v H') : tz D σ1 H1 :=
  k A H0 D σ1 H1 e1 (fun b' Γ' σ' H' p e' g' => kn b' Γ' σ' H' p e' (g1.trans e1 g')) (fun b' Γ' σ' H' p e' g' => kb b' Γ' σ' H' p e' (g1.trans e1 g')) (fun b' Γ' σ' H' p e' g' => kc b' Γ' σ' H' p e' (g1.trans e1 g')) kr
theorem wb_of (h : W (M b) ts Γ ⟨P.nx b, P.rt b, P.bk b, P.ct b⟩) : WB M b ts Γ P := fun A H0 D σ H e kn kb kc kr =>
  h A H0 D σ H e (fun Γ' σ' H' p => kn b Γ' σ' H' p) (fun Γ' σ' H' p => kb b Γ' σ' H' p) (fun Γ' σ' H' p => kc b Γ' σ' H' p) (fun v d H' p => kr b v d H' p)
theorem wb_seq (h : WB M b ts Γ { P with nx := fun b' Γ' => WB M b' tz Γ' P }) : WB M b (tSeq ts tz) Γ P := fun A H0 D σ H e kn kb kc kr =>
  h A H0 { D with nx := tz D } σ H e (fun b' Γ' σ' H' p e' g' => WB.go (D := D) (P := P) p e' g' kn kb kc kr) kb kc kr
/-- a statement that leaves the world -/
theorem wb_seqW (h : W (M b) ts Γ ⟨fun Γ' => WB M b tz Γ' P, P.rt b, P.bk b, P.ct b⟩) : WB M b (tSeq ts tz) Γ P := wb_seq (wb_of h)
theorem wb_sub (s : Sub Γ Δ) (h : WB M b ts Δ P) : WB M b ts Γ P := fun A H0 D σ H e kn kb kc kr =>
  WB.go (P := P) h (e.sub s) (Go.refl.sub s) kn kb kc kr
theorem sb_drop (F : Fam M K C) (h : EB M b te Γ R) (k : ∀ b' d, R b' d → P.nx b' Γ) : WB M b (tDrop te) Γ P := fun A H0 D σ H e kn kb kc kr => h A H0 σ H e _ fun b' v d H1 r n1 tv => kn b' _ _ _ (k b' d r) (e.turn F n1) (n1.goB F e)
theorem wb_drop (F : Fam M K C) (h : EB M b te Γ R) (k : ∀ b' d, R b' d → WB M b' tz Γ P) : WB M b (tSeq (tDrop te) tz) Γ P := wb_seq (sb_drop F h k)
theorem sb_set (F : Fam M K C) {i : Nat} (h : EB M b te Γ R) (k : ∀ b' d, R b' d → P.nx b' (Γ.set i (.f d))) : WB M b (tAsg te (gName i)) Γ P := fun A H0 D σ H e kn kb kc kr => h A H0 σ H e _ fun b' v d H1 r n1 tv => by
  have e1 := (e.turn F n1).setf (i := i) tv
  exact kn b' _ _ _ (k b' d r) e1 ((n1.goB F e).trans (e.turn F n1) Go.setf)
theorem wb_set (F : Fam M K C) {i : Nat} (h : EB M b te Γ R) (k : ∀ b' d, R b' d → WB M b' tz (Γ.set i (.f d)) P) : WB M b (tSeq (tAsg te (gName i)) tz) Γ P := wb_seq (sb_set F h k)
theorem wb_if (h : ET (M b) t Γ c) (h1 : c = true → WB M b tu Γ P) (h2 : c = false → WB M b tw Γ P) : WB M b (tIfS t tu tw) Γ P := fun A H0 D σ H e kn kb kc kr => h A H0 σ H e _ fun H1 n1 => by
  cases c with
  | true => exact iteT (WB.go (P := P) (h1 rfl) (e.nx n1) n1.go kn kb kc kr)
  | false => exact iteF (WB.go (P := P) (h2 rfl) (e.nx n1) n1.go kn kb kc kr)
theorem wb_for (F : Fam M K C) (h : IT (M b) wi Γ ds) (I : Nat → B → List Sl → Prop) (h0 : I 0 b Γ)
    (hs : ∀ i b' Γi d, I i b' Γi → ds[i]? = some d → ∃ Δ Γ1 js, Sub Γi Δ ∧ GT K g Δ d Γ1 js ∧ WB M b' tu Γ1 { nx := I (i + 1), ct := I (i + 1), bk := P.nx, rt := P.rt }) (hd : ∀ b' Γn, I ds.length b' Γn → P.nx b' Γn) : WB M b (tFor wi g tu) Γ P := fun A H0 D σ H e kn kb kc kr =>
  h A H0 σ H e _ fun J H1 n1 ok => by
    have e1 := e.nx n1
    refine Mg.for_word (n := ds.length) (fun i σ' H' => ∃ bi Γi, I i bi Γi ∧ En (M bi) A H0 Γi σ' H' ∧ Go A σ Γ H1 σ' Γi H') ⟨b, Γ, h0, e1, .refl⟩ (fun i σ' H' hi ⟨bi, Γi, _, q⟩ => (ok H' q.2.fr q.2.al).1 i hi) (fun σ' H' ⟨bi, Γi, _, q⟩ => (ok H' q.2.fr q.2.al).2.1) (fun i x σ' H' H'' hi q y => ?_) (fun σ' H' ⟨bi, Γi, p, q⟩ => kn _ _ _ _ (hd _ _ p) q.1 (n1.go.trans e1 q.2))
    obtain ⟨bi, Γi, pi, e2, g2⟩ := q
    obtain ⟨sm, al, dat⟩ := (ok H' g2.fr g2.al).2.2 i x H'' y
    obtain ⟨Δ, Γ1, js, sb, tg, body⟩ := hs i bi Γi _ pi (List.getElem?_eq_getElem hi)
    have g2 := g2.sub sb
    have e2 := e2.sub sb
    have n3 := e2.same sm al
    have dx := dat _ (List.getElem?_eq_getElem hi) (SA A σ' Δ) (fun a z => z.elim (fun z => .inl (.inl z)) fun z => (g2.ow a z).elim (fun z => .inl (.inr z)) .inr) e2.sv
    rw [F.k] at dx
    refine tg (M bi) A H0 σ' H'' x (F.k bi) (e2.nx n3) dx _ fun σ3 e3 t3 => ?_
    have g3 : Go A σ Γ H1 σ3 Γ1 H'' := (g2.trans e2 n3.go).trans (e2.nx n3) t3.go
    refine body A H0 _ σ3 H'' e3 (fun b' Γ' σ4 H4 p e4 g4 => ⟨b', Γ', p, e4, g3.trans e3 g4⟩) (fun b' Γ' σ4 H4 p e4 g4 => kn _ _ _ _ p e4 (n1.go.trans e1 (g3.trans e3 g4))) (fun b' Γ' σ4 H4 p e4 g4 => ⟨b', Γ', p, e4, g3.trans e3 g4⟩) kr
/-! objects -/
/-- a method's call, a field, a call by any promise -/
theorem x_meth {M : Md} {P : AS → Hp → V → Prop} {CC : Addr} {m : Str} {sp : Sp} {X : XK} {ta : TE} {tas : TA} (ho : E M ta Γ (.obj P)) (hP : ∀ S H v, P S H v → ∃ a dx fs, v = .ref a ∧ H a = some (.ins CC dx fs) ∧ fs.lookup m = none) (hs : EA M tas Γ ds)
    (h : ∀ S v vs H Q, P S H v → IsL M.K S H vs ds → (∀ v' H', Same H H' → IsD M.K S H' v' d → Q v' H') → sp (v :: vs) H Q X) : E M (tMeth CC m sp [] X ta tas) Γ d := fun A H0 σ H e Q q => ho A H0 σ H e _ fun v H1 n1 tv => by
  have pv := isd_obj tv
  obtain ⟨a, dx, fs, rfl, h1, h2⟩ := hP _ _ _ pv
  refine ⟨a, dx, fs, rfl, h1, h2, hs A H0 σ H1 (e.nx n1) _ fun vs H2 n2 l => ?_⟩
  rw [List.append_nil]
  have e2 := (e.nx n1).nx n2
  exact h (SA A σ Γ) _ vs H2 Q (isd_obj (tv.stay n2.sf)) l fun v' H3 sm hv => q v' H3 ((n1.trans n2).trans (e2.same sm fun a h => sm.free h)) hv
theorem x_fld {M : Md} {P : AS → Hp → V → Prop} {f : Str} {ta : TE} (ho : E M ta Γ (.obj P)) (hP : ∀ S H v, P S H v → ∃ a CC dx fs u, v = .ref a ∧ H a = some (.ins CC dx fs) ∧ Cls M.K CC ∧ NoAttr M.K CC f ∧ fs.lookup f = some u ∧ IsD M.K S H u d) : E M (tFld M.K ta f) Γ d := fun A H0 σ H e Q q => ho A H0 σ H e _ fun v H1 n1 tv => by
  obtain ⟨a, CC, dx, fs, u, rfl, h1, h2, h3, h4, h5⟩ := hP _ _ _ (isd_obj tv)
  exact ⟨a, CC, dx, fs, u, rfl, h1, h2, h3, h4, q u H1 n1 h5⟩
theorem x_callG {M : Md} {sp : Sp} {X : XK} {tas : TA} (hs : EA M tas Γ ds) (h : ∀ S vs H Q, (∀ a, S a → ∃ o, H a = some o) → IsL M.K S H vs ds → (∀ v' H', Same H H' → IsD M.K S H' v' d → Q v' H') → sp vs H Q X) : E M (tCall sp [] X tas) Γ d := fun A H0 σ H e Q q => hs A H0 σ H e _ fun vs H1 n1 l => by
  rw [List.append_nil]
  have e1 := e.nx n1
  exact h (SA A σ Γ) vs H1 Q e1.sv l fun v' H3 sm hv => q v' H3 (n1.trans (e1.same sm fun a h => sm.free h)) hv
end
end
section
set_option Elab.async false
set_option linter.all false
set_option maxRecDepth 100000
set_option maxHeartbeats 1000000
open PySem PySem.Spec PyProof.Rows L2
/-! expressions that give some data; promises of some data; the script -/
abbrev Abk (K : PySem.W.Frag) (mg : Str → Option Value) (x : Str) (f : Addr) (d : FuncData) (ps : List Str) : Prop := mg x = some (.ref f) ∧ PySem.W.keepIn K (.ref f) = true ∧ Binds K d ps []
def EN (M : Md) (te : TE) (Γ : List Sl) (R : Dt → Prop) : Prop := ∀ A H0 σ H, En M A H0 Γ σ H → ∀ Q : VK, (∀ v d H', R d → Nx M (SA A σ Γ) H H' → IsD M.K (SA A σ Γ) H' v d → Q v H') → te σ H Q
def ENA (M : Md) (ta : TA) (Γ : List Sl) (R : List Dt → Prop) : Prop := ∀ A H0 σ H, En M A H0 Γ σ H → ∀ Q : List V → Hp → Prop, (∀ vs ds H', R ds → Nx M (SA A σ Γ) H H' → IsL M.K (SA A σ Γ) H' vs ds → Q vs H') → ta σ H Q
def spN (K : PySem.W.Frag) (R : List Dt → Dt → Prop) : Sp := fun vs H Q _ => ∃ (A : AS) (ds : List Dt), (∀ a, A a → ∃ o, H a = some o) ∧ IsL K A H vs ds ∧ (∃ d, R ds d) ∧ ∀ v d H', R ds d → Same H H' → (∀ a, H' a = none → H a = none) → IsD K A H' v d → Q v H'
section
variable {M : Md} {A : AS} {K : PySem.W.Frag} {H0 H H1 H2 H' : Hp} {Γ Δ Γ' Γ1 : List Sl} {σ σ' : L2.St} {S : AS} {d d1 d2 : Dt} {ds es : List Dt} {te ta tb tl : TE} {tas : TA} {t : TT} {b : Bool} {tu tw tz ts : TS} {P : Po} {X : XK} {R R2 : Dt → Prop} {RL : List Dt → Prop} {g : TG}
theorem en_of (h : Nw.E M te Γ d) : EN M te Γ (fun x => x = d) := fun A H0 σ H e Q q => h A H0 σ H e Q fun v H' n tv => q v d H' rfl n tv
theorem EN.imp (h : EN M te Γ R) (i : ∀ d, R d → R2 d) : EN M te Γ R2 := fun A H0 σ H e Q q => h A H0 σ H e Q fun v d H' r n tv => q v d H' (i d r) n tv
theorem e_of_en (h : EN M te Γ fun x => x = d) : Nw.E M te Γ d := fun A H0 σ H e Q q => h A H0 σ H e Q fun v x H' r n tv => by
  subst r
  exact q v H' n tv
theorem ena_nil : ENA M tNil Γ (fun ds => ds = []) := fun A H0 σ H e Q q => q _ _ H rfl (.refl e) .nil
theorem ena_cons (h : EN M te Γ R) (hs : ENA M tas Γ RL) : ENA M (tCons te tas) Γ (fun ds => ∃ d r, ds = d :: r ∧ R d ∧ RL r) := fun A H0 σ H e Q q =>
  h A H0 σ H e _ fun v d H1 r n1 tv => hs A H0 σ H1 (e.nx n1) _ fun vs ds H2 rl n2 tvs => q _ _ H2 ⟨d, ds, rfl, r, rl⟩ (n1.trans n2) (.cons (tv.stay n2.sf) tvs)
theorem ENA.imp {RL2 : List Dt → Prop} (h : ENA M tas Γ RL) (i : ∀ ds, RL ds → RL2 ds) : ENA M tas Γ RL2 := fun A H0 σ H e Q q => h A H0 σ H e Q fun vs ds H' r n l => q vs ds H' (i ds r) n l
/-- a call by a promise of data -/
theorem en_call {RX : List Dt → Dt → Prop} (h : ENA M tas Γ RL) (r : ∀ ds, RL ds → ∃ d, RX ds d ∧ R d) : EN M (tCall (spX M.K RX) [] X tas) Γ R := fun A H0 σ H e Q q => h A H0 σ H e _ fun vs ds H1 rl n1 l => by
  rw [List.append_nil]
  have e1 := e.nx n1
  obtain ⟨d, r1, r2⟩ := r ds rl
  exact ⟨SA A σ Γ, ds, d, e1.sv, l, r1, fun v H2 sm al hv => q v d H2 r2 (n1.trans (e1.same sm al)) hv⟩
theorem en_callR {RX : List PyData → PyData → Prop} (h : ENA M tas Γ RL) (r : ∀ ds, RL ds → ∃ (es : List PyData) (d : PyData), ds = pdL es ∧ tOnlyL es = true ∧ RX es d ∧ R (pd d)) : EN M (tCall (spR M.K RX) [] X tas) Γ R := fun A H0 σ H e Q q => h A H0 σ H e _ fun vs ds H1 rl n1 l => by
  rw [List.append_nil]
  have e1 := e.nx n1
  obtain ⟨es, d, rfl, t, r1, r2⟩ := r ds rl
  exact ⟨es, d, isl_tpl es t l, r1, fun v H2 sm hv => q v (pd d) H2 r2 (n1.trans (e1.same sm fun a h => sm.free h)) (tp_isd hv)⟩
theorem en_ncall {RX : List Dt → Dt → Prop} (h : ENA M tas Γ RL) (r : ∀ ds, RL ds → ∃ d, RX ds d) : EN M (tCall (spN M.K RX) [] X tas) Γ (fun d => ∃ ds, RL ds ∧ RX ds d) := fun A H0 σ H e Q q => h A H0 σ H e _ fun vs ds H1 rl n1 l => by
  rw [List.append_nil]
  have e1 := e.nx n1
  exact ⟨SA A σ Γ, ds, e1.sv, l, r ds rl, fun v d H2 rd sm al hv => q v d H2 ⟨ds, rl, rd⟩ (n1.trans (e1.same sm al)) hv⟩
theorem s_setN {i : Nat} (h : EN M te Γ R) (k : ∀ d, R d → P.nx (Γ.set i (.f d))) : W M (tAsg te (gName i)) Γ P := fun A H0 D σ H e kn kb kc kr => h A H0 σ H e _ fun v d H1 r n1 tv => by
  have e1 := (e.nx n1).setf (i := i) tv
  exact kn _ _ _ (k d r) e1 (n1.go.trans (e.nx n1) Go.setf)
theorem w_setN {i : Nat} (h : EN M te Γ R) (k : ∀ d, R d → W M tz (Γ.set i (.f d)) P) : W M (tSeq (tAsg te (gName i)) tz) Γ P := w_seq (s_setN h k)
theorem w_retN2 (h : EN M te Γ R) (k : ∀ d, R d → P.rt d) : W M (tRet te) Γ P := fun A H0 D σ H e kn kb kc kr => h A H0 σ H e _ fun v d H1 r n1 tv => kr v d H1 (k d r) (e.retA n1) (tv.chg fun a h => .inl (.inl h))
/-- a def's body keeps its promise of some data -/
theorem body_okN {N : List Str} {vs : List V} {Q : VK} {R : Dt → Prop} (av : ∀ a, A a → ∃ o, H a = some o) (l : IsL K A H vs ds) (q : ∀ v d H', R d → Same H H' → (∀ a, H' a = none → H a = none) → IsD K A H' v d → Q v H')
    (w : W (pure0 K) ts (st0 N ds) { nx := fun _ => False, rt := R }) : ts { nx := fun _ H' => Q .non H', rt := Q } (L2.start N vs) H := by
  have e := En.init (N := N) av l
  refine w A H _ _ H e (fun Γ' σ' H' p e' g' => p.elim) (fun _ _ _ p _ _ => p.elim) (fun _ _ _ p _ _ => p.elim) fun v x H' p n hv => ?_
  have s : Same H H' := fun b o hb => n.fr.no hb fun z => z
  exact q v x H' p s (fun a h => s.free h) hv
/-! truth of data, whole parts of tuples -/
/-- x or y, by truth -/
theorem x_orT (h : Nw.E M ta Γ d1) (h1 : d1 ≠ .non → (∃ x : Str, d1 = .str x ∧ 1 ≤ x.length ∧ x.length ≤ 1000000) ∧ d = d1) (h2 : d1 = .non → Nw.E M tb Γ d) : Nw.E M (tOrT M.K ta tb) Γ d := fun A H0 σ H e Q q => h A H0 σ H e _ fun v H1 n1 tv => by
  by_cases c : d1 = .non
  · subst c
    cases isd_non tv
    exact ⟨false, rfl, iteF (h2 rfl A H0 σ H1 (e.nx n1) Q fun v H2 n2 t2 => q v H2 (n1.trans n2) t2)⟩
  · obtain ⟨⟨x, e1, l1, l2⟩, e2⟩ := h1 c
    subst e2
    subst e1
    cases isd_str tv
    refine ⟨true, ⟨sz5 l2, ?_⟩, iteT (q _ H1 n1 tv)⟩
    have h3 : ¬ x.length = 0 := by omega
    simp [bne, h3]
/-- t[:1] -/
theorem x_sl1 {tl th : TO} (h : Nw.E M te Γ (.tup ds)) (hl : EO M tl Γ none) (hh : EO M th Γ (some 1)) : Nw.E M (tSl (rSlA M.K) te tl th) Γ (.tup (ds.take 1)) := fun A H0 σ H e Q q =>
  h A H0 σ H e _ fun v H1 n1 tv => hl A H0 σ H1 (e.nx n1) _ fun H2 n2 => hh A H0 σ H2 ((e.nx n1).nx n2) _ fun H3 n3 => by
    obtain ⟨a, xs, rfl, s, l⟩ := isd_tup ((tv.stay n2.sf).stay n3.sf)
    have e3 := ((e.nx n1).nx n2).nx n3
    have i1 : HT.sIx xs.length xs.length (some 1) = min 1 xs.length := HT.sIx_nat (k := 1) ..
    have i0 : HT.sIx xs.length 0 none = 0 := rfl
    refine ⟨a, xs, rfl, s, fun c => ?_, fun c p hp => ?_⟩
    · have lt : ds.length ≤ 1 := by
        have := c.2
        rw [i1, l.len] at this
        omega
      rw [List.take_of_length_le lt] at q
      exact q _ _ ((n1.trans n2).trans n3) (.tup s l)
    · refine q _ _ (((n1.trans n2).trans n3).trans (.new e3 hp)) (.tup (SqT.of upd_same) ?_)
      have : cutV xs none (some 1) = xs.take 1 := by
        unfold cutV
        rw [i1, i0, List.drop_zero, Nat.sub_zero]
        by_cases z : xs.length ≤ 1
        · rw [List.take_of_length_le (l := xs) (i := 1) z, List.take_of_length_le (by omega)]
        · rw [Nat.min_eq_left (by omega)]
      rw [this]
      exact (l.take 1).stay (.new hp)
theorem x_lenS {x : Str} (h : EA M tas Γ [.str x]) (hl : x.length ≤ 1000000) : Nw.E M (tCB (fun xs H Q => ∃ z, xs = [.str z] ∧ z.length ≤ sizeLine ∧ Q (.int z.length) H) tas) Γ (.int (x.length : Nat)) := fun A H0 σ H e Q q => h A H0 σ H e _ fun vs H1 n1 l => by
  cases l with
  | cons a l =>
    cases l
    cases isd_str a
    exact ⟨_, rfl, sz5 hl, q _ _ n1 (.int _)⟩
theorem atNat {α : Type} {l : List α} {k : Nat} {x : α} (h : l[k]? = some x) : atI l (k : Int) = some x := by
  have hk : k < l.length := (List.getElem?_eq_some_iff.mp h).1
  unfold atI
  have : ixN l.length (k : Int) = some k := by
    unfold ixN
    rw [if_pos (by omega), if_pos (by omega)]
    simp
  rw [this]
  exact h
end
/-! the script, and a law -/
def scrP (K : PySem.W.Frag) (ns : List Int) : AS → Hp → V → Prop := fun S H v => ∃ a, v = .ref a ∧ (((H a = some (.lst (ns.map V.int)) ∨ ∃ o, H a = some (.frz o (.lst (ns.map V.int)))) ∧ ¬ S a) ∨ ∀ H', SqL K H' a (ns.map V.int))
theorem no_chgB {S S' : AS} {H : Hp} {a : Addr} {o : HO} (f : ∀ a, S' a → S a ∨ H a = none) (h : H a = some o) (n : ¬ S a) : ¬ S' a := fun z => (f a z).elim n fun y => by rw [h] at y; cases y
theorem scr_stab (K : PySem.W.Frag) (ns : List Int) : Stab (scrP K ns) where
  stay := fun f h => by
    obtain ⟨a, rfl, ⟨h | ⟨o, h⟩, n⟩ | h⟩ := h
    · exact ⟨a, rfl, .inl ⟨.inl (f.no h n), n⟩⟩
    · exact ⟨a, rfl, .inl ⟨.inr ⟨o, f.no h n⟩, n⟩⟩
    · exact ⟨a, rfl, .inr h⟩
  chg := fun f h => by
    obtain ⟨a, rfl, ⟨h | ⟨o, h⟩, n⟩ | h⟩ := h
    · exact ⟨a, rfl, .inl ⟨.inl h, no_chgB f h n⟩⟩
    · exact ⟨a, rfl, .inl ⟨.inr ⟨o, h⟩, no_chgB f h n⟩⟩
    · exact ⟨a, rfl, .inr h⟩
def scrO (K : PySem.W.Frag) (ns : List Int) : Dt := .obj (scrP K ns)
theorem scr_at {K : PySem.W.Frag} {ns : List Int} {S : AS} {H : Hp} {v : V} (h : scrP K ns S H v) : ∃ a, v = .ref a ∧ SqL K H a (ns.map V.int) := by
  obtain ⟨a, rfl, ⟨h | ⟨o, h⟩, n⟩ | h⟩ := h
  · exact ⟨a, rfl, .inl (.inl h)⟩
  · exact ⟨a, rfl, .inl (.inr ⟨o, h⟩)⟩
  · exact ⟨a, rfl, h _⟩
theorem scr_of {K : PySem.W.Frag} {ns : List Int} {H : Hp} {a : Addr} (h : SqL K H a (ns.map V.int)) : IsD K (fun _ => False) H (.ref a) (scrO K ns) := by
  refine .obj (scr_stab K ns) ⟨a, rfl, ?_⟩
  rcases h with (h | ⟨o, h⟩) | h
  · exact .inl ⟨.inl h, fun z => z⟩
  · exact .inl ⟨.inr ⟨o, h⟩, fun z => z⟩
  · exact .inr fun H' => .inr h
section
variable {M : Md} {K : PySem.W.Frag} {H : Hp} {Γ : List Sl} {X : XK}
theorem en_cell {ns : List Int} {i : Nat} {j : Int} {tj : TE} (h : Γ[i]? = some (.f (scrO M.K ns))) (hj : Nw.E M tj Γ (.int j)) (j0 : 0 ≤ j) : EN M (tCall (spCellN M.K) [] X (tCons (tVar i) (tCons tj tNil))) Γ (fun d => ∃ n : Int, d = .int n) := fun A H0 σ H e Q q => by
  obtain ⟨v, g1, g2⟩ := e.at' i _ h
  refine ⟨_, g1, hj A H0 σ H e _ fun w H1 n1 tw => ?_⟩
  cases isd_int tw
  obtain ⟨a, rfl, sq⟩ := scr_at (isd_obj (g2.stay n1.sf))
  exact ⟨a, ns, j, rfl, sq, j0, fun n => q _ _ H1 ⟨n, rfl⟩ n1 (.int n)⟩
def spLaw (K : PySem.W.Frag) : Sp := fun vs H Q _ => ∃ (a : Addr) (ns : List Int), vs = [.ref a] ∧ SqL K H a (ns.map V.int) ∧ ∀ H', Q (.bl true) H'
theorem law_ok {N : List Str} {a : Addr} {ns : List Int} {ts : TS} {Q : VK} (hS : SqL K H a (ns.map V.int)) (q : ∀ H', Q (.bl true) H') (w : W (pure0 K) ts (st0 N [scrO K ns]) { nx := fun _ => False, rt := fun x => x = .bl true }) : ts { nx := fun _ H' => Q .non H', rt := Q } (L2.start N [.ref a]) H :=
  body_okN (K := K) (A := fun _ => False) (H := H) (R := fun x => x = .bl true) (fun a z => z.elim) (.one (scr_of hS)) (fun v d H' z _ _ hv => by
    subst z
    cases isd_bl hv
    exact q H') w
end
end
section
set_option Elab.async false
set_option linter.all false
set_option maxRecDepth 100000
set_option maxHeartbeats 1000000
open PySem PySem.Spec PyProof.Rows L2
/-! what is drawn, further: tests, lists, loops, defs that draw -/
inductive Al2 {α β : Type} (R : α → β → Prop) : List α → List β → Prop
  | nil : Al2 R [] []
  | cons {a : α} {b : β} {as : List α} {bs : List β} : R a b → Al2 R as bs → Al2 R (a :: as) (b :: bs)
section
variable {α β : Type} {R : α → β → Prop}
theorem Al2.len : ∀ {as : List α} {bs : List β}, Al2 R as bs → as.length = bs.length
  | _, _, .nil => rfl
  | _, _, .cons _ h => by rw [List.length_cons, List.length_cons, h.len]
theorem Al2.app : ∀ {as cs : List α} {bs ds : List β}, Al2 R as bs → Al2 R cs ds → Al2 R (as ++ cs) (bs ++ ds)
  | _, _, _, _, .nil, h => h
  | _, _, _, _, .cons a b, h => .cons a (b.app h)
theorem Al2.all {P : β → Prop} (h : ∀ a b, R a b → P b) : ∀ {as : List α} {bs : List β}, Al2 R as bs → ∀ b ∈ bs, P b
  | _, _, .nil, b, hb => nomatch hb
  | _, _, .cons r l, b, hb => by
    rcases List.mem_cons.mp hb with rfl | hb
    · exact h _ _ r
    · exact l.all h b hb
end
def ETN (M : Md) (tt : TT) (Γ : List Sl) (R : Bool → Prop) : Prop := ∀ A H0 σ H, En M A H0 Γ σ H → ∀ Q : Bool → Hp → Prop, (∀ b H', R b → Nx M (SA A σ Γ) H H' → Q b H') → tt σ H Q
def ENL (M : Md) (te : TE) (Γ : List Sl) (R : List Dt → Prop) : Prop := ∀ A H0 σ H, En M A H0 Γ σ H → ∀ Q : VK, (∀ p xs ds H', R ds → H p = none → Nx M (SA A σ Γ) H H' → H' p = some (.lst xs) → IsL M.K (fun a => SA A σ Γ a ∨ a = p) H' xs ds → M.G (fun a => SA A σ Γ a ∨ a = p) H' → Q (.ref p) H') → te σ H Q
def ITN (M : Md) (wi : TI) (Γ : List Sl) (RD : List Dt → Prop) : Prop := ∀ A H0 σ H, En M A H0 Γ σ H → ∀ R : It → Hp → Prop, (∀ J H1 ds, RD ds → Nx M (SA A σ Γ) H H1 → ItOk M.K (SA A σ Γ) H1 J ds → R J H1) → wi σ H R
section
variable {M : Md} {A : AS} {K : PySem.W.Frag} {H0 H H1 H2 H' : Hp} {Γ Δ Γ' Γ1 : List Sl} {σ σ' : L2.St} {S : AS} {d d1 d2 : Dt} {ds es : List Dt} {te ta tb tl : TE} {tas : TA} {t u : TT} {b : Bool} {tu tw tz ts : TS} {P : Po} {X : XK} {R R1 Rb : Dt → Prop} {RL : List Dt → Prop} {RB : Bool → Prop} {wi : TI} {g : TG} {vs : List Nat}
theorem itn_of (h : IT M wi Γ ds) : ITN M wi Γ (fun x => x = ds) := fun A H0 σ H e R r => h A H0 σ H e R fun J H1 n1 ok => r J H1 ds rfl n1 ok
theorem enl_of (h : EL M te Γ ds) : ENL M te Γ (fun x => x = ds) := fun A H0 σ H e Q q => h A H0 σ H e Q fun p xs H' hp n hx l G => q p xs ds H' rfl hp n hx l G
theorem ENL.imp {RL2 : List Dt → Prop} (h : ENL M te Γ RL) (i : ∀ ds, RL ds → RL2 ds) : ENL M te Γ RL2 := fun A H0 σ H e Q q => h A H0 σ H e Q fun p xs ds H' r hp n hx l G => q p xs ds H' (i ds r) hp n hx l G
theorem enl_en (h : ENL M te Γ RL) : EN M te Γ (fun d => ∃ ds, d = .lst ds ∧ RL ds) := fun A H0 σ H e Q q => h A H0 σ H e Q fun p xs ds H' r hp n hx l _ => q _ _ H' ⟨ds, rfl, r⟩ n (.lst hx (e.fresh hp) (l.chg fun a h => .inl (.inl h)))
theorem etn_of (h : ET M t Γ b) : ETN M t Γ (fun x => x = b) := fun A H0 σ H e Q q => h A H0 σ H e Q fun H' n => q b H' rfl n
theorem etn_test (h : EN M te Γ fun d => ∃ b, d = .bl b ∧ RB b) : ETN M (tTest te) Γ RB := fun A H0 σ H e Q q => h A H0 σ H e _ fun v d H' ⟨b, e1, r⟩ n tv => by
  subst e1
  exact ⟨b, isd_bl tv, q b H' r n⟩
theorem etn_not (h : ETN M t Γ RB) : ETN M (tNot t) Γ (fun b => RB (!b)) := fun A H0 σ H e Q q => h A H0 σ H e _ fun b H' r n => q (!b) H' (by show RB (!(!b)); rw [Bool.not_not]; exact r) n
theorem etn_and (h : ET M t Γ b) (h1 : b = true → ETN M u Γ RB) (h2 : b = false → RB false) : ETN M (tAnd t u) Γ RB := fun A H0 σ H e Q q => h A H0 σ H e _ fun H1 n1 => by
  cases b with
  | true => exact iteT (h1 rfl A H0 σ H1 (e.nx n1) Q fun b H2 r n2 => q b H2 r (n1.trans n2))
  | false => exact iteF (q false H1 (h2 rfl) n1)
theorem s_ifN (h : ETN M t Γ RB) (h1 : RB true → W M tu Γ P) (h2 : RB false → W M tw Γ P) : W M (tIfS t tu tw) Γ P := fun A H0 D σ H e kn kb kc kr => h A H0 σ H e _ fun b H1 r n1 => by
  have e1 := e.nx n1
  cases b with
  | true => exact iteT (W.go (P := P) (h1 r) e1 n1.go kn kb kc kr)
  | false => exact iteF (W.go (P := P) (h2 r) e1 n1.go kn kb kc kr)
theorem w_ifN (h : ETN M t Γ RB) (h1 : RB true → W M tu Γ { P with nx := fun Γ' => W M tz Γ' P }) (h2 : RB false → W M tw Γ { P with nx := fun Γ' => W M tz Γ' P }) : W M (tSeq (tIfS t tu tw) tz) Γ P := w_seq (s_ifN h h1 h2)
theorem s_setlN {i : Nat} (hi : i < Γ.length) (h : ENL M te Γ RL) (k : ∀ ds, RL ds → P.nx (Γ.set i (.o ds))) : W M (tAsg te (gName i)) Γ P := fun A H0 D σ H e kn kb kc kr => h A H0 σ H e _ fun p xs ds H1 r hf n1 hp l G =>
  kn _ _ _ (k ds r) (e.seto n1 hi hf hp l G) (.seto n1 hf)
theorem w_setlN {i : Nat} (hi : i < Γ.length) (h : ENL M te Γ RL) (k : ∀ ds, RL ds → W M tz (Γ.set i (.o ds)) P) : W M (tSeq (tAsg te (gName i)) tz) Γ P := w_seq (s_setlN hi h k)
theorem s_appN {i : Nat} (hi : Γ[i]? = some (.o ds)) (h : EN M te Γ R) (hz : ds.length < 1000000) (k : ∀ d, R d → P.nx (Γ.set i (.o (ds ++ [d])))) : W M (tDrop (tBM M.K "list" rAppend (tVar i) (tCons te tNil))) Γ P := fun A H0 D σ H e kn kb kc kr => by
  obtain ⟨p, xs, h1, h2, h3⟩ := e.at' i _ hi
  refine ⟨_, h1, .inl ⟨rfl, _, SqL.of h2⟩, h A H0 σ H e _ fun v d H1 r n1 tv => ?_⟩
  have e1 := e.nx n1
  have hp := n1.own e ⟨i, ds, hi, h1⟩ h2
  obtain ⟨e2, g2⟩ := e1.updo hi h1 ((h3.stay n1.sf).app (.one tv))
  exact ⟨p, xs, v, rfl, rfl, hp, by rw [h3.len]; exact sz6 hz, kn _ _ _ (k d r) e2 (n1.go.trans e1 g2)⟩
theorem w_appN {i : Nat} (hi : Γ[i]? = some (.o ds)) (h : EN M te Γ R) (hz : ds.length < 1000000) (k : ∀ d, R d → W M tz (Γ.set i (.o (ds ++ [d]))) P) : W M (tSeq (tDrop (tBM M.K "list" rAppend (tVar i) (tCons te tNil))) tz) Γ P := w_seq (s_appN hi h hz k)
theorem en_op {r : R2} (ha : EN M ta Γ R1) (hb : EN M tb Γ Rb) (hr : ∀ d1 d2, R1 d1 → Rb d2 → ∃ d, RX M.K r d1 d2 d ∧ R d) : EN M (tOp r ta tb) Γ R := fun A H0 σ H e Q q =>
  ha A H0 σ H e _ fun v1 d1 H1 r1 n1 t1 => hb A H0 σ H1 (e.nx n1) _ fun v2 d2 H2 r2 n2 t2 => by
    obtain ⟨d, rx, rd⟩ := hr d1 d2 r1 r2
    exact rx _ v1 v2 H2 Q (t1.stay n2.sf) t2 fun v tv => q v d H2 rd (n1.trans n2) tv
/-- an item of a list that is read, by a number that is drawn -/
theorem en_ixL {RI : Int → Prop} (ha : ER M ta Γ ds) (hb : EN M tb Γ fun d => ∃ v, d = .int v ∧ RI v) (h : ∀ i, RI i → ∃ d, atI ds i = some d ∧ R d) : EN M (tOp (rIxL M.K) ta tb) Γ R := fun A H0 σ H e Q q =>
  ha A H0 σ H e _ fun p xs H1 n1 h1 c1 l1 => hb A H0 σ H1 (e.nx n1) _ fun v2 d2 H2 ⟨i, e2, ri⟩ n2 t2 => by
    subst e2
    rw [isd_int t2]
    obtain ⟨d, hd, rd⟩ := h i ri
    have l2 := l1.stay n2.sf
    obtain ⟨n, x, e1, e2, e3⟩ := atI_get2 l2.len hd
    exact ⟨p, xs, i, x, rfl, rfl, SqL.of (n2.fr.no h1 c1), e1, q _ d _ rd (n1.trans n2) (l2.at e2 e3)⟩
theorem en_tup (h : ENA M tas Γ RL) (hl : ∀ ds, RL ds → ds.length ≤ 1000) : EN M (tTup tas) Γ (fun d => ∃ ds, d = .tup ds ∧ RL ds) := fun A H0 σ H e Q q => h A H0 σ H e _ fun vs ds H1 r n1 l =>
  ⟨by rw [l.len]; exact sz5 (by have := hl ds r; omega), fun p hp => q _ _ _ ⟨ds, rfl, r⟩ (n1.trans (.new (e.nx n1) hp)) (.tup (SqT.of upd_same) (l.stay (.new hp)))⟩
theorem enl_lst (h : ENA M tas Γ RL) (hl : ∀ ds, RL ds → ds.length ≤ 1000) : ENL M (tLst tas) Γ RL := fun A H0 σ H e Q q => h A H0 σ H e _ fun vs ds H1 r n1 l =>
  ⟨by rw [l.len]; exact sz5 (by have := hl ds r; omega), fun p hp => el_new e n1 hp l fun p xs H' a b c d f => q p xs ds H' r a b c d f⟩
/-- tuple(a list that is drawn) -/
theorem en_tuple (h : ENL M te Γ RL) : EN M (tCB (rTupleOf M.K) (tCons te tNil)) Γ (fun d => ∃ ds, d = .tup ds ∧ RL ds) := fun A H0 σ H e Q q => h A H0 σ H e _ fun p xs ds H1 r hp n1 h1 l1 _ =>
  ⟨p, xs, rfl, .inl ⟨SqL.of h1, fun l hl => q _ _ _ ⟨ds, rfl, r⟩ (n1.trans (.new (e.nx n1) hl)) (.tup (SqT.of upd_same) ((l1.chg fun a h => .inl (.inl h)).stay (.new hl)))⟩⟩
theorem itn_rng1 {RI : Nat → Prop} (h : EN M te Γ fun d => ∃ n : Nat, d = .int (n : Int) ∧ RI n) (hn : ∀ n, RI n → n ≤ 1000000) : ITN M (iRng1 (tCons te tNil)) Γ (fun ds => ∃ n, RI n ∧ ds = (List.range n).map fun i : Nat => Dt.int (i : Int)) := fun A H0 σ H e R r => h A H0 σ H e _ fun v d H1 ⟨n, e1, rn⟩ n1 tv => by
  subst e1
  have key := it_rng1 (M := M) (Γ := Γ) (te := tC v) (n := n) (fun A' H0' σ' H' e' Q q => q v H' (.refl e') (by rw [isd_int tv]; exact .int _)) (hn n rn)
  exact key A H0 σ H1 (e.nx n1) _ fun J H2 n2 ok => r J H2 _ ⟨n, rn, rfl⟩ (n1.trans n2) ok
theorem s_forN {RD : List Dt → Prop} (h : ITN M wi Γ RD) (I : List Dt → Nat → List Sl → Prop) (h0 : ∀ ds, RD ds → I ds 0 Γ) (hs : ∀ ds, RD ds → ∀ i Γi d, I ds i Γi → ds[i]? = some d → ∃ Δ Γ1 js, Sub Γi Δ ∧ GT M.K g Δ d Γ1 js ∧ W M tu Γ1 { nx := I ds (i + 1), ct := I ds (i + 1), bk := P.nx, rt := P.rt }) (hd : ∀ ds, RD ds → ∀ Γn, I ds ds.length Γn → P.nx Γn) : W M (tFor wi g tu) Γ P := fun A H0 D σ H e kn kb kc kr =>
  h A H0 σ H e _ fun J H1 ds rd n1 ok => by
    have h0 := h0 ds rd
    have hs := hs ds rd
    have hd := hd ds rd
    clear rd
    revert h0 hs hd
    generalize I ds = I
    intro h0 hs hd
    have e1 := e.nx n1
    refine Mg.for_word (n := ds.length) (fun i σ' H' => ∃ Γi, I i Γi ∧ En M A H0 Γi σ' H' ∧ Go A σ Γ H1 σ' Γi H') ⟨Γ, h0, e1, .refl⟩ (fun i σ' H' hi ⟨Γi, _, q⟩ => (ok H' q.2.fr q.2.al).1 i hi) (fun σ' H' ⟨Γi, _, q⟩ => (ok H' q.2.fr q.2.al).2.1) (fun i x σ' H' H'' hi q y => ?_) (fun σ' H' ⟨Γi, p, q⟩ => kn _ _ _ (hd _ p) q.1 (n1.go.trans e1 q.2))
    obtain ⟨Γi, pi, e2, g2⟩ := q
    obtain ⟨sm, al, dat⟩ := (ok H' g2.fr g2.al).2.2 i x H'' y
    obtain ⟨Δ, Γ1, js, sb, tg, body⟩ := hs i Γi _ pi (List.getElem?_eq_getElem hi)
    have g2 := g2.sub sb
    have e2 := e2.sub sb
    have n3 := e2.same sm al
    have dx := dat _ (List.getElem?_eq_getElem hi) (SA A σ' Δ) (fun a z => z.elim (fun z => .inl (.inl z)) fun z => (g2.ow a z).elim (fun z => .inl (.inr z)) .inr) e2.sv
    refine tg M A H0 σ' H'' x rfl (e2.nx n3) dx _ fun σ3 e3 t3 => ?_
    have g3 : Go A σ Γ H1 σ3 Γ1 H'' := (g2.trans e2 n3.go).trans (e2.nx n3) t3.go
    refine body A H0 _ σ3 H'' e3 (fun Γ' σ4 H4 p e4 g4 => ⟨Γ', p, e4, g3.trans e3 g4⟩) (fun Γ' σ4 H4 p e4 g4 => kn _ _ _ p e4 (n1.go.trans e1 (g3.trans e3 g4))) (fun Γ' σ4 H4 p e4 g4 => ⟨Γ', p, e4, g3.trans e3 g4⟩) kr
theorem w_forN {RD : List Dt → Prop} (h : ITN M wi Γ RD) (I : List Dt → Nat → List Sl → Prop) (h0 : ∀ ds, RD ds → I ds 0 Γ) (hs : ∀ ds, RD ds → ∀ i Γi d, I ds i Γi → ds[i]? = some d → ∃ Δ Γ1 js, Sub Γi Δ ∧ GT M.K g Δ d Γ1 js ∧ W M tu Γ1 { nx := I ds (i + 1), ct := I ds (i + 1), bk := fun Γ' => W M tz Γ' P, rt := P.rt }) (hd : ∀ ds, RD ds → ∀ Γn, I ds ds.length Γn → W M tz Γn P) : W M (tSeq (tFor wi g tu) tz) Γ P :=
  w_seq (s_forN h I h0 hs hd)
theorem xl_lcN {RD : List Dt → Prop} {RE : Dt → Dt → Prop} (h : ITN M wi Γ RD) (hz : ∀ L, RD L → L.length ≤ 1000000) (no : noOwn Γ vs = true)
    (hb : ∀ L, RD L → ∀ a ∈ L, ∃ Γ1 js, GT M.K g (wipeS Γ vs) a Γ1 js ∧ (js.all fun j => vs.contains j) = true ∧ EN M te Γ1 (RE a)) : ENL M (tLc wi g tYes te vs) Γ (fun ds => ∃ L, RD L ∧ Al2 RE L ds) := fun A H0 σ H e Q k => h A H0 σ H e _ fun J H1 L rL n1 ok Dl hD => by
  have hz := hz L rL
  have hb := hb L rL
  have e1 := e.nx n1
  have cD : ∀ a, (SA A σ Γ a ∨ a = Dl) → SA A σ Γ a ∨ H1 a = none := fun a h => h.elim .inl fun z => .inr (by rw [z]; exact hD)
  have nC : ¬ M.C Dl := fun z => by
    obtain ⟨o, ho⟩ := e1.av _ (e.cA _ z)
    rw [hD] at ho
    cases ho
  refine ⟨fun i m H' => m = L.length - i ∧ i ≤ L.length ∧ Nx M (SA A σ Γ) H1 H' ∧ M.G (fun a => SA A σ Γ a ∨ a = Dl) H' ∧ ∃ acc es, H' Dl = some (.lst acc) ∧ IsL M.K (fun a => SA A σ Γ a ∨ a = Dl) H' acc es ∧ Al2 RE (L.take i) es, ⟨L.length, by simp, Nat.zero_le _, .new e1 hD, M.gs (.new hD) (M.gc cD n1.inv), [], [], upd_same, .nil, by rw [List.take_zero]; exact .nil⟩, ?_⟩
  rintro i m H' ⟨rfl, hi, n2, G2, acc, es, ea, la, al2⟩
  obtain ⟨go, stop, yld⟩ := ok H' n2.sf fun a z => n2.free z
  by_cases hlt : i < L.length
  · refine .inr ⟨go i hlt, fun H3 => i + 1 ≤ L.length ∧ Nx M (SA A σ Γ) H1 H3 ∧ M.G (fun a => SA A σ Γ a ∨ a = Dl) H3 ∧ ∃ acc es, H3 Dl = some (.lst acc) ∧ IsL M.K (fun a => SA A σ Γ a ∨ a = Dl) H3 acc es ∧ Al2 RE (L.take (i + 1)) es, fun H3 h3 => ⟨L.length - (i + 1), by omega, rfl, h3⟩, fun x H'' y => ?_⟩
    obtain ⟨sm, al, dat⟩ := yld i x H'' y
    have n3 := n2.trans ((e1.nx n2).same sm al)
    have ea3 := sm _ _ ea
    obtain ⟨a, ha⟩ : ∃ a, L[i]? = some a := ⟨_, List.getElem?_eq_getElem hlt⟩
    obtain ⟨Γ1, js, tg, jv, bd⟩ := hb a (List.mem_of_getElem? ha)
    have eD : En M (fun a => A a ∨ a = Dl) H0 Γ σ H'' := e1.avoid hD n3 ea3 (M.gs (.of sm) G2)
    obtain ⟨eW, oW⟩ := eD.wipe no
    have sW : ∀ a, SA (fun a => A a ∨ a = Dl) (L2.wipe σ vs) (wipeS Γ vs) a → SA A σ Γ a ∨ a = Dl := fun a z => by
      rcases z with (z | z) | ⟨i, ds, z1, z2⟩
      · exact .inl (.inl z)
      · exact .inr z
      · rcases wipeS_at z1 with ⟨_, z⟩ | ⟨z3, z4⟩
        · cases z
        · rw [wipe_get, if_neg fun z => z3 z.1] at z2
          exact .inl (.inr ⟨i, ds, z4, z2⟩)
    have dx := dat _ ha (SA (fun a => A a ∨ a = Dl) (L2.wipe σ vs) (wipeS Γ vs)) (fun a z => cD a (sW a z)) (fun a z => (sW a z).elim ((e1.nx n2).sv a) fun y => by rw [y]; exact ⟨_, ea⟩)
    refine tg M _ H0 _ H'' x rfl eW dx _ fun σ3 e3 t3 => ?_
    have jin : ∀ j ∈ js, j ∈ vs := fun j hj => by
      have := List.all_eq_true.mp jv j hj
      exact List.contains_iff_mem.mp this
    have s3 : ∀ a, (SA A σ Γ a ∨ a = Dl) → SA (fun a => A a ∨ a = Dl) σ3 Γ1 a := fun a z => by
      rcases z with (z | z) | z
      · exact .inl (.inl z)
      · obtain ⟨i, ds, z1, z2, z3⟩ := oW a z
        have := t3.ow a i ds z2 z3 fun y => z1 (jin i y)
        exact .inr ⟨i, ds, this⟩
      · exact .inl (.inr z)
    refine ⟨by rw [t3.wp vs jin]; exact wipe_wipe, ?_⟩
    refine xt_yes _ H0 σ3 H'' e3 _ fun H4 n4 => ?_
    refine iteT (B := _ ∧ _) ?_
    have e4 := e3.nx n4
    refine bd _ H0 σ3 H4 e4 _ fun v d5 H5 rd n5' tv => ?_
    have n5 := n4.trans n5'
    have fD : ∀ {H5 H6 : Hp}, Fr M.C H5 H6 → Fr (fun a => SA A σ Γ a ∨ a = Dl) H5 H6 := fun f => f.mono fun a z => .inl (n3.cS a z)
    have tk : L.take (i + 1) = L.take i ++ [a] := by
      rw [List.take_add_one, ha]
      rfl
    have ea5 := n5.fr.no ea3 nC
    have n35 : Nx M (SA A σ Γ) H1 H5 := ⟨n3.fr.trans n5.fr, n5.al, M.gc (fun a z => .inl (s3 a (.inl z))) n5.inv, n3.cS⟩
    have up : Fr (fun a => SA A σ Γ a ∨ a = Dl) H5 (upd H5 Dl (.lst (acc ++ [v]))) := .at (.inr rfl) ea5 rfl
    have G6 : M.G (fun a => SA A σ Γ a ∨ a = Dl) (upd H5 Dl (.lst (acc ++ [v]))) := M.gs (.at (S := fun b => (SA A σ Γ b ∨ b = Dl) ∧ ¬ M.C b) ⟨.inr rfl, nC⟩ ea5 rfl) (M.gc (fun a z => .inl (s3 a z)) n5.inv)
    refine ⟨acc, ea5, ?_, hlt, ⟨fun b o hb hs => ?_, fun b hb => ?_, M.gc (fun a z => .inl (.inl z)) G6, n3.cS⟩, G6, _, es ++ [d5], upd_same, ?_, ?_⟩
    · rw [la.len, ← al2.len, List.length_take]
      exact sz6 (by omega)
    · rw [upd_ne (ne_of_none hb hD)]
      exact n35.fr b o hb hs
    · obtain ⟨o, ho⟩ := n35.al b hb
      rw [upd_ne fun z => nC (by rw [← z]; exact hb)]
      exact ⟨o, ho⟩
    · exact (((la.stay (Fr.of sm)).stay (fD n5.fr)).app (.one (tv.chg fun a z => .inl (s3 a z)))).stay up
    · rw [tk]
      exact al2.app (.cons rd .nil)
  · have e0 : i = L.length := by omega
    subst e0
    rw [List.take_length] at al2
    exact .inl ⟨stop, k Dl acc es H' ⟨L, rL, al2⟩ (n1.free hD) (n1.trans n2) ea la G2⟩
/-! defs that draw -/
end
end
end Mg.Nw
set_option Elab.async false
set_option linter.all false
set_option maxRecDepth 100000
set_option maxHeartbeats 4000000
namespace Mg.Tz
open PySem PySem.Spec PyProof.Rows L2
/-! tuple * int, also once -/
theorem tuple_mul1 (l : Addr) (items : Array Value) (n : Nat) (dd : Option Addr) (sl : Array (Option Value)) (u : Tok) :
    Meets (Builtin.«tuple.__mul__» ⟨[.ref l, .int 1 u], []⟩) (fun _ R s => s.heap.get? l = some { cls := .type "tuple", dict := dd, data := .seq items n, slots := sl } ∧ R (.ok (.ret (Value.ref l))) s) :=
  .of_wp fun prog w A R s h => by
    obtain ⟨hp, g, d, tk, os⟩ := s
    obtain ⟨hl, h⟩ := h
    have f1 := AutoSeq1.idx_int
    wp_walk using wpAny_loadPart' hl
    repeat (first
      | (refine wpAny_ite_false (decide_eq_false (by decide)) ?_; wp_walk using wpAny_loadPart' hl)
      | (refine wpAny_ite_true (decide_eq_true (by simp)) ?_; wp_walk using wpAny_loadPart' hl))
    exact ⟨_, rfl, h⟩
def rRepTA (K : PySem.W.Frag) : R2 := fun x y H Q => ∃ l k xs, x = .ref l ∧ y = .int k ∧ SqT K H l xs ∧ xs ≠ [] ∧ k ≤ 1000 ∧ xs.length ≤ 1000 ∧ ((k = 1 ∧ Q (.ref l) H) ∨ (2 ≤ k ∧ ∀ p, H p = none → Q (.ref p) (upd H p (.tup (List.replicate k.toNat xs).flatten))))
section
variable {X : Cx}
theorem op_repTA : OpR X (binaryOp .Mult) (rRepTA X.K) := by
  intro pins s σ H x y v u Q I rx ry h
  obtain ⟨l, k, xs, rfl, rfl, hT, hne, h2, hz, q | ⟨h1, q⟩⟩ := h
  · obtain ⟨rfl, q⟩ := q
    cases rx
    obtain ⟨t, rfl⟩ := ry
    obtain ⟨its, r, ⟨⟨cls, dd, data, sl⟩, ho, hc, n, hd⟩, hs⟩ := I.tuple hT
    simp only at hc hd
    subst hc hd
    exact wpAny_binaryOp_repeat_ref (T := "tuple") (U := "int") (by decide) ⟨_, ho, rfl⟩ (fun s' => typeIs_int s' 1 t) noFill_tuple_mul F.fills_int_mul F.slot_int_rmul repeat_tuple F.slot_int_index.lookup
      (call_meets F.slot_int_rmul (typeIs_int s 1 t) F.entry_int_rmul (F.args_int_rmul_2 _ _) (int_rmul_tuple 1 t l its.toArray n dd sl)
        ⟨ho, rfl, ⟨_, ho, rfl⟩, call_meets F.slot_tuple_mul ⟨_, ho, rfl⟩ F.entry_tuple_mul (F.args_tuple_mul_2 _ _) (tuple_mul1 l its.toArray n dd sl t) ⟨ho, .ref l, H, I, rfl, q⟩⟩)
  · exact op_repT pins s σ H _ _ v u Q I rx ry ⟨l, k, xs, rfl, rfl, hT, hne, h1, h2, hz, q⟩
end
end Mg.Tz
namespace Mg.Nw
open PySem PySem.Spec PyProof.Rows L2 StX Mg.Tz
section
variable {M : Md} {Γ : List Sl} {ta te tb : TE}
theorem isl_repT {K : PySem.W.Frag} {S : AS} {H : Hp} {xs : List V} {ds : List Dt} (l : IsL K S H xs ds) : ∀ n, IsL K S H (List.replicate n xs).flatten (List.replicate n ds).flatten
  | 0 => .nil
  | n + 1 => by
    rw [List.replicate_succ, List.replicate_succ, List.flatten_cons, List.flatten_cons]
    exact l.app (isl_repT l n)
theorem x_repA {ds : List Dt} {n : Nat} (h : Nw.E M te Γ (.tup ds)) (hb : Nw.E M tb Γ (.int (n : Int))) (h0 : ds ≠ []) (h2 : 1 ≤ n) (h3 : n ≤ 1000) (hl : ds.length ≤ 1000) : Nw.E M (tOp (rRepTA M.K) te tb) Γ (.tup (List.replicate n ds).flatten) := fun A H0 σ H e Q q => h A H0 σ H e _ fun v1 H1 n1 t1 => hb A H0 σ H1 (e.nx n1) _ fun v2 H2 n2 t2 => by
  rw [isd_int t2]
  obtain ⟨a, xs, rfl, sq, l⟩ := isd_tup (t1.stay n2.sf)
  have xl := l.len
  refine ⟨a, (n : Int), xs, rfl, rfl, sq, fun z => h0 ?_, by omega, by omega, ?_⟩
  · rw [z] at xl
    exact List.eq_nil_of_length_eq_zero xl.symm
  · by_cases c : n = 1
    · subst c
      refine .inl ⟨rfl, q _ _ (n1.trans n2) (.tup sq ?_)⟩
      rw [List.replicate_one, List.flatten_singleton]
      exact l
    · refine .inr ⟨by omega, fun p hp => ?_⟩
      rw [Int.toNat_natCast]
      exact q _ _ ((n1.trans n2).trans (.new ((e.nx n1).nx n2) hp)) (.tup (SqT.of upd_same) ((isl_repT l _).stay (.new hp)))
end
end Mg.Nw
namespace Mg.Nw
open PySem PySem.Spec PyProof.Rows L2 StX
local macro_rules | `(tactic| walk_at "op") => `(tactic| first | exact o_I0i | exact o_I0b | exact o_ixT rfl | exact o_eqS | exact o_neS | exact o_eqI | exact o_neI | exact o_isN rfl | exact o_notN rfl | exact o_Ii (.inl ⟨by decide, by decide⟩) | exact o_Ii (.inr ⟨by decide, by decide⟩) | exact o_Ii ⟨by decide, by decide⟩ | skip)
local macro_rules | `(tactic| walk_at "x") => `(tactic| first
  | exact x_int | exact x_str | exact x_bl | exact x_non | exact xa_nil | exact xo_no | exact x_var rfl | exact r_var rfl | exact xt_yes
  | ((with_reducible apply xa_cons) <;> walk_at "x")
  | ((with_reducible apply x_op) <;> walk_at "x")
  | ((with_reducible apply x_ixL) <;> walk_at "x")
  | ((with_reducible apply x_tup) <;> walk_at "x")
  | ((with_reducible apply xl_lst) <;> walk_at "x")
  | ((with_reducible apply xl_cat) <;> walk_at "x")
  | ((with_reducible apply x_catT) <;> walk_at "x")
  | ((with_reducible apply x_slT) <;> walk_at "x")
  | ((with_reducible apply xl_slL) <;> walk_at "x")
  | ((with_reducible apply xo_some) <;> walk_at "x")
  | ((with_reducible apply xt_test) <;> walk_at "x")
  | ((with_reducible apply xt_B) <;> walk_at "x")
  | ((with_reducible apply xt_not) <;> walk_at "x")
  | ((with_reducible apply xt_and) <;> walk_at "x")
  | ((with_reducible apply xt_or) <;> walk_at "x")
  | ((with_reducible apply x_and) <;> walk_at "x")
  | ((with_reducible apply x_or) <;> walk_at "x")
  | ((with_reducible apply x_not) <;> walk_at "x")
  | ((with_reducible apply it_tup) <;> walk_at "x")
  | ((with_reducible apply it_lst) <;> walk_at "x")
  | ((with_reducible apply it_enum) <;> walk_at "x")
  | ((with_reducible apply it_zip) <;> walk_at "x")
  | ((with_reducible apply it_rev) <;> walk_at "x")
  | exact gt_name | exact gts_nil
  | ((with_reducible apply gt_tup) <;> walk_at "x")
  | ((with_reducible apply gt_lst) <;> walk_at "x")
  | ((with_reducible apply gts_cons) <;> walk_at "x")
  | (with_reducible apply x_b2; walk_at "x"; walk_at "x"; exact b_max2)
  | (with_reducible apply x_lenU; walk_at "x"; done)
  | (with_reducible apply x_lenL; walk_at "x"; done)
  | ((with_reducible apply x_sum) <;> walk_at "x")
  | ((with_reducible apply x_max) <;> walk_at "x")
  | ((with_reducible apply x_call) <;> walk_at "x")
  | ((with_reducible apply xt_tuple) <;> walk_at "x")
  | (with_reducible apply xl_listU; walk_at "x"; done)
  | (with_reducible apply xl_listL; walk_at "x"; done)
  | (with_reducible apply el_r; walk_at "y")
  | (with_reducible apply el_e; walk_at "y")
  | (with_reducible apply e_r; walk_at "x")
  | exact Nat.le_of_ble_eq_true rfl
  | exact List.cons_ne_nil _ _
  | rfl
  | (simp only [List.length_cons, List.length_nil]; decide +kernel)
  | (with_reducible intro _; walk_at "x")
  | walk_at "op")
local macro_rules | `(tactic| walk_at "y") => `(tactic| first
  | ((with_reducible apply xl_lst) <;> walk_at "x")
  | ((with_reducible apply xl_cat) <;> walk_at "x")
  | ((with_reducible apply xl_slL) <;> walk_at "x")
  | (with_reducible apply xl_listU; walk_at "x"; done)
  | (with_reducible apply xl_listL; walk_at "x"; done))
local macro_rules | `(tactic| walk_at "s") => `(tactic| first | exact Sub.nil | (apply Sub.cons; (first | exact SlLe.refl | exact SlLe.any | exact SlLe.frz | skip); walk_at "s") | skip)
local macro_rules | `(tactic| walk_at "d") => `(tactic| try dsimp only [List.set, wipeS])
local macro_rules | `(tactic| walk_at "go") => `(tactic| ((try dsimp only [cxOf]); simp only [st0, List.map_cons, List.map_nil, List.length_cons, List.length_nil, List.cons_append, List.nil_append, Nat.reduceAdd, Nat.reduceSub, List.replicate]))
section
set_option Elab.async false
set_option linter.all false
set_option maxRecDepth 100000
set_option maxHeartbeats 1000000
open PySem PySem.Spec PyProof.Rows L2 StX

/-! the law on limits -/
abbrev sLKindL : Stmt := top 43
abbrev sLChecked : Stmt := top 44
abbrev sLNested : Stmt := top 45
abbrev sLOneL : Stmt := top 42
abbrev sLimLaw : Stmt := top 46
/-- isinstance of an error that a suite holds, by its class -/
def rIsG (K : PySem.W.Frag) (a : Addr) (cls : Value) (d : Option Addr) : List V → Hp → VK → Prop := fun xs H Q => ∃ D, cls = .ref D ∧ d = none ∧ ExcC K D ∧ rIsE K D a xs H Q
theorem call_isG {X : Cx} {a : Addr} {oe : Obj} {cls : Value} {d : Option Addr} {pn : List (Addr × Obj)} (hz : Zc cls d oe) (hf : ∃ vs, oe.data = .fields vs) : CallR (X.suite a ((a, oe) :: pn)) (.builtin "isinstance") (rIsG X.K a cls d) := by
  intro pins s σ H xs us Q I r h
  obtain ⟨D, rfl, rfl, C, h⟩ := h
  exact call_isE C hz hf pins s σ H xs us Q I r h
/-- text * int -/
def rMulS : R2 := fun x y H Q => ∃ s n, x = .str s ∧ y = .int n ∧ 0 ≤ n ∧ n ≤ 1000 ∧ s.length ≤ 16 ∧ Q (.str (Txt.mul s n)) H
theorem op_mulS {X : Cx} : OpR X (binaryOp .Mult) rMulS := by
  intro pins s σ H x y v u Q I rx ry h
  obtain ⟨z, n, rfl, rfl, h0, h1, h2, q⟩ := h
  obtain ⟨t, rfl⟩ := rx
  obtain ⟨t', rfl⟩ := ry
  exact PySem.SB.mul (mulOk_of 16 1000 h2 (by omega) (by omega) (by decide) (by decide)) fun t' tk => ⟨.str (Txt.mul z n), H, I.tok _, ⟨t', rfl⟩, q⟩
section
variable {P : Program} {w : World} {K : PySem.W.Frag} {mg : Str → Option Value} {base : Heap} {M : Md} {Γ : List Sl} {ta te tb : TE} {X : XK} {CF CD CL CG CE : Addr}
theorem o_mulS {s : Str} {n : Nat} (hn : n ≤ 1000) (hs : s.length ≤ 16) : RX K rMulS (.str s) (.int (n : Int)) (.str (Txt.mul s (n : Int))) := fun S v1 v2 H Q t1 t2 q => by
  cases isd_str t1
  cases isd_int t2
  exact ⟨s, (n : Int), rfl, rfl, by omega, by omega, hs, q _ (.str _)⟩
theorem o_ninSL {x a b : Str} : RX K (rIn K true) (.str x) (.lst [.str a, .str b]) (.bl (!(decide (x = a) || decide (x = b)))) := fun S v1 v2 H Q t1 t2 q => by
  cases isd_str t1
  obtain ⟨p, xs, rfl, e, _, l⟩ := isd_lst t2
  cases l with
  | cons l1 l => cases l with
  | cons l2 l =>
  cases l
  cases isd_str l1
  cases isd_str l2
  refine ⟨p, _, rfl, .inl (SqL.of e), rfl, by simp [flatV], ?_⟩
  rw [if_pos rfl]
  have e : inV (.str x) [.str a, .str b] = (decide (x = a) || decide (x = b)) := by
    have := in_strs (x := x) (ws := [a, b])
    rw [show ([V.str a, V.str b] : List V) = [a, b].map V.str from rfl, this]
    have h : ∀ a : Str, (a == x) = decide (x = a) := fun a => by
      rw [Bool.eq_iff_iff, beq_iff_eq, decide_eq_true_iff]
      exact eq_comm
    show ((a == x) || ((b == x) || false)) = _
    rw [h, h, Bool.or_false]
  rw [e]
  exact q _ (.bl _)
theorem o_catS {a b : Str} (h : a.length + b.length ≤ 1000000) : RX K (fun x y H Q => ∃ i j, x = .str i ∧ y = .str j ∧ i.length + j.length ≤ sizeLine ∧ Q (.str (i ++ j)) H) (.str a) (.str b) (.str (a ++ b)) := fun S v1 v2 H Q t1 t2 q => by
  cases isd_str t1
  cases isd_str t2
  exact ⟨a, b, rfl, rfl, sz5 h, q _ (.str _)⟩
theorem x_intB {b : Bool} (h : Nw.E M ta Γ (.bl b)) : Nw.E M (tCB (fun xs H Q => (∃ i, xs = [.int i] ∧ Q (.int i) H) ∨ ∃ k, xs = [.bl k] ∧ Q (.int (if k then 1 else 0)) H) (tCons ta tNil)) Γ (.int (if b then 1 else 0)) := fun A H0 σ H e Q q => h A H0 σ H e _ fun v H1 n1 tv => by
  cases isd_bl tv
  exact .inr ⟨b, rfl, q _ H1 n1 (.int _)⟩
/-! _law_kind -/
structure TxtK2 (K : PySem.W.Frag) (mg : Str → Option Value) (CF CD CL CG CE : Addr) : Prop where
  g_TooLong : mg "TooLong" = some (.ref CG)
  g_TooDeep : mg "TooDeep" = some (.ref CD)
  g_TooLarge : mg "TooLarge" = some (.ref CL)
  g_SyntaxFault : mg "SyntaxFault" = some (.ref CF)
  g_SetError : mg "SetError" = some (.ref CE)
  b_isinstance : mg "isinstance" = none
  b_int : mg "int" = none
  xGG : PySem.W.exmOne K (.ref CG) (.ref CG) = some true
  xDG : PySem.W.exmOne K (.ref CD) (.ref CG) = some false
  xDD : PySem.W.exmOne K (.ref CD) (.ref CD) = some true
  xLG : PySem.W.exmOne K (.ref CL) (.ref CG) = some false
  xLD : PySem.W.exmOne K (.ref CL) (.ref CD) = some false
  xLL : PySem.W.exmOne K (.ref CL) (.ref CL) = some true
  xFG : PySem.W.exmOne K (.ref CF) (.ref CG) = some false
  xFD : PySem.W.exmOne K (.ref CF) (.ref CD) = some false
  xFL : PySem.W.exmOne K (.ref CF) (.ref CL) = some false
  xFF : PySem.W.exmOne K (.ref CF) (.ref CF) = some true
  ecG : ExcC K CG
  ecD : ExcC K CD
  ecL : ExcC K CL
  kG : PySem.W.kitOne K (.ref CG) (.ref CE) = some true
  kD : PySem.W.kitOne K (.ref CD) (.ref CE) = some true
  kL : PySem.W.kitOne K (.ref CL) (.ref CE) = some true
def RKindL : List Dt → Dt → Prop := fun ds d => ∃ t : Str, ds = [.str t] ∧ t.length ≤ 1000 ∧ d = .str (Pm.kindO t)
theorem scLKindL : FnScope ["text", "e"] ["text"] (defScope sLKindL) := ⟨rfl, rfl, rfl, by decide +kernel, rfl, by decide +kernel, by decide +kernel⟩
theorem ok_lkindl {f : Addr} {fd : FuncData} (F : Fun K "_law_kind" "_law_kind" sLKindL f fd) (T : TxtK2 K mg CF CD CL CG CE) (C_parse : Cal P w K mg base (L2.CX P w) 60 "parse" ["text"] (Pm.spParseX K CF CD CL CG)) : FnOk P w K mg base CX0 61 f fd ["text"] (spX K RKindL) := by
  have sc := scLKindL
  refine F.ok scLKindL (fun vs H Q E h => ?_) (fun cdv A outer s H vs Q E hr h => ?_)
  · obtain ⟨_, ds, d, _, l, ⟨_, rfl, _⟩, _⟩ := h
    exact l.len
  · obtain ⟨f1, d1, F1, g1, k1, b1⟩ := C_parse
    have hrc : Room 60 _ := hr.mono (by omega)
    refine ⟨_, (pss_cons (ps_try_mix (tb := fun W => tDrop (tCallS (Pm.spParseX K CF CD CL CG) (WE W) (tCons (tVar 0) tNil)))
        (l := [(.ref CG, some 1, fun a cls d => tRet (tOp (rIxL K) (tLst (tCons (tC (.str "other")) (tCons (tC (.str "long")) tNil))) (tCB (fun xs H Q => (∃ i, xs = [.int i] ∧ Q (.int i) H) ∨ ∃ k, xs = [.bl k] ∧ Q (.int (if k then 1 else 0)) H) (tCons (tCB (rIsG K a cls d) (tCons (tVar 1) (tCons (tC (.ref CE)) tNil))) tNil)))),
          (.ref CD, some 1, fun a cls d => tRet (tOp (rIxL K) (tLst (tCons (tC (.str "other")) (tCons (tC (.str "deep")) tNil))) (tCB (fun xs H Q => (∃ i, xs = [.int i] ∧ Q (.int i) H) ∨ ∃ k, xs = [.bl k] ∧ Q (.int (if k then 1 else 0)) H) (tCons (tCB (rIsG K a cls d) (tCons (tVar 1) (tCons (tC (.ref CE)) tNil))) tNil)))),
          (.ref CL, some 1, fun a cls d => tRet (tOp (rIxL K) (tLst (tCons (tC (.str "other")) (tCons (tC (.str "large")) tNil))) (tCB (fun xs H Q => (∃ i, xs = [.int i] ∧ Q (.int i) H) ∨ ∃ k, xs = [.bl k] ∧ Q (.int (if k then 1 else 0)) H) (tCons (tCB (rIsG K a cls d) (tCons (tVar 1) (tCons (tC (.ref CE)) tNil))) tNil)))),
          (.ref CF, some 1, fun _ _ _ => tRet (tC (.str "fault")))])
        (Wo := fun _ _ _ _ => False) rfl rfl sc.nd takes0
        (fun W pn xe tk _ => pss_one (ps_expr (pe_callS F1 hrc rfl g1 k1 b1 (fun σ => passAt tk σ) (pa_cons (pv 0) pa_nil))))
        (.named (i := 1) ⟨rfl, by decide, Or.inl T.g_TooLong⟩ rfl rfl (fun a oe cls d pn hz hf => pss_one (ps_ret (pe_ix ix_list (pe_lst (pa_cons pe_str (pa_cons pe_str pa_nil))) (pe_callTy call_int1 (by rfl) T.b_int (by decide +kernel) (pa_cons (pe_callB (call_isG hz hf) (by rfl) T.b_isinstance (by decide +kernel) (pa_cons (pv 1) (pa_cons (pe_gref rfl T.g_SetError) pa_nil))) pa_nil)) (fun _ _ => rfl))))
          (.named (i := 1) ⟨rfl, by decide, Or.inl T.g_TooDeep⟩ rfl rfl (fun a oe cls d pn hz hf => pss_one (ps_ret (pe_ix ix_list (pe_lst (pa_cons pe_str (pa_cons pe_str pa_nil))) (pe_callTy call_int1 (by rfl) T.b_int (by decide +kernel) (pa_cons (pe_callB (call_isG hz hf) (by rfl) T.b_isinstance (by decide +kernel) (pa_cons (pv 1) (pa_cons (pe_gref rfl T.g_SetError) pa_nil))) pa_nil)) (fun _ _ => rfl))))
            (.named (i := 1) ⟨rfl, by decide, Or.inl T.g_TooLarge⟩ rfl rfl (fun a oe cls d pn hz hf => pss_one (ps_ret (pe_ix ix_list (pe_lst (pa_cons pe_str (pa_cons pe_str pa_nil))) (pe_callTy call_int1 (by rfl) T.b_int (by decide +kernel) (pa_cons (pe_callB (call_isG hz hf) (by rfl) T.b_isinstance (by decide +kernel) (pa_cons (pv 1) (pa_cons (pe_gref rfl T.g_SetError) pa_nil))) pa_nil)) (fun _ _ => rfl))))
              (.named (i := 1) ⟨rfl, by decide, Or.inl T.g_SyntaxFault⟩ rfl rfl (fun a oe cls d pn hz hf => pss_one (ps_ret pe_str)) .nil)))))
      (pss_one (ps_ret pe_str))), ?_⟩
    obtain ⟨A0, ds, d, av, l, ⟨t, rfl, tl, rfl⟩, k⟩ := h
    cases l with
    | cons l0 l =>
    cases l
    cases isd_str l0
    refine ⟨_, rfl, t, rfl, tl, ?_⟩
    have fin : ∀ {x : Str} {H' : Hp}, Same H H' → Pm.kindO t = x → Q (.str x) H' := fun {x H'} sm e => k _ _ sm (fun a z => sm.free z) (by rw [e]; exact .str _)
    have ix : ∀ {C : Addr} {a b : Str} {n : Nat} {Γs : L2.St} {D : Addr} {H' : Hp}, ExcC K D → PySem.W.kitOne K (.ref D) (.ref CE) = some true → True := fun _ _ => trivial
    cases e : Pm.parseR t with
    | ok r => exact fun v H' sm tv => fin sm (by unfold Pm.kindO; rw [e]; rfl)
    | bad z =>
      refine fun a H' sm hz => ?_
      exact ⟨false, T.xFG, (fun z => Bool.noConfusion z), fun _ => ⟨false, T.xFD, (fun z => Bool.noConfusion z), fun _ => ⟨false, T.xFL, (fun z => Bool.noConfusion z), fun _ => ⟨true, T.xFF, fun _ a na => fin sm (by unfold Pm.kindO; rw [e]; rfl), fun z => Bool.noConfusion z⟩⟩⟩⟩
    | deep =>
      refine fun H' sm => ?_
      refine ⟨false, T.xDG, (fun z => Bool.noConfusion z), fun _ => ⟨true, T.xDD, fun _ a na => ?_, fun z => Bool.noConfusion z⟩⟩
      refine ⟨sz5 (Nat.le_of_ble_eq_true rfl), fun p hp => ?_⟩
      refine ⟨_, rfl, CD, rfl, rfl, T.ecD, _, .ref CE, true, rfl, fun _ r => r, T.kD, .inr ⟨true, rfl, ?_⟩⟩
      exact ⟨p, _, 1, _, rfl, rfl, SqL.of upd_same, rfl, fin (sm.trans (same_new hp)) (by unfold Pm.kindO; rw [e]; rfl)⟩
    | large =>
      refine fun H' sm => ?_
      refine ⟨false, T.xLG, (fun z => Bool.noConfusion z), fun _ => ⟨false, T.xLD, (fun z => Bool.noConfusion z), fun _ => ⟨true, T.xLL, fun _ a na => ?_, fun z => Bool.noConfusion z⟩⟩⟩
      refine ⟨sz5 (Nat.le_of_ble_eq_true rfl), fun p hp => ?_⟩
      refine ⟨_, rfl, CL, rfl, rfl, T.ecL, _, .ref CE, true, rfl, fun _ r => r, T.kL, .inr ⟨true, rfl, ?_⟩⟩
      exact ⟨p, _, 1, _, rfl, rfl, SqL.of upd_same, rfl, fin (sm.trans (same_new hp)) (by unfold Pm.kindO; rw [e]; rfl)⟩
    | long =>
      refine fun H' sm => ?_
      refine ⟨true, T.xGG, fun _ a na => ?_, fun z => Bool.noConfusion z⟩
      refine ⟨sz5 (Nat.le_of_ble_eq_true rfl), fun p hp => ?_⟩
      refine ⟨_, rfl, CG, rfl, rfl, T.ecG, _, .ref CE, true, rfl, fun _ r => r, T.kG, .inr ⟨true, rfl, ?_⟩⟩
      exact ⟨p, _, 1, _, rfl, rfl, SqL.of upd_same, rfl, fin (sm.trans (same_new hp)) (by unfold Pm.kindO; rw [e]; rfl)⟩
/-! _law_checked -/
def RChkL : List Dt → Dt → Prop := fun ds d => ∃ r : FRow, ds = [pd r.d] ∧ r.dep < 9 ∧ r.words.length ≤ 100000 ∧ Pm.wk9 r.words ∧ d = .str (Pm.chkO r)
theorem scLChecked : FnScope ["formula"] ["formula"] (defScope sLChecked) := ⟨rfl, rfl, rfl, by decide +kernel, rfl, by decide +kernel, by decide +kernel⟩
theorem ok_lchecked {f : Addr} {fd : FuncData} (F : Fun K "_law_checked" "_law_checked" sLChecked f fd) (T : TxtK2 K mg CF CD CL CG CE) (C_check_formula : Cal P w K mg base (L2.CX P w) 29 "check_formula" ["formula"] (spCheckFormula K 9 CD CL)) : FnOk P w K mg base CX0 30 f fd ["formula"] (spX K RChkL) := by
  have sc := scLChecked
  refine F.ok scLChecked (fun vs H Q E h => ?_) (fun cdv A outer s H vs Q E hr h => ?_)
  · obtain ⟨_, ds, d, _, l, ⟨_, rfl, _⟩, _⟩ := h
    exact l.len
  · obtain ⟨f1, d1, F1, g1, k1, b1⟩ := C_check_formula
    have hrc : Room 29 _ := hr.mono (by omega)
    refine ⟨_, (pss_cons (ps_try_mix (tb := fun W => tIfS (tTest (tOp (fun x y H Q => y = .non ∧ Q (.bl (!decide (x = .non))) H) (tCallS (spCheckFormula K 9 CD CL) (WE W) (tCons (tVar 0) tNil)) (tC .non))) (tRet (tC (.str "told"))) tNext)
        (l := [(.ref CD, none, fun _ _ _ => tRet (tC (.str "deep"))), (.ref CL, none, fun _ _ _ => tRet (tC (.str "large")))])
        (Wo := fun _ _ _ _ => False) rfl rfl sc.nd takes0
        (fun W pn xe tk _ => pss_one (ps_if (pt_cmpR op_notN (pe_callS F1 hrc rfl g1 k1 b1 (fun σ => passAt tk σ) (pa_cons (pv 0) pa_nil)) pe_non (nomark _)) (pss_one (ps_ret pe_str)) pss_nil))
        (.bare ⟨rfl, by decide, Or.inl T.g_TooDeep⟩ (fun a oe cls d pn hz hf => pss_one (ps_ret pe_str))
          (.bare ⟨rfl, by decide, Or.inl T.g_TooLarge⟩ (fun a oe cls d pn hz hf => pss_one (ps_ret pe_str)) .nil)))
      (pss_one (ps_ret pe_str))), ?_⟩
    obtain ⟨A0, ds, d, av, l, ⟨r, rfl, hd, hw, wk, rfl⟩, k⟩ := h
    cases l with
    | cons l0 l =>
    cases l
    have fin : ∀ {x : Str} {H' : Hp}, Same H H' → Pm.chkO r = x → Q (.str x) H' := fun {x H'} sm e => k _ _ sm (fun a z => sm.free z) (by rw [e]; exact .str _)
    have ct : ∀ {x : Str}, (if 7 < r.dep then ("deep" : Str) else if Pm.large r = true then ("large" : Str) else ("done" : Str)) = x → Pm.chkO r = x := fun e => e
    refine ⟨_, rfl, _, r, rfl, isd_tp r.d (tOnly_row r) l0, hd, hw, wk, fun d7 c8 g4 H' sm => ?_, fun d7 H' sm => ?_, fun d7 c8 H' sm => ?_⟩
    · refine ⟨rfl, false, rfl, iteF ?_⟩
      exact fin sm (ct (by
        have : Pm.large r = false := by
          unfold Pm.large
          rw [decide_eq_false (by omega), decide_eq_false (by omega)]
          rfl
        rw [if_neg (by omega), this]
        rfl))
    · exact ⟨true, T.xDD, fun _ a na => fin sm (ct (if_pos d7)), fun z => Bool.noConfusion z⟩
    · refine ⟨false, T.xLD, (fun z => Bool.noConfusion z), fun _ => ⟨true, T.xLL, fun _ a na => fin sm (ct ?_), fun z => Bool.noConfusion z⟩⟩
      have : Pm.large r = true := by
        unfold Pm.large
        rw [Bool.or_eq_true, decide_eq_true_iff, decide_eq_true_iff]
        exact c8
      rw [if_neg (by omega), this]
      rfl
/-! _law_one, _law_nested -/
theorem scLOneL : FnScope ["name"] ["name"] (defScope sLOneL) := ⟨rfl, rfl, rfl, by decide +kernel, rfl, by decide +kernel, by decide +kernel⟩
def ROneL : List Dt → Dt → Prop := fun ds d => ∃ x : Str, ds = [.str x] ∧ d = .tup [.tup [.tup [.str "symbol", .str x], .non, .non]]
theorem ok_lonel {f : Addr} {fd : FuncData} (F : Fun K "_law_one" "_law_one" sLOneL f fd) : FnOk P w K mg base CX0 1 f fd ["name"] (spX K ROneL) := by
  have sc := scLOneL
  refine F.ok scLOneL (fun vs H Q E h => ?_) (fun cdv A outer s H vs Q E hr h => ?_)
  · obtain ⟨_, ds, d, _, l, ⟨_, rfl, _⟩, _⟩ := h
    exact l.len
  · refine ⟨_, (pss_one (ps_ret (pe_tup (pa_cons (pe_tup (pa_cons (pe_tup (pa_cons pe_str (pa_cons (pv 0) pa_nil))) (pa_cons pe_non (pa_cons pe_non pa_nil)))) pa_nil)))), ?_⟩
    obtain ⟨A0, ds, d, av, l, ⟨x, rfl, rfl⟩, k⟩ := h
    refine body_ok av l k ?_
    walk_at "go"
    refine w_ret (d := .tup [.tup [.tup [.str "symbol", .str x], .non, .non]]) ?_ rfl
    walk_at "x"
theorem scLNested : FnScope ["kinds", "ahead", "behind", "formula", "kind", "begin", "end", "made"] ["kinds"] (defScope sLNested) := ⟨rfl, rfl, rfl, by decide +kernel, rfl, by decide +kernel, by decide +kernel⟩
def kindsT (cs : List Nat) : Dt := .lst (cs.map fun c : Nat => Dt.int (c : Int))
def RNestL : List Dt → Dt → Prop := fun ds d => ∃ cs : List Nat, ds = [kindsT cs] ∧ (∀ c ∈ cs, c < 6) ∧ cs.length ≤ 8 ∧ d = .tup [.str (Pm.aheadS cs), .str (Pm.behindS cs), pd (Pm.fmlM .nil cs).d]
structure TxtNe (mg : Str → Option Value) : Prop where
  b_reversed : mg "reversed" = none
  b_int : mg "int" = none
def neΓ (cs : List Nat) (i : Nat) : List Sl := [.f (kindsT cs), .f (.str (Pm.aheadS (cs.drop (cs.length - i)))), .f (.str (Pm.behindS (cs.drop (cs.length - i)))), .f (pd (Pm.fmlM .nil (cs.drop (cs.length - i))).d), .any, .any, .any, .any]
theorem ok_lnested {f : Addr} {fd : FuncData} (F : Fun K "_law_nested" "_law_nested" sLNested f fd) (T : TxtNe mg) : FnOk P w K mg base CX0 1 f fd ["kinds"] (spX K RNestL) := by
  have sc := scLNested
  refine F.ok scLNested (fun vs H Q E h => ?_) (fun cdv A outer s H vs Q E hr h => ?_)
  · obtain ⟨_, ds, d, _, l, ⟨_, rfl, _⟩, _⟩ := h
    exact l.len
  · refine ⟨_, (pss_cons (ps_set (i := 1) sc.nd rfl (Or.inl rfl) pe_str)
  (pss_cons (ps_set (i := 2) sc.nd rfl (Or.inl rfl) pe_str)
  (pss_cons (ps_set (i := 3) sc.nd rfl (Or.inl rfl) (pe_tup pa_nil))
  (pss_cons (ps_for PassesOwn.never rfl (RT.pi_revA (by rfl) T.b_reversed (pv 0)) (pg_name (i := 4) sc.nd rfl (Or.inl rfl))
  (pss_cons (ps_set (i := 5) sc.nd rfl (Or.inl rfl) (pe_ix ix_list (pe_lst (pa_cons pe_str (pa_cons pe_str (pa_cons pe_str (pa_cons pe_str (pa_cons pe_str (pa_cons pe_str pa_nil))))))) (pv 4) (fun _ _ => rfl)))
  (pss_cons (ps_set (i := 6) sc.nd rfl (Or.inl rfl) (pe_ix ix_list (pe_lst (pa_cons pe_str (pa_cons pe_str (pa_cons pe_str (pa_cons pe_str (pa_cons pe_str (pa_cons pe_str pa_nil))))))) (pv 4) (fun _ _ => rfl)))
  (pss_cons (ps_set (i := 1) sc.nd rfl (Or.inl rfl) (pe_op op_add_str (pv 5) (pv 1)))
  (pss_cons (ps_set (i := 2) sc.nd rfl (Or.inl rfl) (pe_op op_add_str (pv 2) (pv 6)))
  (pss_cons (ps_set (i := 7) sc.nd rfl (Or.inl rfl) (pe_ix ix_list (pe_lst (pa_cons (pe_tup (pa_cons pe_str (pa_cons (pv 3) pa_nil))) (pa_cons (pe_tup (pa_cons pe_str (pa_cons (pv 3) pa_nil))) (pa_cons (pe_tup (pa_cons pe_str (pa_cons pe_non (pa_cons pe_non (pa_cons (pv 3) pa_nil))))) (pa_cons (pe_tup (pa_cons pe_str (pa_cons pe_str pa_nil))) (pa_cons (pe_tup (pa_cons pe_str (pa_cons (pe_tup (pa_cons (pe_tup (pa_cons (pv 3) pa_nil)) pa_nil)) pa_nil))) (pa_cons (pe_tup (pa_cons pe_str (pa_cons (pe_tup pa_nil) (pa_cons (pv 3) pa_nil)))) pa_nil))))))) (pv 4) (fun _ _ => rfl)))
  (pss_one (ps_set (i := 3) sc.nd rfl (Or.inl rfl) (pe_tup (pa_cons (pe_tup (pa_cons (pv 7) (pa_cons pe_non (pa_cons (pe_ix ix_list (pe_lst (pa_cons pe_non (pa_cons (pv 3) pa_nil))) (pe_callTy call_int1 (by rfl) T.b_int (by decide +kernel) (pa_cons (pe_cmpR op_eq (pv 4) pe_int (nomark _)) pa_nil)) (fun _ _ => rfl)) pa_nil)))) pa_nil))))))))))
  (pss_one (ps_ret (pe_tup (pa_cons (pv 1) (pa_cons (pv 2) (pa_cons (pv 3) pa_nil)))))))))), ?_⟩
    obtain ⟨A0, ds, d, av, l, ⟨cs, rfl, hc, hl, rfl⟩, k⟩ := h
    refine body_ok av l k ?_
    walk_at "go"
    refine w_set (d := .str "") x_str ?_
    walk_at "d"
    refine w_set (d := .str "") x_str ?_
    walk_at "d"
    refine w_set (d := .tup []) (x_tup xa_nil (Nat.zero_le _)) ?_
    walk_at "d"
    refine w_for (it_rev (x_var rfl)) (neΓ cs) ?_ (fun i d hi => ?_) ?_
    · unfold neΓ
      rw [Nat.sub_zero, List.drop_length]
      walk_at "s"
    · obtain ⟨ii, ei⟩ := List.getElem?_eq_some_iff.mp hi
      rw [List.length_reverse, List.length_map] at ii
      have hj : cs.length - (i + 1) < cs.length := by omega
      have ed : d = .int ((cs[cs.length - (i + 1)] : Nat) : Int) := by
        rw [← ei, List.getElem_reverse, List.getElem_map]
        congr 3
        rw [List.length_map]
        omega
      have edrop : cs.drop (cs.length - (i + 1)) = cs[cs.length - (i + 1)] :: cs.drop (cs.length - i) := by
        rw [List.drop_eq_getElem_cons hj]
        congr 2
        omega
      have c6 := hc _ (List.getElem_mem hj)
      generalize cs[cs.length - (i + 1)] = c at ed edrop c6
      subst ed
      have e2 : neΓ cs (i + 1) = [.f (kindsT cs), .f (.str (Pm.begS c ++ Pm.aheadS (cs.drop (cs.length - i)))), .f (.str (Pm.behindS (cs.drop (cs.length - i)) ++ Pm.endS c)), .f (pd (Pm.fmlM .nil (c :: cs.drop (cs.length - i))).d), .any, .any, .any, .any] := by
        unfold neΓ
        rw [edrop]
        rfl
      rw [e2]
      have hs1 := Pm.aheadS_len (cs.drop (cs.length - i))
      have hs2 := Pm.behindS_len (cs.drop (cs.length - i))
      have hs3 := Pm.begS_len c
      have hs4 := Pm.endS_len c
      rw [List.length_drop] at hs1 hs2
      unfold neΓ
      generalize cs.drop (cs.length - i) = rs at hs1 hs2
      obtain ⟨fr, hfr⟩ : ∃ fr, fr = Pm.fmlM .nil rs := ⟨_, rfl⟩
      have e3 : pd (Pm.fmlM .nil (c :: rs)).d = .tup [pd (Pm.itK c fr).d] := by rw [hfr]; rfl
      rw [e3, ← hfr]
      refine ⟨_, _, gt_name, ?_⟩
      walk_at "d"
      have pf : pd fr.d = .tup (pdL fr.ds) := rfl
      match c, c6 with
      | 0, _ =>
        refine w_set (d := .str "{") (x_ixL (el_r (xl_lst (xa_cons x_str (xa_cons x_str (xa_cons x_str (xa_cons x_str (xa_cons x_str (xa_cons x_str xa_nil)))))) (Nat.le_of_ble_eq_true rfl))) (x_var rfl) rfl) ?_
        walk_at "d"
        refine w_set (d := .str "}") (x_ixL (el_r (xl_lst (xa_cons x_str (xa_cons x_str (xa_cons x_str (xa_cons x_str (xa_cons x_str (xa_cons x_str xa_nil)))))) (Nat.le_of_ble_eq_true rfl))) (x_var rfl) rfl) ?_
        walk_at "d"
        refine w_set (x_op (x_var rfl) (x_var rfl) (o_catS (by have : ("{" : Str).length ≤ 8 := by decide +kernel
                                                               omega))) ?_
        walk_at "d"
        refine w_set (x_op (x_var rfl) (x_var rfl) (o_catS (by have : ("}" : Str).length ≤ 8 := by decide +kernel
                                                               omega))) ?_
        walk_at "d"
        refine w_set (d := pd (FNuc.group fr).d) (x_ixL (el_r (xl_lst (xa_cons (x_tup (xa_cons x_str (xa_cons (x_var rfl) xa_nil)) (Nat.le_of_ble_eq_true rfl)) (xa_cons (x_tup (xa_cons x_str (xa_cons (x_var rfl) xa_nil)) (Nat.le_of_ble_eq_true rfl)) (xa_cons (x_tup (xa_cons x_str (xa_cons x_non (xa_cons x_non (xa_cons (x_var rfl) xa_nil)))) (Nat.le_of_ble_eq_true rfl)) (xa_cons (x_tup (xa_cons x_str (xa_cons x_str xa_nil)) (Nat.le_of_ble_eq_true rfl)) (xa_cons (x_tup (xa_cons x_str (xa_cons (x_tup (xa_cons (x_tup (xa_cons (x_var rfl) xa_nil) (Nat.le_of_ble_eq_true rfl)) xa_nil) (Nat.le_of_ble_eq_true rfl)) xa_nil)) (Nat.le_of_ble_eq_true rfl)) (xa_cons (x_tup (xa_cons x_str (xa_cons (x_tup xa_nil (Nat.zero_le _)) (xa_cons (x_var rfl) xa_nil))) (Nat.le_of_ble_eq_true rfl)) xa_nil)))))) (Nat.le_of_ble_eq_true rfl))) (x_var rfl) rfl) ?_
        walk_at "d"
        refine s_set (d := .tup [.tup [pd (FNuc.group fr).d, .non, .non]]) ?_ ?_
        · refine x_tup (xa_cons (x_tup (xa_cons (x_var rfl) (xa_cons x_non (xa_cons (x_ixL (el_r (xl_lst (xa_cons x_non (xa_cons (x_var rfl) xa_nil)) (Nat.le_of_ble_eq_true rfl))) (x_intB (x_op (x_var rfl) x_int o_eqI)) rfl) xa_nil))) (Nat.le_of_ble_eq_true rfl)) xa_nil) (Nat.le_of_ble_eq_true rfl)
        walk_at "s"
      | 1, _ =>
        refine w_set (d := .str "@root{") (x_ixL (el_r (xl_lst (xa_cons x_str (xa_cons x_str (xa_cons x_str (xa_cons x_str (xa_cons x_str (xa_cons x_str xa_nil)))))) (Nat.le_of_ble_eq_true rfl))) (x_var rfl) rfl) ?_
        walk_at "d"
        refine w_set (d := .str "}") (x_ixL (el_r (xl_lst (xa_cons x_str (xa_cons x_str (xa_cons x_str (xa_cons x_str (xa_cons x_str (xa_cons x_str xa_nil)))))) (Nat.le_of_ble_eq_true rfl))) (x_var rfl) rfl) ?_
        walk_at "d"
        refine w_set (x_op (x_var rfl) (x_var rfl) (o_catS (by have : ("@root{" : Str).length ≤ 8 := by decide +kernel
                                                               omega))) ?_
        walk_at "d"
        refine w_set (x_op (x_var rfl) (x_var rfl) (o_catS (by have : ("}" : Str).length ≤ 8 := by decide +kernel
                                                               omega))) ?_
        walk_at "d"
        refine w_set (d := pd (FNuc.root fr).d) (x_ixL (el_r (xl_lst (xa_cons (x_tup (xa_cons x_str (xa_cons (x_var rfl) xa_nil)) (Nat.le_of_ble_eq_true rfl)) (xa_cons (x_tup (xa_cons x_str (xa_cons (x_var rfl) xa_nil)) (Nat.le_of_ble_eq_true rfl)) (xa_cons (x_tup (xa_cons x_str (xa_cons x_non (xa_cons x_non (xa_cons (x_var rfl) xa_nil)))) (Nat.le_of_ble_eq_true rfl)) (xa_cons (x_tup (xa_cons x_str (xa_cons x_str xa_nil)) (Nat.le_of_ble_eq_true rfl)) (xa_cons (x_tup (xa_cons x_str (xa_cons (x_tup (xa_cons (x_tup (xa_cons (x_var rfl) xa_nil) (Nat.le_of_ble_eq_true rfl)) xa_nil) (Nat.le_of_ble_eq_true rfl)) xa_nil)) (Nat.le_of_ble_eq_true rfl)) (xa_cons (x_tup (xa_cons x_str (xa_cons (x_tup xa_nil (Nat.zero_le _)) (xa_cons (x_var rfl) xa_nil))) (Nat.le_of_ble_eq_true rfl)) xa_nil)))))) (Nat.le_of_ble_eq_true rfl))) (x_var rfl) rfl) ?_
        walk_at "d"
        refine s_set (d := .tup [.tup [pd (FNuc.root fr).d, .non, .non]]) ?_ ?_
        · refine x_tup (xa_cons (x_tup (xa_cons (x_var rfl) (xa_cons x_non (xa_cons (x_ixL (el_r (xl_lst (xa_cons x_non (xa_cons (x_var rfl) xa_nil)) (Nat.le_of_ble_eq_true rfl))) (x_intB (x_op (x_var rfl) x_int o_eqI)) rfl) xa_nil))) (Nat.le_of_ble_eq_true rfl)) xa_nil) (Nat.le_of_ble_eq_true rfl)
        walk_at "s"
      | 2, _ =>
        refine w_set (d := .str "@left.") (x_ixL (el_r (xl_lst (xa_cons x_str (xa_cons x_str (xa_cons x_str (xa_cons x_str (xa_cons x_str (xa_cons x_str xa_nil)))))) (Nat.le_of_ble_eq_true rfl))) (x_var rfl) rfl) ?_
        walk_at "d"
        refine w_set (d := .str "@right.") (x_ixL (el_r (xl_lst (xa_cons x_str (xa_cons x_str (xa_cons x_str (xa_cons x_str (xa_cons x_str (xa_cons x_str xa_nil)))))) (Nat.le_of_ble_eq_true rfl))) (x_var rfl) rfl) ?_
        walk_at "d"
        refine w_set (x_op (x_var rfl) (x_var rfl) (o_catS (by have : ("@left." : Str).length ≤ 8 := by decide +kernel
                                                               omega))) ?_
        walk_at "d"
        refine w_set (x_op (x_var rfl) (x_var rfl) (o_catS (by have : ("@right." : Str).length ≤ 8 := by decide +kernel
                                                               omega))) ?_
        walk_at "d"
        refine w_set (d := pd (FNuc.fence none none fr).d) (x_ixL (el_r (xl_lst (xa_cons (x_tup (xa_cons x_str (xa_cons (x_var rfl) xa_nil)) (Nat.le_of_ble_eq_true rfl)) (xa_cons (x_tup (xa_cons x_str (xa_cons (x_var rfl) xa_nil)) (Nat.le_of_ble_eq_true rfl)) (xa_cons (x_tup (xa_cons x_str (xa_cons x_non (xa_cons x_non (xa_cons (x_var rfl) xa_nil)))) (Nat.le_of_ble_eq_true rfl)) (xa_cons (x_tup (xa_cons x_str (xa_cons x_str xa_nil)) (Nat.le_of_ble_eq_true rfl)) (xa_cons (x_tup (xa_cons x_str (xa_cons (x_tup (xa_cons (x_tup (xa_cons (x_var rfl) xa_nil) (Nat.le_of_ble_eq_true rfl)) xa_nil) (Nat.le_of_ble_eq_true rfl)) xa_nil)) (Nat.le_of_ble_eq_true rfl)) (xa_cons (x_tup (xa_cons x_str (xa_cons (x_tup xa_nil (Nat.zero_le _)) (xa_cons (x_var rfl) xa_nil))) (Nat.le_of_ble_eq_true rfl)) xa_nil)))))) (Nat.le_of_ble_eq_true rfl))) (x_var rfl) rfl) ?_
        walk_at "d"
        refine s_set (d := .tup [.tup [pd (FNuc.fence none none fr).d, .non, .non]]) ?_ ?_
        · refine x_tup (xa_cons (x_tup (xa_cons (x_var rfl) (xa_cons x_non (xa_cons (x_ixL (el_r (xl_lst (xa_cons x_non (xa_cons (x_var rfl) xa_nil)) (Nat.le_of_ble_eq_true rfl))) (x_intB (x_op (x_var rfl) x_int o_eqI)) rfl) xa_nil))) (Nat.le_of_ble_eq_true rfl)) xa_nil) (Nat.le_of_ble_eq_true rfl)
        walk_at "s"
      | 3, _ =>
        refine w_set (d := .str "x^{") (x_ixL (el_r (xl_lst (xa_cons x_str (xa_cons x_str (xa_cons x_str (xa_cons x_str (xa_cons x_str (xa_cons x_str xa_nil)))))) (Nat.le_of_ble_eq_true rfl))) (x_var rfl) rfl) ?_
        walk_at "d"
        refine w_set (d := .str "}") (x_ixL (el_r (xl_lst (xa_cons x_str (xa_cons x_str (xa_cons x_str (xa_cons x_str (xa_cons x_str (xa_cons x_str xa_nil)))))) (Nat.le_of_ble_eq_true rfl))) (x_var rfl) rfl) ?_
        walk_at "d"
        refine w_set (x_op (x_var rfl) (x_var rfl) (o_catS (by have : ("x^{" : Str).length ≤ 8 := by decide +kernel
                                                               omega))) ?_
        walk_at "d"
        refine w_set (x_op (x_var rfl) (x_var rfl) (o_catS (by have : ("}" : Str).length ≤ 8 := by decide +kernel
                                                               omega))) ?_
        walk_at "d"
        refine w_set (d := pd (FNuc.sym "x").d) (x_ixL (el_r (xl_lst (xa_cons (x_tup (xa_cons x_str (xa_cons (x_var rfl) xa_nil)) (Nat.le_of_ble_eq_true rfl)) (xa_cons (x_tup (xa_cons x_str (xa_cons (x_var rfl) xa_nil)) (Nat.le_of_ble_eq_true rfl)) (xa_cons (x_tup (xa_cons x_str (xa_cons x_non (xa_cons x_non (xa_cons (x_var rfl) xa_nil)))) (Nat.le_of_ble_eq_true rfl)) (xa_cons (x_tup (xa_cons x_str (xa_cons x_str xa_nil)) (Nat.le_of_ble_eq_true rfl)) (xa_cons (x_tup (xa_cons x_str (xa_cons (x_tup (xa_cons (x_tup (xa_cons (x_var rfl) xa_nil) (Nat.le_of_ble_eq_true rfl)) xa_nil) (Nat.le_of_ble_eq_true rfl)) xa_nil)) (Nat.le_of_ble_eq_true rfl)) (xa_cons (x_tup (xa_cons x_str (xa_cons (x_tup xa_nil (Nat.zero_le _)) (xa_cons (x_var rfl) xa_nil))) (Nat.le_of_ble_eq_true rfl)) xa_nil)))))) (Nat.le_of_ble_eq_true rfl))) (x_var rfl) rfl) ?_
        walk_at "d"
        refine s_set (d := .tup [.tup [pd (FNuc.sym "x").d, .non, pd fr.d]]) ?_ ?_
        · refine x_tup (xa_cons (x_tup (xa_cons (x_var rfl) (xa_cons x_non (xa_cons (x_ixL (el_r (xl_lst (xa_cons x_non (xa_cons (x_var rfl) xa_nil)) (Nat.le_of_ble_eq_true rfl))) (x_intB (x_op (x_var rfl) x_int o_eqI)) rfl) xa_nil))) (Nat.le_of_ble_eq_true rfl)) xa_nil) (Nat.le_of_ble_eq_true rfl)
        walk_at "s"
      | 4, _ =>
        refine w_set (d := .str "@grid{") (x_ixL (el_r (xl_lst (xa_cons x_str (xa_cons x_str (xa_cons x_str (xa_cons x_str (xa_cons x_str (xa_cons x_str xa_nil)))))) (Nat.le_of_ble_eq_true rfl))) (x_var rfl) rfl) ?_
        walk_at "d"
        refine w_set (d := .str "}") (x_ixL (el_r (xl_lst (xa_cons x_str (xa_cons x_str (xa_cons x_str (xa_cons x_str (xa_cons x_str (xa_cons x_str xa_nil)))))) (Nat.le_of_ble_eq_true rfl))) (x_var rfl) rfl) ?_
        walk_at "d"
        refine w_set (x_op (x_var rfl) (x_var rfl) (o_catS (by have : ("@grid{" : Str).length ≤ 8 := by decide +kernel
                                                               omega))) ?_
        walk_at "d"
        refine w_set (x_op (x_var rfl) (x_var rfl) (o_catS (by have : ("}" : Str).length ≤ 8 := by decide +kernel
                                                               omega))) ?_
        walk_at "d"
        refine w_set (d := pd (FNuc.grid (.cons (.cons fr .nil) .nil)).d) (x_ixL (el_r (xl_lst (xa_cons (x_tup (xa_cons x_str (xa_cons (x_var rfl) xa_nil)) (Nat.le_of_ble_eq_true rfl)) (xa_cons (x_tup (xa_cons x_str (xa_cons (x_var rfl) xa_nil)) (Nat.le_of_ble_eq_true rfl)) (xa_cons (x_tup (xa_cons x_str (xa_cons x_non (xa_cons x_non (xa_cons (x_var rfl) xa_nil)))) (Nat.le_of_ble_eq_true rfl)) (xa_cons (x_tup (xa_cons x_str (xa_cons x_str xa_nil)) (Nat.le_of_ble_eq_true rfl)) (xa_cons (x_tup (xa_cons x_str (xa_cons (x_tup (xa_cons (x_tup (xa_cons (x_var rfl) xa_nil) (Nat.le_of_ble_eq_true rfl)) xa_nil) (Nat.le_of_ble_eq_true rfl)) xa_nil)) (Nat.le_of_ble_eq_true rfl)) (xa_cons (x_tup (xa_cons x_str (xa_cons (x_tup xa_nil (Nat.zero_le _)) (xa_cons (x_var rfl) xa_nil))) (Nat.le_of_ble_eq_true rfl)) xa_nil)))))) (Nat.le_of_ble_eq_true rfl))) (x_var rfl) rfl) ?_
        walk_at "d"
        refine s_set (d := .tup [.tup [pd (FNuc.grid (.cons (.cons fr .nil) .nil)).d, .non, .non]]) ?_ ?_
        · refine x_tup (xa_cons (x_tup (xa_cons (x_var rfl) (xa_cons x_non (xa_cons (x_ixL (el_r (xl_lst (xa_cons x_non (xa_cons (x_var rfl) xa_nil)) (Nat.le_of_ble_eq_true rfl))) (x_intB (x_op (x_var rfl) x_int o_eqI)) rfl) xa_nil))) (Nat.le_of_ble_eq_true rfl)) xa_nil) (Nat.le_of_ble_eq_true rfl)
        walk_at "s"
      | 5, _ =>
        refine w_set (d := .str "@frac{}{") (x_ixL (el_r (xl_lst (xa_cons x_str (xa_cons x_str (xa_cons x_str (xa_cons x_str (xa_cons x_str (xa_cons x_str xa_nil)))))) (Nat.le_of_ble_eq_true rfl))) (x_var rfl) rfl) ?_
        walk_at "d"
        refine w_set (d := .str "}") (x_ixL (el_r (xl_lst (xa_cons x_str (xa_cons x_str (xa_cons x_str (xa_cons x_str (xa_cons x_str (xa_cons x_str xa_nil)))))) (Nat.le_of_ble_eq_true rfl))) (x_var rfl) rfl) ?_
        walk_at "d"
        refine w_set (x_op (x_var rfl) (x_var rfl) (o_catS (by have : ("@frac{}{" : Str).length ≤ 8 := by decide +kernel
                                                               omega))) ?_
        walk_at "d"
        refine w_set (x_op (x_var rfl) (x_var rfl) (o_catS (by have : ("}" : Str).length ≤ 8 := by decide +kernel
                                                               omega))) ?_
        walk_at "d"
        refine w_set (d := pd (FNuc.frac .nil fr).d) (x_ixL (el_r (xl_lst (xa_cons (x_tup (xa_cons x_str (xa_cons (x_var rfl) xa_nil)) (Nat.le_of_ble_eq_true rfl)) (xa_cons (x_tup (xa_cons x_str (xa_cons (x_var rfl) xa_nil)) (Nat.le_of_ble_eq_true rfl)) (xa_cons (x_tup (xa_cons x_str (xa_cons x_non (xa_cons x_non (xa_cons (x_var rfl) xa_nil)))) (Nat.le_of_ble_eq_true rfl)) (xa_cons (x_tup (xa_cons x_str (xa_cons x_str xa_nil)) (Nat.le_of_ble_eq_true rfl)) (xa_cons (x_tup (xa_cons x_str (xa_cons (x_tup (xa_cons (x_tup (xa_cons (x_var rfl) xa_nil) (Nat.le_of_ble_eq_true rfl)) xa_nil) (Nat.le_of_ble_eq_true rfl)) xa_nil)) (Nat.le_of_ble_eq_true rfl)) (xa_cons (x_tup (xa_cons x_str (xa_cons (x_tup xa_nil (Nat.zero_le _)) (xa_cons (x_var rfl) xa_nil))) (Nat.le_of_ble_eq_true rfl)) xa_nil)))))) (Nat.le_of_ble_eq_true rfl))) (x_var rfl) rfl) ?_
        walk_at "d"
        refine s_set (d := .tup [.tup [pd (FNuc.frac .nil fr).d, .non, .non]]) ?_ ?_
        · refine x_tup (xa_cons (x_tup (xa_cons (x_var rfl) (xa_cons x_non (xa_cons (x_ixL (el_r (xl_lst (xa_cons x_non (xa_cons (x_var rfl) xa_nil)) (Nat.le_of_ble_eq_true rfl))) (x_intB (x_op (x_var rfl) x_int o_eqI)) rfl) xa_nil))) (Nat.le_of_ble_eq_true rfl)) xa_nil) (Nat.le_of_ble_eq_true rfl)
        walk_at "s"
      | n + 6, h => omega
    · have e : neΓ cs (List.length (List.reverse (List.map (fun c : Nat => Dt.int (c : Int)) cs))) = [.f (kindsT cs), .f (.str (Pm.aheadS cs)), .f (.str (Pm.behindS cs)), .f (pd (Pm.fmlM .nil cs).d), .any, .any, .any, .any] := by
        rw [List.length_reverse, List.length_map]
        unfold neΓ
        rw [Nat.sub_self]
        rfl
      show W _ _ (neΓ cs (List.length (List.reverse (List.map (fun c : Nat => Dt.int (c : Int)) cs)))) _
      rw [e]
      refine w_ret (d := .tup [.str (Pm.aheadS cs), .str (Pm.behindS cs), pd (Pm.fmlM .nil cs).d]) ?_ rfl
      walk_at "x"
end
end
section
set_option Elab.async false
set_option linter.all false
set_option maxRecDepth 100000
set_option maxHeartbeats 1000000
open PySem PySem.Spec PyProof.Rows L2 StX Mg.Tz

section
variable {K : PySem.W.Frag} {M : Md} {Γ : List Sl} {ta tb : TE} {X : XK}
theorem en_cmod {m : Nat} (hm : 0 < m) (h : EN M ta Γ (fun d => ∃ n : Int, d = .int n)) : EN M (tOp (rI (fun _ j => 0 < j) fun i j => .int (i % j)) ta (tC (.int (m : Int)))) Γ (fun d => ∃ k : Nat, k < m ∧ d = .int (k : Int)) := en_op h (en_of x_int) fun d1 d2 ⟨n, e1⟩ e2 => by
  subst e1 e2
  have h1 := Int.emod_nonneg n (show (m : Int) ≠ 0 by omega)
  have h2 := Int.emod_lt_of_pos n (show (0 : Int) < (m : Int) by omega)
  exact ⟨.int (n % (m : Int)), o_Ii (by show (0 : Int) < (m : Int); omega), (n % (m : Int)).toNat, by omega, by congr 1; omega⟩
theorem en_cadd {a m : Nat} (h : EN M tb Γ (fun d => ∃ k : Nat, k < m ∧ d = .int (k : Int))) : EN M (tOp (rI0 fun i j => .int (i + j)) (tC (.int (a : Int))) tb) Γ (fun d => ∃ k : Nat, a ≤ k ∧ k < a + m ∧ d = .int (k : Int)) := en_op (en_of x_int) h fun d1 d2 e1 ⟨n, hn, e2⟩ => by
  subst e1 e2
  exact ⟨_, o_I0i, a + n, by omega, by omega, by show Dt.int ((a : Int) + (n : Int)) = _; congr 1⟩
theorem ne_f {a b : Str} (h1 : Nw.E M ta Γ (.str a)) (h2 : Nw.E M tb Γ (.str b)) (e : a = b) : ET M (tTest (tOp rNe ta tb)) Γ false := (xt_test (x_op h1 h2 o_neS)).is (by rw [decide_eq_true e]; rfl)
theorem or_f {t u : TT} (h1 : ET M t Γ false) (h2 : ET M u Γ false) : ET M (tOr t u) Γ false := xt_or (b := false) (c := false) h1 fun _ => h2
theorem ix2 {a b : Str} {c : Bool} (h : Nw.E M ta Γ (.bl c)) : Nw.E M (tOp (rIxL M.K) (tLst (tCons (tC (.str a)) (tCons (tC (.str b)) tNil))) (tCB (fun xs H Q => (∃ i, xs = [.int i] ∧ Q (.int i) H) ∨ ∃ k, xs = [.bl k] ∧ Q (.int (if k then 1 else 0)) H) (tCons ta tNil))) Γ (.str (if c = true then b else a)) := by
  cases c with
  | true => exact x_ixL (el_r (xl_lst (xa_cons x_str (xa_one x_str)) (Nat.le_of_ble_eq_true rfl))) (x_intB h) rfl
  | false => exact x_ixL (el_r (xl_lst (xa_cons x_str (xa_one x_str)) (Nat.le_of_ble_eq_true rfl))) (x_intB h) rfl
theorem kd {t : Str} (h : Nw.E (pure0 K) ta Γ (.str t)) (tl : t.length ≤ 1000) : Nw.E (pure0 K) (tCall (spX K RKindL) [] X (tCons ta tNil)) Γ (.str (Pm.kindO t)) := x_call (M := pure0 K) (xa_one h) ⟨t, rfl, tl, rfl⟩
theorem ck {r : FRow} (h : Nw.E (pure0 K) ta Γ (pd r.d)) (hd : r.dep < 9) (hw : r.words.length ≤ 100000) (wk : Pm.wk9 r.words) : Nw.E (pure0 K) (tCall (spX K RChkL) [] X (tCons ta tNil)) Γ (.str (Pm.chkO r)) := x_call (M := pure0 K) (xa_one h) ⟨r, rfl, hd, hw, wk, rfl⟩
theorem pd_rep {it : FItem} : ∀ n, pd (Pm.repR it n).d = .tup (List.replicate n [pd it.d]).flatten
  | 0 => rfl
  | n + 1 => by
    have ih := pd_rep (it := it) n
    have e : ∀ r : FRow, pd (FRow.cons it r).d = .tup (pd it.d :: pdL r.ds) := fun r => rfl
    show pd (FRow.cons it (Pm.repR it n)).d = _
    rw [e, List.replicate_succ, List.flatten_cons]
    have ih : Dt.tup (pdL (Pm.repR it n).ds) = .tup (List.replicate n [pd it.d]).flatten := ih
    injection ih with ih
    rw [ih]
    rfl
theorem one_rep {x : Str} {it : FItem} {n : Nat} (e : pd it.d = .tup [.tup [.str "symbol", .str x], .non, .non]) (ha : Nw.E (pure0 K) ta Γ (.str x)) (hb : Nw.E (pure0 K) tb Γ (.int (n : Int))) (h1 : 1 ≤ n) (h2 : n ≤ 1000) : Nw.E (pure0 K) (tOp (rRepTA K) (tCall (spX K ROneL) [] X (tCons ta tNil)) tb) Γ (pd (Pm.repR it n).d) := by
  rw [pd_rep, e]
  exact x_repA (M := pure0 K) (x_call (M := pure0 K) (xa_one ha) ⟨x, rfl, rfl⟩) hb (by simp) h1 h2 (Nat.le_of_ble_eq_true rfl)
end
theorem w_asgN {R : Dt → Prop} {g : TG} {te : TE} {tz : TS} {M : Md} {Γ : List Sl} {P : Po} (h : EN M te Γ R) (k : ∀ d, R d → ∃ Γ' js, GT M.K g Γ d Γ' js ∧ W M tz Γ' P) : W M (tSeq (tAsg te g) tz) Γ P := w_seq fun A H0 D σ H e kn kb kc kr => h A H0 σ H e _ fun v d H1 r n1 tv => by
  obtain ⟨Γ', js, hg, k⟩ := k d r
  exact hg M A H0 σ H1 v rfl (e.nx n1) tv _ fun σ' e' t => kn _ _ _ k e' (n1.go.trans (e.nx n1) t.go)
theorem al2_ints {α : Type} {L : List α} {m : Nat} : ∀ {L : List Dt} {ds : List Dt}, Al2 (fun _ d => ∃ k : Nat, k < m ∧ d = .int (k : Int)) L ds → ∃ cs : List Nat, (∀ c ∈ cs, c < m) ∧ cs.length = L.length ∧ ds = cs.map fun c : Nat => Dt.int (c : Int)
  | _, _, .nil => ⟨[], (fun _ h => nomatch h), rfl, rfl⟩
  | _, _, .cons ⟨k, hk, e⟩ l => by
    obtain ⟨cs, h1, h2, h3⟩ := al2_ints (L := L) l
    refine ⟨k :: cs, fun c hc => ?_, by rw [List.length_cons, List.length_cons, h2], by rw [List.map_cons, e, h3]⟩
    rcases List.mem_cons.mp hc with rfl | hc
    · exact hk
    · exact h1 c hc
theorem rep_wk {it : FItem} (h : Pm.wk9 it.words) : ∀ n, Pm.wk9 (Pm.repR it n).words
  | 0 => Pm.wk_nil
  | n + 1 => Pm.wk_app h (rep_wk h n)
theorem rep_wl {it : FItem} {m : Nat} (h : it.words.length = m) (n : Nat) : (Pm.repR it n).words.length = n * m := by
  rw [Pm.rep_words, Pm.rep_len, h]
theorem due_int (n : Nat) : (if decide ((n : Int) > 7) = true then ("deep" : Str) else ("done" : Str)) = Pm.dueS n := by
  unfold Pm.dueS
  by_cases c : 7 < n
  · rw [if_pos c, decide_eq_true (by omega), if_pos rfl]
  · rw [if_neg c, decide_eq_false (by omega), if_neg (by decide)]
theorem lrg_int {i : Int} {p : Bool} (e : decide (i > 80) = p) : (if decide (i > 80) = true then ("large" : Str) else ("done" : Str)) = Pm.lrg p := by rw [e]; rfl
theorem len_wsum : ∀ L : List Str, L.length ≤ Pm.wsum L
  | [] => Nat.zero_le _
  | w :: L => by
    have := len_wsum L
    rw [Pm.wsum_cons, List.length_cons]
    omega
theorem itK_wk {f : FRow} (h : Pm.wk9 f.words) : ∀ c : Nat, Pm.wk9 (Pm.itK c f).words := fun c => by
  have b1 : 1 ≤ ("{" : Str).length ∧ ("{" : Str).length ≤ 9 := by decide +kernel
  have b2 : 1 ≤ ("}" : Str).length ∧ ("}" : Str).length ≤ 9 := by decide +kernel
  have e2 : Pm.wk9 (f.words ++ [("}" : Str)]) := Pm.wk_app h (Pm.wk_cons b2 Pm.wk_nil)
  have n2 : Pm.wk9 ([] ++ []) := fun x hx => nomatch hx
  match c with
  | 0 => exact Pm.wk_app (Pm.wk_cons b1 e2) n2
  | 1 => exact Pm.wk_app (Pm.wk_cons (by decide +kernel) (Pm.wk_cons b1 e2)) n2
  | 2 => exact Pm.wk_app (Pm.wk_cons (by decide +kernel) (Pm.wk_cons (by decide +kernel) (Pm.wk_app h (Pm.wk_cons (by decide +kernel) (Pm.wk_cons (by decide +kernel) Pm.wk_nil))))) n2
  | 3 => exact Pm.wk_app (Pm.wk_cons (by decide +kernel) Pm.wk_nil) (Pm.wk_app Pm.wk_nil (Pm.wk_cons (by decide +kernel) (Pm.wk_cons b1 e2)))
  | 4 => exact Pm.wk_app (Pm.wk_cons (by decide +kernel) (Pm.wk_app (Pm.wk_app (Pm.wk_cons b1 (Pm.wk_app h Pm.wk_nil)) Pm.wk_nil) (Pm.wk_cons b2 Pm.wk_nil))) n2
  | n + 5 => exact Pm.wk_app (Pm.wk_cons (by decide +kernel) (Pm.wk_cons b1 (Pm.wk_app Pm.wk_nil (Pm.wk_cons b2 (Pm.wk_cons b1 e2))))) n2
theorem fml_wk9 : ∀ cs : List Nat, Pm.wk9 (Pm.fmlM .nil cs).words
  | [] => Pm.wk_nil
  | c :: cs => Pm.wk_app (itK_wk (fml_wk9 cs) c) Pm.wk_nil
theorem fml_wk (cs : List Nat) (hc : ∀ c ∈ cs, c < 6) (hl : cs.length ≤ 8) : (Pm.fmlM .nil cs).words.length ≤ 100000 ∧ Pm.wk9 (Pm.fmlM .nil cs).words := by
  refine ⟨?_, fml_wk9 cs⟩
  have := Pm.wsum_fml .nil cs hc
  have h1 := len_wsum (Pm.fmlM .nil cs).words
  have : Pm.wsum FRow.nil.words = 0 := rfl
  omega
structure LawK2 (P : Program) (w : World) (K : PySem.W.Frag) (mg : Str → Option Value) (base : Heap) : Prop where
  b_int : mg "int" = none
  range : mg "range" = none
  kind : Cal P w K mg base CX0 61 "_law_kind" ["text"] (spX K RKindL)
  checked : Cal P w K mg base CX0 30 "_law_checked" ["formula"] (spX K RChkL)
  nested : Cal P w K mg base CX0 1 "_law_nested" ["kinds"] (spX K RNestL)
  one : Cal P w K mg base CX0 1 "_law_one" ["name"] (spX K ROneL)
  cell : Cal P w K mg base CX0 1 "_law_cell" ["script", "k"] (spCellN K)
section
variable {P : Program} {w : World} {K : PySem.W.Frag} {mg : Str → Option Value} {base : Heap}
theorem scLimLaw : FnScope ["script", "depth", "ahead", "behind", "formula", "due", "last", "count", "spaces", "scripts", "wide", "k"] ["script"] (defScope sLimLaw) := ⟨rfl, rfl, rfl, by decide +kernel, rfl, by decide +kernel, by decide +kernel⟩
theorem ok_law {f : Addr} {fd : FuncData} (F : Fun K "law" "law" sLimLaw f fd) (T : LawK2 P w K mg base) : FnOk P w K mg base CX0 62 f fd ["script"] (spLaw K) := by
  have sc := scLimLaw
  refine F.ok scLimLaw (fun vs H Q E h => ?_) (fun cdv A outer s H vs Q E hr h => ?_)
  · obtain ⟨a, ns, rfl, _⟩ := h
    rfl
  · obtain ⟨a, ns, rfl, hS, k⟩ := h
    have C_law_cell := T.cell
    have C_law_kind := T.kind
    have C_law_checked := T.checked
    have C_law_nested := T.nested
    have C_law_one := T.one
    refine ⟨_, (pss_cons (ps_set (i := 1) sc.nd rfl (Or.inl rfl) (pe_op op_add pe_int (pe_op op_mod (pe_cal C_law_cell (hr.mono (by omega)) rfl pass0 (pa_cons (pv 0) (pa_cons pe_int pa_nil))) pe_int)))
  (pss_cons (ps_asg (pe_cal C_law_nested (hr.mono (by omega)) rfl pass0 (pa_cons (pe_lc (own := [("k", 11)]) rfl sc.nd (pi_range1 rfl T.range (pa_cons (pv 1) pa_nil)) (blkOk_by (own := [("k", 11)]) (N := ["script", "depth", "ahead", "behind", "formula", "due", "last", "count", "spaces", "scripts", "wide", "k"]) (sc := defScope sLimLaw) (by decide +kernel)) (fun _ _ _ _ _ => (pg_name (i := 11) sc.nd rfl (Or.inl rfl))) (fun _ _ _ _ _ => pts_nil) (fun _ _ _ _ _ => (pe_op op_mod (pe_cal C_law_cell (hr.mono (by omega)) rfl pass0 (pa_cons (pv 0) (pa_cons (pe_op op_add pe_int (pv 11)) pa_nil))) pe_int))) pa_nil)) (pg_tup rfl (pgs_cons (pg_name (i := 2) sc.nd rfl (Or.inl rfl)) (pgs_cons (pg_name (i := 3) sc.nd rfl (Or.inl rfl)) (pgs_cons (pg_name (i := 4) sc.nd rfl (Or.inl rfl)) pgs_nil)))))
  (pss_cons (ps_set (i := 5) sc.nd rfl (Or.inl rfl) (pe_ix ix_list (pe_lst (pa_cons pe_str (pa_cons pe_str pa_nil))) (pe_callTy call_int1 (by rfl) T.b_int (by decide +kernel) (pa_cons (pe_cmpR op_gt (pv 1) pe_int (nomark _)) pa_nil)) (fun _ _ => rfl)))
  (pss_cons (ps_if (PW.pt (pw_or (pt_cmpR op_ne (pe_cal C_law_kind (hr.mono (by omega)) rfl pass0 (pa_cons (pe_op op_add_str (pv 2) (pv 3)) pa_nil)) (pv 5) (nomark _)) (pw_or1 (pt_cmpR op_ne (pe_cal C_law_checked (hr.mono (by omega)) rfl pass0 (pa_cons (pv 4) pa_nil)) (pv 5) (nomark _)))))
  (pss_one (ps_ret pe_bl))
  pss_nil)
  (pss_cons (ps_set (i := 6) sc.nd rfl (Or.inl rfl) (pe_ix ix_list (pe_lst (pa_cons pe_str (pa_cons pe_str pa_nil))) (pe_callTy call_int1 (by rfl) T.b_int (by decide +kernel) (pa_cons (pe_cmpR op_gt (pv 1) pe_int (nomark _)) pa_nil)) (fun _ _ => rfl)))
  (pss_cons (ps_if (PW.pt (pw_or (pt_cmpR op_ne (pe_cal C_law_kind (hr.mono (by omega)) rfl pass0 (pa_cons (pe_op op_add_str (pe_op op_add_str (pv 2) pe_str) (pv 3)) pa_nil)) (pv 6) (nomark _)) (pw_or1 (pt_cmpR (r := rIn K true) op_notIn_seq (pe_cal C_law_kind (hr.mono (by omega)) rfl pass0 (pa_cons (pe_op op_add_str (pe_op op_add_str (pv 2) pe_str) (pv 3)) pa_nil)) (pe_lst (pa_cons (pv 5) (pa_cons pe_str pa_nil))) (by rfl)))))
  (pss_one (ps_ret pe_bl))
  pss_nil)
  (pss_cons (ps_if (PW.pt (pw_or (pt_cmpR op_ne (pe_cal C_law_kind (hr.mono (by omega)) rfl pass0 (pa_cons (pe_op op_add_str (pe_op op_add_str pe_str (pv 2)) (pv 3)) pa_nil)) pe_str (nomark _)) (pw_or1 (pt_cmpR op_ne (pe_cal C_law_kind (hr.mono (by omega)) rfl pass0 (pa_cons (pe_op op_add_str (pe_op op_add_str (pv 2) (pv 3)) pe_str) pa_nil)) (pe_ix ix_list (pe_lst (pa_cons pe_str (pa_cons pe_str pa_nil))) (pe_callTy call_int1 (by rfl) T.b_int (by decide +kernel) (pa_cons (pe_cmpR op_gt (pv 1) pe_int (nomark _)) pa_nil)) (fun _ _ => rfl)) (nomark _)))))
  (pss_one (ps_ret pe_bl))
  pss_nil)
  (pss_cons (ps_set (i := 7) sc.nd rfl (Or.inl rfl) (pe_op op_add pe_int (pe_op op_mod (pe_cal C_law_cell (hr.mono (by omega)) rfl pass0 (pa_cons (pv 0) (pa_cons pe_int pa_nil))) pe_int)))
  (pss_cons (ps_if (PW.pt (pw_or (pt_cmpR op_ne (pe_cal C_law_kind (hr.mono (by omega)) rfl pass0 (pa_cons (pe_op op_mulS pe_str (pv 7)) pa_nil)) (pe_ix ix_list (pe_lst (pa_cons pe_str (pa_cons pe_str pa_nil))) (pe_callTy call_int1 (by rfl) T.b_int (by decide +kernel) (pa_cons (pe_cmpR op_gt (pv 7) pe_int (nomark _)) pa_nil)) (fun _ _ => rfl)) (nomark _)) (pw_or1 (pt_cmpR op_ne (pe_cal C_law_checked (hr.mono (by omega)) rfl pass0 (pa_cons (pe_op op_repTA (pe_cal C_law_one (hr.mono (by omega)) rfl pass0 (pa_cons pe_str pa_nil)) (pv 7)) pa_nil)) (pe_ix ix_list (pe_lst (pa_cons pe_str (pa_cons pe_str pa_nil))) (pe_callTy call_int1 (by rfl) T.b_int (by decide +kernel) (pa_cons (pe_cmpR op_gt (pv 7) pe_int (nomark _)) pa_nil)) (fun _ _ => rfl)) (nomark _)))))
  (pss_one (ps_ret pe_bl))
  pss_nil)
  (pss_cons (ps_if (pt_cmpR op_ne (pe_cal C_law_kind (hr.mono (by omega)) rfl pass0 (pa_cons (pe_op op_add_str (pe_op op_add_str pe_str (pe_op op_mulS pe_str (pe_op op_sub (pv 7) pe_int))) pe_str) pa_nil)) (pe_ix ix_list (pe_lst (pa_cons pe_str (pa_cons pe_str pa_nil))) (pe_callTy call_int1 (by rfl) T.b_int (by decide +kernel) (pa_cons (pe_cmpR op_gt (pv 7) pe_int (nomark _)) pa_nil)) (fun _ _ => rfl)) (nomark _))
  (pss_one (ps_ret pe_bl))
  pss_nil)
  (pss_cons (ps_set (i := 8) sc.nd rfl (Or.inl rfl) (pe_op op_add pe_int (pe_op op_mod (pe_cal C_law_cell (hr.mono (by omega)) rfl pass0 (pa_cons (pv 0) (pa_cons pe_int pa_nil))) pe_int)))
  (pss_cons (ps_if (pt_cmpR op_ne (pe_cal C_law_kind (hr.mono (by omega)) rfl pass0 (pa_cons (pe_op op_add_str pe_str (pe_op op_mulS pe_str (pe_op op_sub (pv 8) pe_int))) pa_nil)) (pe_ix ix_list (pe_lst (pa_cons pe_str (pa_cons pe_str pa_nil))) (pe_callTy call_int1 (by rfl) T.b_int (by decide +kernel) (pa_cons (pe_cmpR op_gt (pv 8) pe_int (nomark _)) pa_nil)) (fun _ _ => rfl)) (nomark _))
  (pss_one (ps_ret pe_bl))
  pss_nil)
  (pss_cons (ps_set (i := 9) sc.nd rfl (Or.inl rfl) (pe_op op_add pe_int (pe_op op_mod (pe_cal C_law_cell (hr.mono (by omega)) rfl pass0 (pa_cons (pv 0) (pa_cons pe_int pa_nil))) pe_int)))
  (pss_cons (ps_set (i := 10) sc.nd rfl (Or.inl rfl) (pe_op op_mulS pe_str (pv 9)))
  (pss_cons (ps_set (i := 5) sc.nd rfl (Or.inl rfl) (pe_ix ix_list (pe_lst (pa_cons pe_str (pa_cons pe_str pa_nil))) (pe_callTy call_int1 (by rfl) T.b_int (by decide +kernel) (pa_cons (pe_cmpR op_gt (pe_op op_mul pe_int (pv 9)) pe_int (nomark _)) pa_nil)) (fun _ _ => rfl)))
  (pss_cons (ps_if (PW.pt (pw_or (pt_cmpR op_ne (pe_cal C_law_kind (hr.mono (by omega)) rfl pass0 (pa_cons (pv 10) pa_nil)) (pv 5) (nomark _)) (pw_or (pt_cmpR op_ne (pe_cal C_law_kind (hr.mono (by omega)) rfl pass0 (pa_cons (pe_op op_mulS pe_str pe_int) pa_nil)) pe_str (nomark _)) (pw_or1 (pt_cmpR op_ne (pe_cal C_law_kind (hr.mono (by omega)) rfl pass0 (pa_cons (pe_op op_mulS pe_str pe_int) pa_nil)) pe_str (nomark _))))))
  (pss_one (ps_ret pe_bl))
  pss_nil)
  (pss_cons (ps_if (PW.pt (pw_or (pt_cmpR op_ne (pe_cal C_law_kind (hr.mono (by omega)) rfl pass0 (pa_cons (pe_op op_add_str (pe_op op_mulS pe_str pe_int) (pe_op op_mulS pe_str pe_int)) pa_nil)) pe_str (nomark _)) (pw_or (pt_cmpR op_ne (pe_cal C_law_kind (hr.mono (by omega)) rfl pass0 (pa_cons (pe_op op_add_str (pe_op op_mulS pe_str pe_int) (pe_op op_mulS pe_str pe_int)) pa_nil)) pe_str (nomark _)) (pw_or1 (pt_cmpR op_ne (pe_cal C_law_kind (hr.mono (by omega)) rfl pass0 (pa_cons (pe_op op_mulS pe_str pe_int) pa_nil)) pe_str (nomark _))))))
  (pss_one (ps_ret pe_bl))
  pss_nil)
  (pss_cons (ps_if (PW.pt (pw_or (pt_cmpR op_ne (pe_cal C_law_checked (hr.mono (by omega)) rfl pass0 (pa_cons (pe_op op_repTA (pe_cal C_law_one (hr.mono (by omega)) rfl pass0 (pa_cons pe_str pa_nil)) pe_int) pa_nil)) pe_str (nomark _)) (pw_or1 (pt_cmpR op_ne (pe_cal C_law_checked (hr.mono (by omega)) rfl pass0 (pa_cons (pe_op op_repTA (pe_cal C_law_one (hr.mono (by omega)) rfl pass0 (pa_cons pe_str pa_nil)) pe_int) pa_nil)) pe_str (nomark _)))))
  (pss_one (ps_ret pe_bl))
  pss_nil)
  (pss_one (ps_ret (pe_and (pe_cmpR op_eq (pe_cal C_law_kind (hr.mono (by omega)) rfl pass0 (pa_cons (pe_op op_mulS pe_str pe_int) pa_nil)) pe_str (nomark _)) (pe_and (pe_cmpR op_eq (pe_cal C_law_kind (hr.mono (by omega)) rfl pass0 (pa_cons (pe_op op_mulS pe_str pe_int) pa_nil)) pe_str (nomark _)) (pe_one (pe_cmpR op_eq (pe_cal C_law_kind (hr.mono (by omega)) rfl pass0 (pa_cons (pe_op op_mulS pe_str pe_int) pa_nil)) pe_str (nomark _))))))))))))))))))))))))), ?_⟩
    refine law_ok hS k ?_
    walk_at "go"
    refine w_setN (en_cadd (a := 6) (m := 3) (en_cmod (by decide) (en_cell rfl x_int (by decide)))) fun dd hd => ?_
    obtain ⟨n, n1, n2, rfl⟩ := hd
    walk_at "d"
    refine w_asgN (R := fun d => ∃ cs : List Nat, (∀ c ∈ cs, c < 6) ∧ cs.length = n ∧ d = .tup [.str (Pm.aheadS cs), .str (Pm.behindS cs), pd (Pm.fmlM .nil cs).d]) (en_call (RX := RNestL) (ena_cons (enl_en (xl_lcN (RD := fun L => L = (List.range n).map fun i : Nat => Dt.int (i : Int)) (RE := fun _ d => ∃ k : Nat, k < 6 ∧ d = .int (k : Int))
        (itn_of (it_rng1 (n := n) (x_var rfl) (by omega)))
        (fun L e => by rw [e, List.length_map, List.length_range]; omega) rfl (fun L e a ha => ?_))) ena_nil) ?_) fun dd hd => ?_
    · subst e
      obtain ⟨i, hi, rfl⟩ := List.mem_map.mp ha
      refine ⟨_, _, gt_name, rfl, ?_⟩
      exact en_cmod (m := 6) (by decide) (en_cell rfl (x_op x_int (x_var rfl) o_I0i) (by omega))
    · rintro ds ⟨d, r, rfl, ⟨es, rfl, L, eL, al⟩, rfl⟩
      obtain ⟨cs, h1, h2, rfl⟩ := al2_ints (L := ([] : List Nat)) al
      rw [eL, List.length_map, List.length_range] at h2
      exact ⟨_, ⟨cs, rfl, h1, by omega, rfl⟩, cs, h1, h2, rfl⟩
    obtain ⟨cs, hc, hn, rfl⟩ := hd
    have hl : cs.length ≤ 8 := by omega
    have hne : cs ≠ [] := fun z => by rw [z] at hn; simp at hn; omega
    refine ⟨_, _, gt_tup (gts_cons gt_name (gts_cons gt_name (gts_cons gt_name gts_nil))) rfl, ?_⟩
    walk_at "d"
    have l1 := Pm.aheadS_len cs
    have l2 := Pm.behindS_len cs
    subst hn
    refine w_set ((ix2 (x_op (x_var rfl) x_int o_I0b)).is (congrArg Dt.str (due_int cs.length))) ?_
    walk_at "d"
    have ln : ∀ a b : Str, (a ++ b).length = a.length + b.length := Pm.len_app
    have x2 : ("x^2" : Str).length = 3 := by decide +kernel
    have xa : ("&" : Str).length = 1 := by decide +kernel
    have dep8 : (Pm.fmlM .nil cs).dep < 9 := by
      rw [Pm.dep_fml]
      show cs.length + 0 < 9
      omega
    have wks := fml_wk cs hc hl
    refine w_when (b := false) (or_f (ne_f (kd (x_op (x_var rfl) (x_var rfl) (o_catS (by omega))) (by rw [ln]; omega)) (x_var rfl) (Pm.f_plain hc hl)) (ne_f (ck (x_var rfl) dep8 wks.1 wks.2) (x_var rfl) (Pm.f_checked hc hl))) (fun z => by cases z) fun _ => ?_
    refine w_set ((ix2 (x_op (x_var rfl) x_int o_I0b)).is (congrArg Dt.str (show (if decide ((cs.length : Int) > 6) = true then ("deep" : Str) else ("done" : Str)) = (if 6 < cs.length then ("deep" : Str) else ("done" : Str)) from by
      by_cases c : 6 < cs.length
      · rw [if_pos c, decide_eq_true (by omega), if_pos rfl]
      · rw [if_neg c, decide_eq_false (by omega), if_neg (by decide)]))) ?_
    walk_at "d"
    refine w_when (b := false) (or_f (ne_f (kd (x_op (x_op (x_var rfl) x_str (o_catS (by omega))) (x_var rfl) (o_catS (by rw [ln]; omega))) (by rw [ln, ln]; omega)) (x_var rfl) (Pm.f_x2 hc hl)) ((xt_test (x_op (kd (x_op (x_op (x_var rfl) x_str (o_catS (by omega))) (x_var rfl) (o_catS (by rw [ln]; omega))) (by rw [ln, ln]; omega)) (el_e (xl_lst (xa_cons (x_var rfl) (xa_one x_str)) (Nat.le_of_ble_eq_true rfl))) o_ninSL)).is (by
      rcases Pm.f_amp hc hl hne with h | h
      · rw [h, decide_eq_true rfl]
        rfl
      · rw [h, decide_eq_true (show ("fault" : Str) = "fault" from rfl), Bool.or_true]
        rfl))) (fun z => by cases z) fun _ => ?_
    refine w_when (b := false) (or_f (ne_f (kd (x_op (x_op x_str (x_var rfl) (o_catS (by omega))) (x_var rfl) (o_catS (by rw [ln]; omega))) (by rw [ln, ln]; omega)) x_str (Pm.f_amp0 hl)) (ne_f (kd (x_op (x_op (x_var rfl) (x_var rfl) (o_catS (by omega))) x_str (o_catS (by rw [ln]; omega))) (by rw [ln, ln]; omega)) (ix2 (x_op (x_var rfl) x_int o_I0b)) ((Pm.f_ampZ hc hl hne).trans (by
      by_cases c : 7 < cs.length
      · rw [if_pos c, decide_eq_true (by omega), if_pos rfl]
      · rw [if_neg c, decide_eq_false (by omega), if_neg (by decide)])))) (fun z => by cases z) fun _ => ?_
    refine w_setN (en_cadd (a := 79) (m := 3) (en_cmod (by decide) (en_cell rfl x_int (by decide)))) fun dd hd => ?_
    obtain ⟨c, c1, c2, rfl⟩ := hd
    walk_at "d"
    have ml : ∀ (s : Str) (n : Nat), (Txt.mul s (n : Int)).length = n * s.length := Pm.mul_len
    have xl : ("x" : Str).length = 1 := by decide +kernel
    have lg : (if decide ((c : Int) > 80) = true then ("large" : Str) else ("done" : Str)) = Pm.lrg (decide (80 < c)) := by
      unfold Pm.lrg
      by_cases z : 80 < c
      · rw [decide_eq_true z, decide_eq_true (by omega)]
      · rw [decide_eq_false z, decide_eq_false (by omega)]
    refine w_when (b := false) (or_f (ne_f (kd (x_op x_str (x_var rfl) (o_mulS (by omega) (by rw [xl]; omega))) (by rw [ml, xl]; omega)) (ix2 (x_op (x_var rfl) x_int o_I0b)) ((Pm.f_x c (by omega)).trans lg.symm)) (ne_f (ck (one_rep (it := Pm.itx) rfl x_str (x_var rfl) (by omega) (by omega)) (by rw [Pm.dep_rep (by decide +kernel)]; decide) (by rw [rep_wl (m := 1) (by decide +kernel)]; omega) (rep_wk (show ∀ x ∈ Pm.itx.words, 1 ≤ x.length ∧ x.length ≤ 9 by decide +kernel) c)) (ix2 (x_op (x_var rfl) x_int o_I0b)) ((Pm.c_x c (by omega)).trans lg.symm))) (fun z => by cases z) fun _ => ?_
    have xr : ("@root{" : Str).length = 6 := by decide +kernel
    have xb : ("}" : Str).length = 1 := by decide +kernel
    have cm : ((c : Int) - 1) = ((c - 1 : Nat) : Int) := by omega
    refine w_when (b := false) (ne_f (kd (x_op (x_op x_str (x_op x_str ((x_op (x_var rfl) x_int o_I0i).is (congrArg Dt.int cm)) (o_mulS (by omega) (by rw [xl]; omega))) (o_catS (by rw [ml, xl]; omega))) x_str (o_catS (by rw [ln, ml, xl]; omega))) (by rw [ln, ln, ml, xl]; omega)) (ix2 (x_op (x_var rfl) x_int o_I0b)) ((Pm.f_root (c - 1) (by omega)).trans (by rw [show c - 1 + 1 = c by omega]; exact lg.symm))) (fun z => by cases z) fun _ => ?_
    refine w_setN (en_cadd (a := 399) (m := 3) (en_cmod (by decide) (en_cell rfl x_int (by decide)))) fun dd hd => ?_
    obtain ⟨e, e1, e2, rfl⟩ := hd
    walk_at "d"
    have em : ((e : Int) - 1) = ((e - 1 : Nat) : Int) := by omega
    have xs : (" " : Str).length = 1 := by decide +kernel
    refine w_when (b := false) (ne_f (kd (x_op x_str (x_op x_str ((x_op (x_var rfl) x_int o_I0i).is (congrArg Dt.int em)) (o_mulS (by omega) (by rw [xs]; omega))) (o_catS (by rw [ml, xs]; omega))) (by rw [ln, ml, xs]; omega)) (ix2 (x_op (x_var rfl) x_int o_I0b)) ((Pm.f_sp (e - 1) (by omega)).trans (by
      by_cases z : 400 < e
      · rw [if_pos (by omega), decide_eq_true (by omega), if_pos rfl]
      · rw [if_neg (by omega), decide_eq_false (by omega), if_neg (by decide)]))) (fun z => by cases z) fun _ => ?_
    refine w_setN (en_cadd (a := 28) (m := 8) (en_cmod (by decide) (en_cell rfl x_int (by decide)))) fun dd hd => ?_
    obtain ⟨g, g1, g2, rfl⟩ := hd
    walk_at "d"
    have wl : ("@abcdefgh^x" : Str).length = 11 := by decide +kernel
    refine w_set (x_op x_str (x_var rfl) (o_mulS (by omega) (by rw [wl]; omega))) ?_
    walk_at "d"
    refine w_set (ix2 (x_op (x_op x_int (x_var rfl) (o_mul (.inl ⟨by decide, by decide⟩))) x_int o_I0b)) ?_
    walk_at "d"
    have x3 : ("x^x" : Str).length = 3 := by decide +kernel
    refine w_when (b := false) (or_f (ne_f (kd (x_var rfl) (by rw [ml, wl]; omega)) (x_var rfl) ((Pm.f_wide g (by omega)).trans (by
      unfold Pm.lrg
      by_cases z : 400 < 13 * g
      · rw [decide_eq_true z, decide_eq_true (by omega)]
      · rw [decide_eq_false z, decide_eq_false (by omega)]))) (or_f (ne_f (kd (x_op x_str x_int (o_mulS (n := 40) (by decide) (by rw [x3]; omega))) (by rw [ml, x3]; omega)) x_str (Pm.f_xx 40 (by decide))) (ne_f (kd (x_op x_str x_int (o_mulS (n := 41) (by decide) (by rw [x3]; omega))) (by rw [ml, x3]; omega)) x_str (Pm.f_xx 41 (by decide))))) (fun z => by cases z) fun _ => ?_
    have xo : ("{" : Str).length = 1 := by decide +kernel
    refine w_when (b := false) (or_f (ne_f (kd (x_op (x_op x_str x_int (o_mulS (n := 8) (by decide) (by rw [xo]; omega))) (x_op x_str x_int (o_mulS (n := 8) (by decide) (by rw [xb]; omega))) (o_catS (by rw [ml, ml, xo, xb]; omega))) (by rw [ln, ml, ml, xo, xb]; omega)) x_str (Pm.f_br 8 (by decide))) (or_f (ne_f (kd (x_op (x_op x_str x_int (o_mulS (n := 7) (by decide) (by rw [xo]; omega))) (x_op x_str x_int (o_mulS (n := 7) (by decide) (by rw [xb]; omega))) (o_catS (by rw [ml, ml, xo, xb]; omega))) (by rw [ln, ml, ml, xo, xb]; omega)) x_str (Pm.f_br 7 (by decide))) (ne_f (kd (x_op x_str x_int (o_mulS (n := 81) (by decide) (by rw [xl]; omega))) (by rw [ml, xl]; omega)) x_str (Pm.f_x 81 (by decide))))) (fun z => by cases z) fun _ => ?_
    refine w_when (b := false) (or_f (ne_f (ck (one_rep (it := Pm.ita) (n := 45) rfl x_str x_int (by decide) (by decide)) (by rw [Pm.dep_rep (by decide +kernel)]; decide) (by rw [rep_wl (m := 1) (by decide +kernel)]; omega) (rep_wk (show ∀ x ∈ Pm.ita.words, 1 ≤ x.length ∧ x.length ≤ 9 by decide +kernel) 45)) x_str (Pm.c_a 45 (by decide))) (ne_f (ck (one_rep (it := Pm.ita) (n := 44) rfl x_str x_int (by decide) (by decide)) (by rw [Pm.dep_rep (by decide +kernel)]; decide) (by rw [rep_wl (m := 1) (by decide +kernel)]; omega) (rep_wk (show ∀ x ∈ Pm.ita.words, 1 ≤ x.length ∧ x.length ≤ 9 by decide +kernel) 44)) x_str (Pm.c_a 44 (by decide)))) (fun z => by cases z) fun _ => ?_
    have x5 : ("x_x^x" : Str).length = 5 := by decide +kernel
    have eqT : ∀ {Γ : List Sl} {ta : TE} {a b : Str}, Nw.E (pure0 K) ta Γ (.str a) → a = b → Nw.E (pure0 K) (tOp rEq ta (tC (.str b))) Γ (.bl true) := fun h e => (x_op h x_str o_eqS).is (by rw [decide_eq_true e])
    refine w_ret (d := .bl true) ?_ rfl
    exact x_and (b := true) (eqT (kd (x_op x_str x_int (o_mulS (n := 400) (by decide) (by rw [xo]; omega))) (by rw [ml, xo]; omega)) Pm.f_br400) fun _ => x_and (b := true) (eqT (kd (x_op x_str x_int (o_mulS (n := 27) (by decide) (by rw [x5]; omega))) (by rw [ml, x5]; omega)) (Pm.f_xxx 27 (by decide))) fun _ => eqT (kd (x_op x_str x_int (o_mulS (n := 401) (by decide) (by rw [xo]; omega))) (by rw [ml, xo]; omega)) Pm.f_br401
end
end
section
set_option Elab.async false
set_option linter.all false
set_option maxRecDepth 100000
set_option maxHeartbeats 4000000
open PySem PySem.Spec PyProof.Rows L2
theorem sqt_of {K : PySem.W.Frag} {a : Addr} {od : Option Addr} {its : Array Value} {n : Nat} {sl : Array (Option Value)} {xs : List V} (h : K.lookup a = some ⟨.type "tuple", od, .seq its n, sl⟩) (hz : its.size ≤ sizeLine) (hv : Vals xs its.toList) : ∀ H, SqT K H a xs := fun H => .inr ⟨_, its, n, h, rfl, rfl, hz, hv⟩
theorem kit_own {K : PySem.W.Frag} {t : Value} {C : Addr} (h1 : PySem.W.hasDictIn K C = true) (h2 : PySem.W.typeIn K (.ref C) = some (.type "type")) (h3 : PySem.W.subIn K t (.ref C) = some true) : PySem.W.kitCls K t (.ref C) = some true := by
  obtain ⟨cd, hc, _⟩ := PySem.W.any_some h1
  unfold PySem.W.kitCls
  have e : ((PySem.W.clsIn K C).isSome && PySem.W.typeIn K (.ref C) == some (.type "type")) = true := by
    rw [hc, h2]
    rfl
  dsimp only
  rw [if_pos e]
  exact h3
theorem kit_VE {K : PySem.W.Frag} {t : Value} (h : PySem.W.subIn K t (.type "ValueError") = some true) : PySem.W.kitCls K t (.type "ValueError") = some true := by
  unfold PySem.W.kitCls
  dsimp only
  rw [if_pos (by decide +kernel)]
  exact h
theorem kit_me {K : PySem.W.Frag} {C : Addr} : PySem.W.kitOne K (.ref C) (.ref C) = some true := by
  unfold PySem.W.kitOne
  rw [if_pos (by simp)]
theorem ne_ref {a b : Addr} (h : a ≠ b) : (Value.ref a == Value.ref b) = false := by
  simp [h]
theorem all_mk {P : Program} {w : World} {K : PySem.W.Frag} {h : Heap} {mg : Str → Option Value} {fa : Addr} {f0 CG CD CL CF fU cdaU ccU CE f1 f2 f3 f4 f5 f6 f7 f8 f9 CR f10 aR f11 f12 f13 f14 f15 f16 m0 m1 m2 m3 m4 m5 m6 m7 m8 m9 m10 m11 m12 m13 f17 f18 f19 f20 f21 f22 f23 f24 : Addr}
    (X : K.In h) (G : h.Ns mainGlobals mg) (hfa : mg "law" = some (.ref fa))
    (a0 : PySem.W.nsIn K mainGlobals "law" = some (some (.ref f0)))
    (d0 : ∃ fd, Fun K "law" "law" Mg.Nw.sLimLaw f0 fd)
    (k0 : PySem.W.keepIn K (.ref f0) = true)
    (g_TooLong : PySem.W.nsIn K mainGlobals "TooLong" = some (some (.ref CG)))
    (ygx : PySem.W.excIn K CG [.type "ValueError", .type "Exception", .type "BaseException", .type "object"] "ValueError.__new__" = true)
    (ygk : PySem.W.keepIn K (.ref CG) = true)
    (ygb : PySem.W.subIn K (.ref CG) (.type "BaseException") = some true)
    (ygt : PySem.W.typeIn K (.ref CG) = some (.type "type"))
    (g_TooDeep : PySem.W.nsIn K mainGlobals "TooDeep" = some (some (.ref CD)))
    (ydx : PySem.W.excIn K CD [.type "ValueError", .type "Exception", .type "BaseException", .type "object"] "ValueError.__new__" = true)
    (ydk : PySem.W.keepIn K (.ref CD) = true)
    (ydb : PySem.W.subIn K (.ref CD) (.type "BaseException") = some true)
    (ydt : PySem.W.typeIn K (.ref CD) = some (.type "type"))
    (g_TooLarge : PySem.W.nsIn K mainGlobals "TooLarge" = some (some (.ref CL)))
    (ylx : PySem.W.excIn K CL [.type "ValueError", .type "Exception", .type "BaseException", .type "object"] "ValueError.__new__" = true)
    (ylk : PySem.W.keepIn K (.ref CL) = true)
    (ylb : PySem.W.subIn K (.ref CL) (.type "BaseException") = some true)
    (ylt : PySem.W.typeIn K (.ref CL) = some (.type "type"))
    (g_SyntaxFault : PySem.W.nsIn K mainGlobals "SyntaxFault" = some (some (.ref CF)))
    (uL : ∃ nm q N bs bm sn sub ab col dd k0 k1 k2 k3 k5, K.lookup CF = some (excClassObj nm q CF N bs bm true sn sub ab col dd k0 k1 k2 k3 k5 "ValueError.__new__") ∧ PySem.HandSPX.refsVE bm = true)
    (usa : PySem.W.findIn K (.ref CF) "__setattr__" = some (some (.builtin "object.__setattr__")))
    (un : PySem.W.findIn K (.ref CF) "place" = some none)
    (ui : PySem.W.findIn K (.ref CF) "__init__" = some (some (.ref fU)))
    (ut : PySem.W.typeIn K (.ref fU) = some (.type "function"))
    (uk : PySem.W.keepIn K (.ref CF) = true)
    (ub : PySem.W.subIn K (.ref CF) (.type "BaseException") = some true)
    (uty : PySem.W.typeIn K (.ref CF) = some (.type "type"))
    (uV : PySem.W.subIn K (.ref CF) (.type "ValueError") = some true)
    (uo : PySem.W.mroIn K CF (.ref CF) = some true)
    (ual : PySem.W.ks_superIn K CF CF "__init__" = some (some (.builtin "ValueError.__init__")))
    (uop : PySem.W.nsIn K cStatics "thirdparty.any" = some none)
    (ufn : ∃ (oc : Value) (od : Option Addr) (doc pm : Value) (an : Option Addr) (ct : Value) (osl : Array (Option Value)), K.lookup fU = some ⟨oc, od, .func (PySem.W.ksFn "__init__" "SyntaxFault.__init__" (PySem.MrU.iA ⟨6, 17, 6, 21⟩ ⟨6, 23, 6, 28⟩) (PySem.MrU.iB "the text cannot go on at place " ⟨7, 8, 7, 13⟩ ⟨7, 8, 7, 15⟩ ⟨7, 8, 7, 24⟩ ⟨7, 27, 7, 58⟩ ⟨7, 59, 7, 64⟩ ⟨7, 58, 7, 65⟩ ⟨7, 25, 7, 66⟩ ⟨7, 8, 7, 67⟩ ⟨7, 8, 7, 67⟩ ⟨8, 8, 8, 12⟩ ⟨8, 8, 8, 18⟩ ⟨8, 21, 8, 26⟩ ⟨8, 8, 8, 26⟩) PySem.MrU.iS .none .none doc pm an (.ref cdaU) ct ccU), osl⟩)
    (ucd : PySem.W.codeIn K (.ref cdaU) "SyntaxFault.__init__" = true)
    (ucc : ∃ cl cld csl, K.lookup ccU = some ⟨cl, cld, .cell (some (.ref CF)), csl⟩)
    (uda : ∃ ccl cdd vs ccs file tf, K.lookup cdaU = some ⟨ccl, cdd, .fields vs, ccs⟩ ∧ vs[2]? = some (.str file tf) ∧ ((P.main.file : Str) == file) = true)
    (uht : (P.main.scope.names.lookup ("super" : Str)).isSome = false)
    (z_super : PySem.W.nsIn K mainGlobals "super" = some none)
    (g_SetError : PySem.W.nsIn K mainGlobals "SetError" = some (some (.ref CE)))
    (a1 : PySem.W.nsIn K mainGlobals "nucleus_rows" = some (some (.ref f1)))
    (d1 : ∃ fd, Fun K "nucleus_rows" "nucleus_rows" Mg.sNucRows f1 fd)
    (k1 : PySem.W.keepIn K (.ref f1) = true)
    (a2 : PySem.W.nsIn K mainGlobals "rows_in" = some (some (.ref f2)))
    (d2 : ∃ fd, Fun K "rows_in" "rows_in" Mg.sRowsIn f2 fd)
    (k2 : PySem.W.keepIn K (.ref f2) = true)
    (a3 : PySem.W.nsIn K mainGlobals "rows_of" = some (some (.ref f3)))
    (d3 : ∃ fd, Fun K "rows_of" "rows_of" Mg.sRowsOf f3 fd)
    (k3 : PySem.W.keepIn K (.ref f3) = true)
    (a4 : PySem.W.nsIn K mainGlobals "row_words" = some (some (.ref f4)))
    (d4 : ∃ fd, Fun K "row_words" "row_words" Mg.sRowWords f4 fd)
    (k4 : PySem.W.keepIn K (.ref f4) = true)
    (a5 : PySem.W.nsIn K mainGlobals "braced_words" = some (some (.ref f5)))
    (d5 : ∃ fd, Fun K "braced_words" "braced_words" Mg.sBraced f5 fd)
    (k5 : PySem.W.keepIn K (.ref f5) = true)
    (a6 : PySem.W.nsIn K mainGlobals "nucleus_words" = some (some (.ref f6)))
    (d6 : ∃ fd, Fun K "nucleus_words" "nucleus_words" Mg.sNucWords f6 fd)
    (k6 : PySem.W.keepIn K (.ref f6) = true)
    (a7 : PySem.W.nsIn K mainGlobals "fence_words" = some (some (.ref f7)))
    (d7 : ∃ fd, Fun K "fence_words" "fence_words" Mg.sFenceW f7 fd)
    (k7 : PySem.W.keepIn K (.ref f7) = true)
    (a8 : PySem.W.nsIn K mainGlobals "grid_words" = some (some (.ref f8)))
    (d8 : ∃ fd, Fun K "grid_words" "grid_words" Mg.sGridW f8 fd)
    (k8 : PySem.W.keepIn K (.ref f8) = true)
    (z_len : PySem.W.nsIn K mainGlobals "len" = some none)
    (z_max : PySem.W.nsIn K mainGlobals "max" = some none)
    (z_sum : PySem.W.nsIn K mainGlobals "sum" = some none)
    (z_enumerate : PySem.W.nsIn K mainGlobals "enumerate" = some none)
    (c_LETTERS : ∃ t : Tok, PySem.W.nsIn K mainGlobals "LETTERS" = some (some (.str Mg.cLETTERS t)))
    (c_DEEPEST : ∃ t : Tok, PySem.W.nsIn K mainGlobals "DEEPEST" = some (some (.int 7 t)))
    (c_MOST_ITEMS : ∃ t : Tok, PySem.W.nsIn K mainGlobals "MOST_ITEMS" = some (some (.int 80 t)))
    (c_LONGEST : ∃ t : Tok, PySem.W.nsIn K mainGlobals "LONGEST" = some (some (.int 400 t)))
    (a9 : PySem.W.nsIn K mainGlobals "depth_of" = some (some (.ref f9)))
    (d9 : ∃ fd, Fun K "depth_of" "depth_of" Mg.sDepthOf f9 fd)
    (k9 : PySem.W.keepIn K (.ref f9) = true)
    (g_Reader : PySem.W.nsIn K mainGlobals "Reader" = some (some (.ref CR)))
    (pg_CR : PySem.W.plainGet K CR Str.empty = true)
    (hd_CR : PySem.W.hasDictIn K CR = true)
    (po_CR : PySem.W.plainOver K CR = true)
    (sa_CR : PySem.W.findIn K (.ref CR) "__setattr__" = some (some (.builtin "object.__setattr__")))
    (mkc_CR : PySem.W.makesIn K CR = true)
    (kc_CR : PySem.W.keepIn K (.ref CR) = true)
    (a10 : PySem.W.nsIn K mainGlobals "is_command" = some (some (.ref f10)))
    (d10 : ∃ fd, Fun K "is_command" "is_command" Mg.sIsCommand f10 fd)
    (k10 : PySem.W.keepIn K (.ref f10) = true)
    (z_all : PySem.W.nsIn K mainGlobals "all" = some none)
    (c_SIGNS : ∃ t : Tok, PySem.W.nsIn K mainGlobals "SIGNS" = some (some (.str Mg.cSIGNS t)))
    (c_MOST_LETTERS : ∃ t : Tok, PySem.W.nsIn K mainGlobals "MOST_LETTERS" = some (some (.int 8 t)))
    (c_RESERVED : PySem.W.nsIn K mainGlobals "RESERVED" = some (some (.ref aR)))
    (k_RESERVED : ∀ H : Hp, SqT K H aR ([V.str "@frac", V.str "@root", V.str "@left", V.str "@right", V.str "@grid"] : List V))
    (a11 : PySem.W.nsIn K mainGlobals "is_symbol" = some (some (.ref f11)))
    (d11 : ∃ fd, Fun K "is_symbol" "is_symbol" Mg.sIsSymbol f11 fd)
    (k11 : PySem.W.keepIn K (.ref f11) = true)
    (a12 : PySem.W.nsIn K mainGlobals "_command_at" = some (some (.ref f12)))
    (d12 : ∃ fd, Fun K "_command_at" "_command_at" Mg.sCommandAt f12 fd)
    (k12 : PySem.W.keepIn K (.ref f12) = true)
    (c_MARKS : ∃ t : Tok, PySem.W.nsIn K mainGlobals "MARKS" = some (some (.str "{}^_&~" t)))
    (c_BAD : ∃ t : Tok, PySem.W.nsIn K mainGlobals "BAD" = some (some (.str "bad" t)))
    (c_END : ∃ t : Tok, PySem.W.nsIn K mainGlobals "END" = some (some (.str "end" t)))
    (a13 : PySem.W.nsIn K mainGlobals "_token_at" = some (some (.ref f13)))
    (d13 : ∃ fd, Fun K "_token_at" "_token_at" Mg.sTokenAt f13 fd)
    (k13 : PySem.W.keepIn K (.ref f13) = true)
    (a14 : PySem.W.nsIn K mainGlobals "tokens_of" = some (some (.ref f14)))
    (d14 : ∃ fd, Fun K "tokens_of" "tokens_of" Mg.sTokensOf f14 fd)
    (k14 : PySem.W.keepIn K (.ref f14) = true)
    (a15 : PySem.W.nsIn K mainGlobals "check_depth" = some (some (.ref f15)))
    (d15 : ∃ fd, Fun K "check_depth" "check_depth" Mg.sCheckDepth f15 fd)
    (k15 : PySem.W.keepIn K (.ref f15) = true)
    (a16 : PySem.W.nsIn K mainGlobals "cell_stops" = some (some (.ref f16)))
    (d16 : ∃ fd, Fun K "cell_stops" "cell_stops" Mg.sCellStops f16 fd)
    (k16 : PySem.W.keepIn K (.ref f16) = true)
    (no_CR__tokens : PySem.W.findIn K (.ref CR) "_tokens" = some none)
    (no_CR__at : PySem.W.findIn K (.ref CR) "_at" = some none)
    (z_tuple : PySem.W.nsIn K mainGlobals "tuple" = some none)
    (c_MOST_CELLS : ∃ t : Tok, PySem.W.nsIn K mainGlobals "MOST_CELLS" = some (some (.int 6 t)))
    (ma0 : PySem.W.findIn K (.ref CR) "_peek" = some (some (.ref m0)))
    (mi0 : PySem.W.isFn K (.ref m0) = true)
    (md0 : ∃ fd, Fun K "_peek" "Reader._peek" Mg.sPeek m0 fd)
    (mk0 : PySem.W.keepIn K (.ref m0) = true)
    (ma1 : PySem.W.findIn K (.ref CR) "_accept" = some (some (.ref m1)))
    (mi1 : PySem.W.isFn K (.ref m1) = true)
    (md1 : ∃ fd, Fun K "_accept" "Reader._accept" Mg.sAccept m1 fd)
    (mk1 : PySem.W.keepIn K (.ref m1) = true)
    (ma2 : PySem.W.findIn K (.ref CR) "_symbol" = some (some (.ref m2)))
    (mi2 : PySem.W.isFn K (.ref m2) = true)
    (md2 : ∃ fd, Fun K "_symbol" "Reader._symbol" Mg.sRSymbol m2 fd)
    (mk2 : PySem.W.keepIn K (.ref m2) = true)
    (ma3 : PySem.W.findIn K (.ref CR) "_delimiter" = some (some (.ref m3)))
    (mi3 : PySem.W.isFn K (.ref m3) = true)
    (md3 : ∃ fd, Fun K "_delimiter" "Reader._delimiter" Mg.sDelimiter m3 fd)
    (mk3 : PySem.W.keepIn K (.ref m3) = true)
    (ma4 : PySem.W.findIn K (.ref CR) "_row" = some (some (.ref m4)))
    (mi4 : PySem.W.isFn K (.ref m4) = true)
    (md4 : ∃ fd, Fun K "_row" "Reader._row" Mg.sRRow m4 fd)
    (mk4 : PySem.W.keepIn K (.ref m4) = true)
    (ma5 : PySem.W.findIn K (.ref CR) "_item" = some (some (.ref m5)))
    (mi5 : PySem.W.isFn K (.ref m5) = true)
    (md5 : ∃ fd, Fun K "_item" "Reader._item" Mg.sRItem m5 fd)
    (mk5 : PySem.W.keepIn K (.ref m5) = true)
    (ma6 : PySem.W.findIn K (.ref CR) "_nucleus" = some (some (.ref m6)))
    (mi6 : PySem.W.isFn K (.ref m6) = true)
    (md6 : ∃ fd, Fun K "_nucleus" "Reader._nucleus" Mg.sRNucleus m6 fd)
    (mk6 : PySem.W.keepIn K (.ref m6) = true)
    (ma7 : PySem.W.findIn K (.ref CR) "_braced" = some (some (.ref m7)))
    (mi7 : PySem.W.isFn K (.ref m7) = true)
    (md7 : ∃ fd, Fun K "_braced" "Reader._braced" Mg.sRBraced m7 fd)
    (mk7 : PySem.W.keepIn K (.ref m7) = true)
    (ma8 : PySem.W.findIn K (.ref CR) "_argument" = some (some (.ref m8)))
    (mi8 : PySem.W.isFn K (.ref m8) = true)
    (md8 : ∃ fd, Fun K "_argument" "Reader._argument" Mg.sArgument m8 fd)
    (mk8 : PySem.W.keepIn K (.ref m8) = true)
    (ma9 : PySem.W.findIn K (.ref CR) "_fence" = some (some (.ref m9)))
    (mi9 : PySem.W.isFn K (.ref m9) = true)
    (md9 : ∃ fd, Fun K "_fence" "Reader._fence" Mg.sRFence m9 fd)
    (mk9 : PySem.W.keepIn K (.ref m9) = true)
    (ma10 : PySem.W.findIn K (.ref CR) "_grid" = some (some (.ref m10)))
    (mi10 : PySem.W.isFn K (.ref m10) = true)
    (md10 : ∃ fd, Fun K "_grid" "Reader._grid" Mg.sRGrid m10 fd)
    (mk10 : PySem.W.keepIn K (.ref m10) = true)
    (ma11 : PySem.W.findIn K (.ref CR) "_cells" = some (some (.ref m11)))
    (mi11 : PySem.W.isFn K (.ref m11) = true)
    (md11 : ∃ fd, Fun K "_cells" "Reader._cells" Mg.sRCells m11 fd)
    (mk11 : PySem.W.keepIn K (.ref m11) = true)
    (ma12 : PySem.W.findIn K (.ref CR) "read" = some (some (.ref m12)))
    (mi12 : PySem.W.isFn K (.ref m12) = true)
    (md12 : ∃ fd, Fun K "read" "Reader.read" Mg.sRRead m12 fd)
    (mk12 : PySem.W.keepIn K (.ref m12) = true)
    (ma13 : PySem.W.findIn K (.ref CR) "__init__" = some (some (.ref m13)))
    (mi13 : PySem.W.isFn K (.ref m13) = true)
    (md13 : ∃ fd, Fun K "__init__" "Reader.__init__" Mg.sRInit m13 fd)
    (mk13 : PySem.W.keepIn K (.ref m13) = true)
    (a17 : PySem.W.nsIn K mainGlobals "text_of" = some (some (.ref f17)))
    (d17 : ∃ fd, Fun K "text_of" "text_of" Mg.sTextOf f17 fd)
    (k17 : PySem.W.keepIn K (.ref f17) = true)
    (a18 : PySem.W.nsIn K mainGlobals "check_formula" = some (some (.ref f18)))
    (d18 : ∃ fd, Fun K "check_formula" "check_formula" Mg.sCheckFormula f18 fd)
    (k18 : PySem.W.keepIn K (.ref f18) = true)
    (a19 : PySem.W.nsIn K mainGlobals "parse" = some (some (.ref f19)))
    (d19 : ∃ fd, Fun K "parse" "parse" Mg.sParse f19 fd)
    (k19 : PySem.W.keepIn K (.ref f19) = true)
    (xGG : PySem.W.exmOne K (.ref CG) (.ref CG) = some true)
    (xDG : PySem.W.exmOne K (.ref CD) (.ref CG) = some false)
    (xDD : PySem.W.exmOne K (.ref CD) (.ref CD) = some true)
    (xLG : PySem.W.exmOne K (.ref CL) (.ref CG) = some false)
    (xLD : PySem.W.exmOne K (.ref CL) (.ref CD) = some false)
    (xLL : PySem.W.exmOne K (.ref CL) (.ref CL) = some true)
    (xFG : PySem.W.exmOne K (.ref CF) (.ref CG) = some false)
    (xFD : PySem.W.exmOne K (.ref CF) (.ref CD) = some false)
    (xFL : PySem.W.exmOne K (.ref CF) (.ref CL) = some false)
    (xFF : PySem.W.exmOne K (.ref CF) (.ref CF) = some true)
    (ygcg : PySem.W.findIn K (.ref CG) "__getattribute__" = some (some (.builtin "BaseException.__getattribute__")))
    (ygck : PySem.W.findIn K (.ref CG) "__getattr__" = some none)
    (ygcd : PySem.W.hasDictIn K CG = true)
    (ygca : PySem.W.findIn K (.ref CG) "__class__" = some (some (.builtin "object.__class__")))
    (ygcn : PySem.W.specialIn K (.builtin "object.__class__") "__get__" = some (some (.builtin "getset_descriptor.__get__")))
    (ygct : PySem.W.takesIn K (.builtin "object.__class__") = some true)
    (ygcm : PySem.W.mroIn K CG (.type "object") = some true)
    (kG : PySem.W.kitOne K (.ref CG) (.ref CE) = some true)
    (ydcg : PySem.W.findIn K (.ref CD) "__getattribute__" = some (some (.builtin "BaseException.__getattribute__")))
    (ydck : PySem.W.findIn K (.ref CD) "__getattr__" = some none)
    (ydcd : PySem.W.hasDictIn K CD = true)
    (ydca : PySem.W.findIn K (.ref CD) "__class__" = some (some (.builtin "object.__class__")))
    (ydcn : PySem.W.specialIn K (.builtin "object.__class__") "__get__" = some (some (.builtin "getset_descriptor.__get__")))
    (ydct : PySem.W.takesIn K (.builtin "object.__class__") = some true)
    (ydcm : PySem.W.mroIn K CD (.type "object") = some true)
    (kD : PySem.W.kitOne K (.ref CD) (.ref CE) = some true)
    (ylcg : PySem.W.findIn K (.ref CL) "__getattribute__" = some (some (.builtin "BaseException.__getattribute__")))
    (ylck : PySem.W.findIn K (.ref CL) "__getattr__" = some none)
    (ylcd : PySem.W.hasDictIn K CL = true)
    (ylca : PySem.W.findIn K (.ref CL) "__class__" = some (some (.builtin "object.__class__")))
    (ylcn : PySem.W.specialIn K (.builtin "object.__class__") "__get__" = some (some (.builtin "getset_descriptor.__get__")))
    (ylct : PySem.W.takesIn K (.builtin "object.__class__") = some true)
    (ylcm : PySem.W.mroIn K CL (.type "object") = some true)
    (kL : PySem.W.kitOne K (.ref CL) (.ref CE) = some true)
    (z_isinstance : PySem.W.nsIn K mainGlobals "isinstance" = some none)
    (z_int : PySem.W.nsIn K mainGlobals "int" = some none)
    (a20 : PySem.W.nsIn K mainGlobals "_law_kind" = some (some (.ref f20)))
    (d20 : ∃ fd, Fun K "_law_kind" "_law_kind" Mg.Nw.sLKindL f20 fd)
    (k20 : PySem.W.keepIn K (.ref f20) = true)
    (a21 : PySem.W.nsIn K mainGlobals "_law_checked" = some (some (.ref f21)))
    (d21 : ∃ fd, Fun K "_law_checked" "_law_checked" Mg.Nw.sLChecked f21 fd)
    (k21 : PySem.W.keepIn K (.ref f21) = true)
    (a22 : PySem.W.nsIn K mainGlobals "_law_one" = some (some (.ref f22)))
    (d22 : ∃ fd, Fun K "_law_one" "_law_one" Mg.Nw.sLOneL f22 fd)
    (k22 : PySem.W.keepIn K (.ref f22) = true)
    (a23 : PySem.W.nsIn K mainGlobals "_law_nested" = some (some (.ref f23)))
    (d23 : ∃ fd, Fun K "_law_nested" "_law_nested" Mg.Nw.sLNested f23 fd)
    (k23 : PySem.W.keepIn K (.ref f23) = true)
    (z_reversed : PySem.W.nsIn K mainGlobals "reversed" = some none)
    (a24 : PySem.W.nsIn K mainGlobals "_law_cell" = some (some (.ref f24)))
    (d24 : ∃ fd, Fun K "_law_cell" "_law_cell" Mg.sCell f24 fd)
    (k24 : PySem.W.keepIn K (.ref f24) = true)
    (z_abs : PySem.W.nsIn K mainGlobals "abs" = some none)
    (z_range : PySem.W.nsIn K mainGlobals "range" = some none)
    (z_list : PySem.W.nsIn K mainGlobals "list" = some none)
    : ∃ fd : FuncData, (∀ (s : Shared) (v : Value), BindsTo s fd ⟨[v], []⟩ [("script", v)]) ∧ ∀ base : Heap, K.In base → base.Ns mainGlobals mg → FnOk P w K mg base CX0 62 fa fd ["script"] (spLaw K) := by
  have e := hfa.symm.trans (PySem.W.mg_of X G a0)
  cases e
  obtain ⟨fd0, F0⟩ := d0
  obtain ⟨fd1, F1⟩ := d1
  obtain ⟨fd2, F2⟩ := d2
  obtain ⟨fd3, F3⟩ := d3
  obtain ⟨fd4, F4⟩ := d4
  obtain ⟨fd5, F5⟩ := d5
  obtain ⟨fd6, F6⟩ := d6
  obtain ⟨fd7, F7⟩ := d7
  obtain ⟨fd8, F8⟩ := d8
  obtain ⟨fd9, F9⟩ := d9
  obtain ⟨fd10, F10⟩ := d10
  obtain ⟨fd11, F11⟩ := d11
  obtain ⟨fd12, F12⟩ := d12
  obtain ⟨fd13, F13⟩ := d13
  obtain ⟨fd14, F14⟩ := d14
  obtain ⟨fd15, F15⟩ := d15
  obtain ⟨fd16, F16⟩ := d16
  obtain ⟨fd17, F17⟩ := d17
  obtain ⟨fd18, F18⟩ := d18
  obtain ⟨fd19, F19⟩ := d19
  obtain ⟨fd20, F20⟩ := d20
  obtain ⟨fd21, F21⟩ := d21
  obtain ⟨fd22, F22⟩ := d22
  obtain ⟨fd23, F23⟩ := d23
  obtain ⟨fd24, F24⟩ := d24
  obtain ⟨fm0, M0⟩ := md0
  obtain ⟨fm1, M1⟩ := md1
  obtain ⟨fm2, M2⟩ := md2
  obtain ⟨fm3, M3⟩ := md3
  obtain ⟨fm4, M4⟩ := md4
  obtain ⟨fm5, M5⟩ := md5
  obtain ⟨fm6, M6⟩ := md6
  obtain ⟨fm7, M7⟩ := md7
  obtain ⟨fm8, M8⟩ := md8
  obtain ⟨fm9, M9⟩ := md9
  obtain ⟨fm10, M10⟩ := md10
  obtain ⟨fm11, M11⟩ := md11
  obtain ⟨fm12, M12⟩ := md12
  obtain ⟨fm13, M13⟩ := md13
  have b0 : Binds K _ ["script"] [] := F0.binds (ps := ["script"]) fun _ _ _ _ _ _ us hl => match us, hl with | [_], _ => rfl
  have b1 : Binds K _ ["nucleus"] [] := F1.binds (ps := ["nucleus"]) fun _ _ _ _ _ _ us hl => match us, hl with | [_], _ => rfl
  have b2 : Binds K _ ["item"] [] := F2.binds (ps := ["item"]) fun _ _ _ _ _ _ us hl => match us, hl with | [_], _ => rfl
  have b3 : Binds K _ ["formula"] [] := F3.binds (ps := ["formula"]) fun _ _ _ _ _ _ us hl => match us, hl with | [_], _ => rfl
  have b4 : Binds K _ ["row"] [] := F4.binds (ps := ["row"]) fun _ _ _ _ _ _ us hl => match us, hl with | [_], _ => rfl
  have b5 : Binds K _ ["row"] [] := F5.binds (ps := ["row"]) fun _ _ _ _ _ _ us hl => match us, hl with | [_], _ => rfl
  have b6 : Binds K _ ["nucleus"] [] := F6.binds (ps := ["nucleus"]) fun _ _ _ _ _ _ us hl => match us, hl with | [_], _ => rfl
  have b7 : Binds K _ ["opening", "closing", "row"] [] := F7.binds (ps := ["opening", "closing", "row"]) fun _ _ _ _ _ _ us hl => match us, hl with | [_, _, _], _ => rfl
  have b8 : Binds K _ ["rows"] [] := F8.binds (ps := ["rows"]) fun _ _ _ _ _ _ us hl => match us, hl with | [_], _ => rfl
  have b9 : Binds K _ ["row"] [] := F9.binds (ps := ["row"]) fun _ _ _ _ _ _ us hl => match us, hl with | [_], _ => rfl
  have b10 : Binds K _ ["word"] [] := F10.binds (ps := ["word"]) fun _ _ _ _ _ _ us hl => match us, hl with | [_], _ => rfl
  have b11 : Binds K _ ["word"] [] := F11.binds (ps := ["word"]) fun _ _ _ _ _ _ us hl => match us, hl with | [_], _ => rfl
  have b12 : Binds K _ ["text", "at"] [] := F12.binds (ps := ["text", "at"]) fun _ _ _ _ _ _ us hl => match us, hl with | [_, _], _ => rfl
  have b13 : Binds K _ ["text", "at"] [] := F13.binds (ps := ["text", "at"]) fun _ _ _ _ _ _ us hl => match us, hl with | [_, _], _ => rfl
  have b14 : Binds K _ ["text"] [] := F14.binds (ps := ["text"]) fun _ _ _ _ _ _ us hl => match us, hl with | [_], _ => rfl
  have b15 : Binds K _ ["depth"] [] := F15.binds (ps := ["depth"]) fun _ _ _ _ _ _ us hl => match us, hl with | [_], _ => rfl
  have b16 : Binds K _ ["count", "many", "ends"] [] := F16.binds (ps := ["count", "many", "ends"]) fun _ _ _ _ _ _ us hl => match us, hl with | [_, _, _], _ => rfl
  have b17 : Binds K _ ["formula"] [] := F17.binds (ps := ["formula"]) fun _ _ _ _ _ _ us hl => match us, hl with | [_], _ => rfl
  have b18 : Binds K _ ["formula"] [] := F18.binds (ps := ["formula"]) fun _ _ _ _ _ _ us hl => match us, hl with | [_], _ => rfl
  have b19 : Binds K _ ["text"] [] := F19.binds (ps := ["text"]) fun _ _ _ _ _ _ us hl => match us, hl with | [_], _ => rfl
  have b20 : Binds K _ ["text"] [] := F20.binds (ps := ["text"]) fun _ _ _ _ _ _ us hl => match us, hl with | [_], _ => rfl
  have b21 : Binds K _ ["formula"] [] := F21.binds (ps := ["formula"]) fun _ _ _ _ _ _ us hl => match us, hl with | [_], _ => rfl
  have b22 : Binds K _ ["name"] [] := F22.binds (ps := ["name"]) fun _ _ _ _ _ _ us hl => match us, hl with | [_], _ => rfl
  have b23 : Binds K _ ["kinds"] [] := F23.binds (ps := ["kinds"]) fun _ _ _ _ _ _ us hl => match us, hl with | [_], _ => rfl
  have b24 : Binds K _ ["script", "k"] [] := F24.binds (ps := ["script", "k"]) fun _ _ _ _ _ _ us hl => match us, hl with | [_, _], _ => rfl
  have mb0 : Binds K _ ["self"] [] := M0.binds (ps := ["self"]) fun _ _ _ _ _ _ us hl => match us, hl with | [_], _ => rfl
  have mb1 : Binds K _ ["self", "wanted"] [] := M1.binds (ps := ["self", "wanted"]) fun _ _ _ _ _ _ us hl => match us, hl with | [_, _], _ => rfl
  have mb2 : Binds K _ ["self"] [] := M2.binds (ps := ["self"]) fun _ _ _ _ _ _ us hl => match us, hl with | [_], _ => rfl
  have mb3 : Binds K _ ["self"] [] := M3.binds (ps := ["self"]) fun _ _ _ _ _ _ us hl => match us, hl with | [_], _ => rfl
  have mb4 : Binds K _ ["self", "depth", "stops"] [] := M4.binds (ps := ["self", "depth", "stops"]) fun _ _ _ _ _ _ us hl => match us, hl with | [_, _, _], _ => rfl
  have mb5 : Binds K _ ["self", "depth"] [] := M5.binds (ps := ["self", "depth"]) fun _ _ _ _ _ _ us hl => match us, hl with | [_, _], _ => rfl
  have mb6 : Binds K _ ["self", "depth"] [] := M6.binds (ps := ["self", "depth"]) fun _ _ _ _ _ _ us hl => match us, hl with | [_, _], _ => rfl
  have mb7 : Binds K _ ["self", "depth"] [] := M7.binds (ps := ["self", "depth"]) fun _ _ _ _ _ _ us hl => match us, hl with | [_, _], _ => rfl
  have mb8 : Binds K _ ["self", "depth"] [] := M8.binds (ps := ["self", "depth"]) fun _ _ _ _ _ _ us hl => match us, hl with | [_, _], _ => rfl
  have mb9 : Binds K _ ["self", "depth"] [] := M9.binds (ps := ["self", "depth"]) fun _ _ _ _ _ _ us hl => match us, hl with | [_, _], _ => rfl
  have mb10 : Binds K _ ["self", "depth"] [] := M10.binds (ps := ["self", "depth"]) fun _ _ _ _ _ _ us hl => match us, hl with | [_, _], _ => rfl
  have mb11 : Binds K _ ["self", "depth", "many", "ends"] [] := M11.binds (ps := ["self", "depth", "many", "ends"]) fun _ _ _ _ _ _ us hl => match us, hl with | [_, _, _, _], _ => rfl
  have mb12 : Binds K _ ["self"] [] := M12.binds (ps := ["self"]) fun _ _ _ _ _ _ us hl => match us, hl with | [_], _ => rfl
  have mb13 : Binds K _ ["self", "text"] [] := M13.binds (ps := ["self", "text"]) fun _ _ _ _ _ _ us hl => match us, hl with | [_, _], _ => rfl
  refine ⟨fd0, (by obtain ⟨_, _, _, _, _, _, _, _, _, e, _, _⟩ := F0.ex; rw [e]; exact fun s v => .of_eq rfl), fun base _ _ => ?_⟩
  have EB_CG : ExB K mg "TooLong" CG := ⟨(PySem.W.mg_of X G g_TooLong), ygx, ygk, ygb, ygt⟩
  have EB_CD : ExB K mg "TooDeep" CD := ⟨(PySem.W.mg_of X G g_TooDeep), ydx, ydk, ydb, ydt⟩
  have EB_CL : ExB K mg "TooLarge" CL := ⟨(PySem.W.mg_of X G g_TooLarge), ylx, ylk, ylb, ylt⟩
  obtain ⟨u1, u2, u3, u4, u5, u6, u7, ufn⟩ := ufn
  obtain ⟨v1, v2, v3, v4, v5, v6, v7, v8, v9⟩ := uda
  have TU : PySem.MrU.UTxt P K mg "SyntaxFault" "SyntaxFault.__init__" "the text cannot go on at place " CF fU ccU :=
    { gC := (PySem.W.mg_of X G g_SyntaxFault), cls := uL, sa := usa, noN := un, iC := ui, tC := ut, kC := uk, exC := ub, tyC := uty, hC := uV, alg := ual, op := uop, cell := ucc, sup := (PySem.W.mg_none_of X G z_super), own := uo, htop := uht,
      fn := ⟨u1, u2, u3, u4, u5, cdaU, u6, u7, _, _, _, _, _, _, _, _, _, _, _, _, _, _, _, ufn, ucd, rfl, v1, v2, v3, v4, v5, v6, v7, v8, v9⟩ }
  have UF : Mg.MkF P K mg CF := Mg.mkF TU (show ("the text cannot go on at place " : Str).length ≤ 1000 by decide +kernel)
  have q_nucleus_rows : Cal P w K mg base _ _ "nucleus_rows" _ _ := ⟨f1, fd1, ok_nucrows F1, PySem.W.mg_of X G a1, k1, b1⟩
  have q_rows_in : Cal P w K mg base _ _ "rows_in" _ _ := ⟨f2, fd2, ok_rowsin F2 q_nucleus_rows, PySem.W.mg_of X G a2, k2, b2⟩
  have q_rowsof := fun n => ok_rowsof (P := P) (w := w) (base := base) F3 q_rows_in (PySem.W.mg_of X G a3) k3 b3 n
  have q_words := fun n => words_ok (P := P) (w := w) (base := base) F4 F5 F6 F7 F8 ⟨PySem.W.mg_of X G a4, k4, b4⟩ ⟨PySem.W.mg_of X G a5, k5, b5⟩ ⟨PySem.W.mg_of X G a6, k6, b6⟩ ⟨PySem.W.mg_of X G a7, k7, b7⟩ ⟨PySem.W.mg_of X G a8, k8, b8⟩ n
  have T_TxtSrc : TxtSrc mg := { b_len := (PySem.W.mg_none_of X G z_len), b_max := (PySem.W.mg_none_of X G z_max), b_sum := (PySem.W.mg_none_of X G z_sum), b_enumerate := (PySem.W.mg_none_of X G z_enumerate), c_LETTERS := (Hk.mg_ex X G c_LETTERS), c_DEEPEST := (Hk.mg_ex X G c_DEEPEST), c_MOST_ITEMS := (Hk.mg_ex X G c_MOST_ITEMS), c_LONGEST := (Hk.mg_ex X G c_LONGEST) }
  have q_depth := fun n => ok_depthof (P := P) (w := w) (base := base) F9 T_TxtSrc q_rows_in (PySem.W.mg_of X G a9) k9 b9 n
  have T_TxtS : TxtS K mg aR := { b_len := (PySem.W.mg_none_of X G z_len), b_all := (PySem.W.mg_none_of X G z_all), c_LETTERS := (Hk.mg_ex X G c_LETTERS), c_SIGNS := (Hk.mg_ex X G c_SIGNS), c_MOST_LETTERS := (Hk.mg_ex X G c_MOST_LETTERS), c_RESERVED := (PySem.W.mg_of X G c_RESERVED), k_RESERVED := k_RESERVED }
  have q_is_command : Cal P w K mg base _ _ "is_command" _ _ := ⟨f10, fd10, ok_is_command F10 T_TxtS, PySem.W.mg_of X G a10, k10, b10⟩
  have q_is_symbol : Cal P w K mg base _ _ "is_symbol" _ _ := ⟨f11, fd11, ok_is_symbol F11 T_TxtS q_is_command, PySem.W.mg_of X G a11, k11, b11⟩
  have T_TxtTok : TxtTok mg := { b_len := (PySem.W.mg_none_of X G z_len), c_LETTERS := (Hk.mg_ex X G c_LETTERS), c_SIGNS := (Hk.mg_ex X G c_SIGNS), c_MARKS := (Hk.mg_ex X G c_MARKS), c_BAD := (Hk.mg_ex X G c_BAD), c_END := (Hk.mg_ex X G c_END) }
  have q__command_at : Cal P w K mg base _ _ "_command_at" _ _ := ⟨f12, fd12, ok_cmdat F12 T_TxtTok q_is_command, PySem.W.mg_of X G a12, k12, b12⟩
  have q__token_at : Cal P w K mg base _ _ "_token_at" _ _ := ⟨f13, fd13, ok_tokat F13 T_TxtTok q__command_at, PySem.W.mg_of X G a13, k13, b13⟩
  have q_tokens_of : Cal P w K mg base _ _ "tokens_of" _ _ := ⟨f14, fd14, ok_tokens F14 T_TxtTok q__token_at, PySem.W.mg_of X G a14, k14, b14⟩
  have q_check_depth : Cal P w K mg base _ _ "check_depth" _ _ := ⟨f15, fd15, ok_checkdepth F15 T_TxtSrc EB_CD, PySem.W.mg_of X G a15, k15, b15⟩
  have T_TxtR : TxtR K CR := { cl := ⟨pg_CR, hd_CR, po_CR, sa_CR⟩, nT := no_CR__tokens, nA := no_CR__at }
  have T_TxtRd : TxtRd K mg CR := { T_TxtR with b_len := (PySem.W.mg_none_of X G z_len), b_tuple := (PySem.W.mg_none_of X G z_tuple), c_END := (Hk.mg_ex X G c_END), c_DEEPEST := (Hk.mg_ex X G c_DEEPEST), c_MOST_CELLS := (Hk.mg_ex X G c_MOST_CELLS) }
  have q_cell_stops : Cal P w K mg base _ _ "cell_stops" _ _ := ⟨f16, fd16, ok_cellstops F16 T_TxtRd, PySem.W.mg_of X G a16, k16, b16⟩
  have q__peek : CalM P w K mg base _ _ CR "_peek" _ _ := ⟨m0, fm0, Pm.ok_peekx (CF := CF) (CD := CD)  M0 T_TxtRd, ⟨ma0, mi0, mk0⟩, mb0⟩
  have q__accept : CalM P w K mg base _ _ CR "_accept" _ _ := ⟨m1, fm1, Pm.ok_acceptx (CF := CF) (CD := CD)  M1 T_TxtRd UF, ⟨ma1, mi1, mk1⟩, mb1⟩
  have q__symbol : CalM P w K mg base _ _ CR "_symbol" _ _ := ⟨m2, fm2, Pm.ok_rsymbolx (CF := CF) (CD := CD)  M2 T_TxtRd UF q_is_symbol, ⟨ma2, mi2, mk2⟩, mb2⟩
  have q__delimiter : CalM P w K mg base _ _ CR "_delimiter" _ _ := ⟨m3, fm3, Pm.ok_delimiterx (CF := CF) (CD := CD)  M3 T_TxtRd q__symbol, ⟨ma3, mi3, mk3⟩, mb3⟩
  have q_read0 := Pm.read_okx (P := P) (w := w) (base := base) (CF := CF) (CD := CD) T_TxtRd q__peek q__accept q__symbol q__delimiter q_check_depth q_cell_stops M4 M5 M6 M7 M8 M9 M10 M11 ⟨⟨ma4, mi4, mk4⟩, mb4⟩ ⟨⟨ma5, mi5, mk5⟩, mb5⟩ ⟨⟨ma6, mi6, mk6⟩, mb6⟩ ⟨⟨ma7, mi7, mk7⟩, mb7⟩ ⟨⟨ma8, mi8, mk8⟩, mb8⟩ ⟨⟨ma9, mi9, mk9⟩, mb9⟩ ⟨⟨ma10, mi10, mk10⟩, mb10⟩ ⟨⟨ma11, mi11, mk11⟩, mb11⟩ 9
  have q_read : CalM P w K mg base _ _ CR "read" _ _ := ⟨m12, fm12, Pm.ok_rreadx (n := 9) M12 T_TxtRd q_read0, ⟨ma12, mi12, mk12⟩, mb12⟩
  have T_MkR : Pm.MkR P w K mg base CR := ⟨m13, fm13, Pm.ok_rinitx  M13 T_TxtRd q_tokens_of, ⟨mkc_CR, ma13, mi13, kc_CR⟩, mb13⟩
  have q_text_of : Cal P w K mg base _ _ "text_of" _ _ := ⟨f17, fd17, ok_textof (n := 9) F17 T_TxtSrc (q_words 9).row, PySem.W.mg_of X G a17, k17, b17⟩
  have q_check_formula : Cal P w K mg base _ _ "check_formula" _ _ := ⟨f18, fd18, ok_checkformula (n := 9) F18 T_TxtSrc EB_CL (by decide) q_check_depth (q_depth 9) (q_rowsof 9) q_text_of, PySem.W.mg_of X G a18, k18, b18⟩
  have TP : Pm.TxtP P w K mg base CR := { T_TxtSrc with cl := ⟨pg_CR, hd_CR, po_CR, sa_CR⟩, g_Reader := (PySem.W.mg_of X G g_Reader), mkR := T_MkR }
  have q_parse : Cal P w K mg base _ _ "parse" _ _ := ⟨f19, fd19, Pm.ok_parsex F19 TP EB_CG q_read q_check_formula, PySem.W.mg_of X G a19, k19, b19⟩
  have T_TxtK2 : TxtK2 K mg CF CD CL CG CE := { g_TooLong := (PySem.W.mg_of X G g_TooLong), g_TooDeep := (PySem.W.mg_of X G g_TooDeep), g_TooLarge := (PySem.W.mg_of X G g_TooLarge), g_SyntaxFault := (PySem.W.mg_of X G g_SyntaxFault), g_SetError := (PySem.W.mg_of X G g_SetError), b_isinstance := (PySem.W.mg_none_of X G z_isinstance), b_int := (PySem.W.mg_none_of X G z_int), xGG := xGG, xDG := xDG, xDD := xDD, xLG := xLG, xLD := xLD, xLL := xLL, xFG := xFG, xFD := xFD, xFL := xFL, xFF := xFF, ecG := ⟨ygcg, ygck, ygb, ygcd, ygca, ygcn, ygct, ygcm⟩, ecD := ⟨ydcg, ydck, ydb, ydcd, ydca, ydcn, ydct, ydcm⟩, ecL := ⟨ylcg, ylck, ylb, ylcd, ylca, ylcn, ylct, ylcm⟩, kG := kG, kD := kD, kL := kL }
  have q__law_kind : Cal P w K mg base _ _ "_law_kind" _ _ := ⟨f20, fd20, ok_lkindl F20 T_TxtK2 q_parse, PySem.W.mg_of X G a20, k20, b20⟩
  have q__law_checked : Cal P w K mg base _ _ "_law_checked" _ _ := ⟨f21, fd21, ok_lchecked F21 T_TxtK2 q_check_formula, PySem.W.mg_of X G a21, k21, b21⟩
  have q__law_one : Cal P w K mg base _ _ "_law_one" _ _ := ⟨f22, fd22, ok_lonel F22, PySem.W.mg_of X G a22, k22, b22⟩
  have T_TxtNe : TxtNe mg := { b_reversed := (PySem.W.mg_none_of X G z_reversed), b_int := (PySem.W.mg_none_of X G z_int) }
  have q__law_nested : Cal P w K mg base _ _ "_law_nested" _ _ := ⟨f23, fd23, ok_lnested F23 T_TxtNe, PySem.W.mg_of X G a23, k23, b23⟩
  have T_TxtB : TxtB mg := { b_len := (PySem.W.mg_none_of X G z_len), b_int := (PySem.W.mg_none_of X G z_int), b_abs := (PySem.W.mg_none_of X G z_abs), range := (PySem.W.mg_none_of X G z_range), b_isinstance := (PySem.W.mg_none_of X G z_isinstance), b_tuple := (PySem.W.mg_none_of X G z_tuple), b_list := (PySem.W.mg_none_of X G z_list) }
  have q__law_cell : Cal P w K mg base _ _ "_law_cell" _ _ := ⟨f24, fd24, ok_cell F24 T_TxtB, PySem.W.mg_of X G a24, k24, b24⟩
  exact ok_law F0 { b_int := (PySem.W.mg_none_of X G z_int), range := (PySem.W.mg_none_of X G z_range), kind := q__law_kind, checked := q__law_checked, nested := q__law_nested, one := q__law_one, cell := q__law_cell }
end
end Mg.Nw
set_option Elab.async false
set_option linter.all false
set_option maxRecDepth 100000
set_option maxHeartbeats 0
namespace Mg.Nw
open PySem PySem.Spec PyProof.Rows L2 He Hk
theorem facts {w : World} {K : PySem.W.Frag} {h : Heap} {mg : Str → Option Value} {f : Addr} (X : K.In h) (G : h.Ns mainGlobals mg) (hfa : mg ("law" : Str) = some (.ref f)) (c : SaysU chk fnl tbl usl w K) :
    ∃ fd : FuncData, (∀ (s : Shared) (v : Value), BindsTo s fd ⟨[v], []⟩ [("script", v)]) ∧ ∀ base : Heap, K.In base → base.Ns mainGlobals mg → FnOk RW.prog w K mg base CX0 62 f fd ["script"] (spLaw K) := by
  have q : ∀ (i : Nat) {b : Bool}, (chks K)[i]? = some b → b = true := fun i {b} e => chk_at c.ex i e
  have h_a0 := of_decide_eq_true (q 0 rfl)
  have h_d0 := fun_of (x := "law") (q := "law") (s := Mg.Nw.sLimLaw) (f := ga K "law") (c.def_ 0 rfl)
  have h_k0 := q 1 rfl
  have h_g_TooLong := of_decide_eq_true (q 2 rfl)
  have h_ygx := q 3 rfl
  have h_ygk := q 4 rfl
  have h_ygb := of_decide_eq_true (q 5 rfl)
  have h_ygt := of_decide_eq_true (q 6 rfl)
  have h_g_TooDeep := of_decide_eq_true (q 7 rfl)
  have h_ydx := q 8 rfl
  have h_ydk := q 9 rfl
  have h_ydb := of_decide_eq_true (q 10 rfl)
  have h_ydt := of_decide_eq_true (q 11 rfl)
  have h_g_TooLarge := of_decide_eq_true (q 12 rfl)
  have h_ylx := q 13 rfl
  have h_ylk := q 14 rfl
  have h_ylb := of_decide_eq_true (q 15 rfl)
  have h_ylt := of_decide_eq_true (q 16 rfl)
  have h_g_SyntaxFault := of_decide_eq_true (q 17 rfl)
  have h_uL := uCls_ok (q 18 rfl)
  have h_usa := of_decide_eq_true (q 19 rfl)
  have h_un := of_decide_eq_true (q 20 rfl)
  have h_ui := of_decide_eq_true (q 21 rfl)
  have h_ut := of_decide_eq_true (q 22 rfl)
  have h_uk := q 23 rfl
  have h_ub := of_decide_eq_true (q 24 rfl)
  have h_uty := of_decide_eq_true (q 25 rfl)
  have h_uV := of_decide_eq_true (q 26 rfl)
  have h_uo := of_decide_eq_true (q 27 rfl)
  have h_ual := of_decide_eq_true (q 28 rfl)
  have h_uop := of_decide_eq_true (q 29 rfl)
  have h_ufn := fnC_ok (c.fnc 0) (q 30 rfl)
  have h_ucd := q 31 rfl
  have h_ucc := cell_ok (q 32 rfl)
  have h_uda := file_ok (q 33 rfl)
  have h_z_super := of_decide_eq_true (q 34 rfl)
  have h_g_SetError := of_decide_eq_true (q 35 rfl)
  have h_a1 := of_decide_eq_true (q 36 rfl)
  have h_d1 := fun_of (x := "nucleus_rows") (q := "nucleus_rows") (s := Mg.sNucRows) (f := ga K "nucleus_rows") (c.def_ 1 rfl)
  have h_k1 := q 37 rfl
  have h_a2 := of_decide_eq_true (q 38 rfl)
  have h_d2 := fun_of (x := "rows_in") (q := "rows_in") (s := Mg.sRowsIn) (f := ga K "rows_in") (c.def_ 2 rfl)
  have h_k2 := q 39 rfl
  have h_a3 := of_decide_eq_true (q 40 rfl)
  have h_d3 := fun_of (x := "rows_of") (q := "rows_of") (s := Mg.sRowsOf) (f := ga K "rows_of") (c.def_ 3 rfl)
  have h_k3 := q 41 rfl
  have h_a4 := of_decide_eq_true (q 42 rfl)
  have h_d4 := fun_of (x := "row_words") (q := "row_words") (s := Mg.sRowWords) (f := ga K "row_words") (c.def_ 4 rfl)
  have h_k4 := q 43 rfl
  have h_a5 := of_decide_eq_true (q 44 rfl)
  have h_d5 := fun_of (x := "braced_words") (q := "braced_words") (s := Mg.sBraced) (f := ga K "braced_words") (c.def_ 5 rfl)
  have h_k5 := q 45 rfl
  have h_a6 := of_decide_eq_true (q 46 rfl)
  have h_d6 := fun_of (x := "nucleus_words") (q := "nucleus_words") (s := Mg.sNucWords) (f := ga K "nucleus_words") (c.def_ 6 rfl)
  have h_k6 := q 47 rfl
  have h_a7 := of_decide_eq_true (q 48 rfl)
  have h_d7 := fun_of (x := "fence_words") (q := "fence_words") (s := Mg.sFenceW) (f := ga K "fence_words") (c.def_ 7 rfl)
  have h_k7 := q 49 rfl
  have h_a8 := of_decide_eq_true (q 50 rfl)
  have h_d8 := fun_of (x := "grid_words") (q := "grid_words") (s := Mg.sGridW) (f := ga K "grid_words") (c.def_ 8 rfl)
  have h_k8 := q 51 rfl
  have h_z_len := of_decide_eq_true (q 52 rfl)
  have h_z_max := of_decide_eq_true (q 53 rfl)
  have h_z_sum := of_decide_eq_true (q 54 rfl)
  have h_z_enumerate := of_decide_eq_true (q 55 rfl)
  have h_c_LETTERS := Hk.strN (q 56 rfl)
  have h_c_DEEPEST := Hk.intN (q 57 rfl)
  have h_c_MOST_ITEMS := Hk.intN (q 58 rfl)
  have h_c_LONGEST := Hk.intN (q 59 rfl)
  have h_a9 := of_decide_eq_true (q 60 rfl)
  have h_d9 := fun_of (x := "depth_of") (q := "depth_of") (s := Mg.sDepthOf) (f := ga K "depth_of") (c.def_ 9 rfl)
  have h_k9 := q 61 rfl
  have h_g_Reader := of_decide_eq_true (q 62 rfl)
  have h_pg_CR := q 63 rfl
  have h_hd_CR := q 64 rfl
  have h_po_CR := q 65 rfl
  have h_sa_CR := of_decide_eq_true (q 66 rfl)
  have h_mkc_CR := q 67 rfl
  have h_kc_CR := q 68 rfl
  have h_a10 := of_decide_eq_true (q 69 rfl)
  have h_d10 := fun_of (x := "is_command") (q := "is_command") (s := Mg.sIsCommand) (f := ga K "is_command") (c.def_ 10 rfl)
  have h_k10 := q 70 rfl
  have h_z_all := of_decide_eq_true (q 71 rfl)
  have h_c_SIGNS := Hk.strN (q 72 rfl)
  have h_c_MOST_LETTERS := Hk.intN (q 73 rfl)
  have h_c_RESERVED := of_decide_eq_true (q 74 rfl)
  have h_k_RESERVED := Hk.seqB_ok (q 75 rfl)
  have h_a11 := of_decide_eq_true (q 76 rfl)
  have h_d11 := fun_of (x := "is_symbol") (q := "is_symbol") (s := Mg.sIsSymbol) (f := ga K "is_symbol") (c.def_ 11 rfl)
  have h_k11 := q 77 rfl
  have h_a12 := of_decide_eq_true (q 78 rfl)
  have h_d12 := fun_of (x := "_command_at") (q := "_command_at") (s := Mg.sCommandAt) (f := ga K "_command_at") (c.def_ 12 rfl)
  have h_k12 := q 79 rfl
  have h_c_MARKS := Hk.strN (q 80 rfl)
  have h_c_BAD := Hk.strN (q 81 rfl)
  have h_c_END := Hk.strN (q 82 rfl)
  have h_a13 := of_decide_eq_true (q 83 rfl)
  have h_d13 := fun_of (x := "_token_at") (q := "_token_at") (s := Mg.sTokenAt) (f := ga K "_token_at") (c.def_ 13 rfl)
  have h_k13 := q 84 rfl
  have h_a14 := of_decide_eq_true (q 85 rfl)
  have h_d14 := fun_of (x := "tokens_of") (q := "tokens_of") (s := Mg.sTokensOf) (f := ga K "tokens_of") (c.def_ 14 rfl)
  have h_k14 := q 86 rfl
  have h_a15 := of_decide_eq_true (q 87 rfl)
  have h_d15 := fun_of (x := "check_depth") (q := "check_depth") (s := Mg.sCheckDepth) (f := ga K "check_depth") (c.def_ 15 rfl)
  have h_k15 := q 88 rfl
  have h_a16 := of_decide_eq_true (q 89 rfl)
  have h_d16 := fun_of (x := "cell_stops") (q := "cell_stops") (s := Mg.sCellStops) (f := ga K "cell_stops") (c.def_ 16 rfl)
  have h_k16 := q 90 rfl
  have h_no_CR__tokens := of_decide_eq_true (q 91 rfl)
  have h_no_CR__at := of_decide_eq_true (q 92 rfl)
  have h_z_tuple := of_decide_eq_true (q 93 rfl)
  have h_c_MOST_CELLS := Hk.intN (q 94 rfl)
  have h_ma0 := of_decide_eq_true (q 95 rfl)
  have h_mi0 := q 96 rfl
  have h_md0 := fun_of (x := "_peek") (q := "Reader._peek") (s := Mg.sPeek) (f := ma K (ga K "Reader") "_peek") (c.def_ 17 rfl)
  have h_mk0 := q 97 rfl
  have h_ma1 := of_decide_eq_true (q 98 rfl)
  have h_mi1 := q 99 rfl
  have h_md1 := fun_of (x := "_accept") (q := "Reader._accept") (s := Mg.sAccept) (f := ma K (ga K "Reader") "_accept") (c.def_ 18 rfl)
  have h_mk1 := q 100 rfl
  have h_ma2 := of_decide_eq_true (q 101 rfl)
  have h_mi2 := q 102 rfl
  have h_md2 := fun_of (x := "_symbol") (q := "Reader._symbol") (s := Mg.sRSymbol) (f := ma K (ga K "Reader") "_symbol") (c.def_ 19 rfl)
  have h_mk2 := q 103 rfl
  have h_ma3 := of_decide_eq_true (q 104 rfl)
  have h_mi3 := q 105 rfl
  have h_md3 := fun_of (x := "_delimiter") (q := "Reader._delimiter") (s := Mg.sDelimiter) (f := ma K (ga K "Reader") "_delimiter") (c.def_ 20 rfl)
  have h_mk3 := q 106 rfl
  have h_ma4 := of_decide_eq_true (q 107 rfl)
  have h_mi4 := q 108 rfl
  have h_md4 := fun_of (x := "_row") (q := "Reader._row") (s := Mg.sRRow) (f := ma K (ga K "Reader") "_row") (c.def_ 21 rfl)
  have h_mk4 := q 109 rfl
  have h_ma5 := of_decide_eq_true (q 110 rfl)
  have h_mi5 := q 111 rfl
  have h_md5 := fun_of (x := "_item") (q := "Reader._item") (s := Mg.sRItem) (f := ma K (ga K "Reader") "_item") (c.def_ 22 rfl)
  have h_mk5 := q 112 rfl
  have h_ma6 := of_decide_eq_true (q 113 rfl)
  have h_mi6 := q 114 rfl
  have h_md6 := fun_of (x := "_nucleus") (q := "Reader._nucleus") (s := Mg.sRNucleus) (f := ma K (ga K "Reader") "_nucleus") (c.def_ 23 rfl)
  have h_mk6 := q 115 rfl
  have h_ma7 := of_decide_eq_true (q 116 rfl)
  have h_mi7 := q 117 rfl
  have h_md7 := fun_of (x := "_braced") (q := "Reader._braced") (s := Mg.sRBraced) (f := ma K (ga K "Reader") "_braced") (c.def_ 24 rfl)
  have h_mk7 := q 118 rfl
  have h_ma8 := of_decide_eq_true (q 119 rfl)
  have h_mi8 := q 120 rfl
  have h_md8 := fun_of (x := "_argument") (q := "Reader._argument") (s := Mg.sArgument) (f := ma K (ga K "Reader") "_argument") (c.def_ 25 rfl)
  have h_mk8 := q 121 rfl
  have h_ma9 := of_decide_eq_true (q 122 rfl)
  have h_mi9 := q 123 rfl
  have h_md9 := fun_of (x := "_fence") (q := "Reader._fence") (s := Mg.sRFence) (f := ma K (ga K "Reader") "_fence") (c.def_ 26 rfl)
  have h_mk9 := q 124 rfl
  have h_ma10 := of_decide_eq_true (q 125 rfl)
  have h_mi10 := q 126 rfl
  have h_md10 := fun_of (x := "_grid") (q := "Reader._grid") (s := Mg.sRGrid) (f := ma K (ga K "Reader") "_grid") (c.def_ 27 rfl)
  have h_mk10 := q 127 rfl
  have h_ma11 := of_decide_eq_true (q 128 rfl)
  have h_mi11 := q 129 rfl
  have h_md11 := fun_of (x := "_cells") (q := "Reader._cells") (s := Mg.sRCells) (f := ma K (ga K "Reader") "_cells") (c.def_ 28 rfl)
  have h_mk11 := q 130 rfl
  have h_ma12 := of_decide_eq_true (q 131 rfl)
  have h_mi12 := q 132 rfl
  have h_md12 := fun_of (x := "read") (q := "Reader.read") (s := Mg.sRRead) (f := ma K (ga K "Reader") "read") (c.def_ 29 rfl)
  have h_mk12 := q 133 rfl
  have h_ma13 := of_decide_eq_true (q 134 rfl)
  have h_mi13 := q 135 rfl
  have h_md13 := fun_of (x := "__init__") (q := "Reader.__init__") (s := Mg.sRInit) (f := ma K (ga K "Reader") "__init__") (c.def_ 30 rfl)
  have h_mk13 := q 136 rfl
  have h_a17 := of_decide_eq_true (q 137 rfl)
  have h_d17 := fun_of (x := "text_of") (q := "text_of") (s := Mg.sTextOf) (f := ga K "text_of") (c.def_ 31 rfl)
  have h_k17 := q 138 rfl
  have h_a18 := of_decide_eq_true (q 139 rfl)
  have h_d18 := fun_of (x := "check_formula") (q := "check_formula") (s := Mg.sCheckFormula) (f := ga K "check_formula") (c.def_ 32 rfl)
  have h_k18 := q 140 rfl
  have h_a19 := of_decide_eq_true (q 141 rfl)
  have h_d19 := fun_of (x := "parse") (q := "parse") (s := Mg.sParse) (f := ga K "parse") (c.def_ 33 rfl)
  have h_k19 := q 142 rfl
  have h_xGG := of_decide_eq_true (q 143 rfl)
  have h_xDG := of_decide_eq_true (q 144 rfl)
  have h_xDD := of_decide_eq_true (q 145 rfl)
  have h_xLG := of_decide_eq_true (q 146 rfl)
  have h_xLD := of_decide_eq_true (q 147 rfl)
  have h_xLL := of_decide_eq_true (q 148 rfl)
  have h_xFG := of_decide_eq_true (q 149 rfl)
  have h_xFD := of_decide_eq_true (q 150 rfl)
  have h_xFL := of_decide_eq_true (q 151 rfl)
  have h_xFF := of_decide_eq_true (q 152 rfl)
  have h_ygcg := of_decide_eq_true (q 153 rfl)
  have h_ygck := of_decide_eq_true (q 154 rfl)
  have h_ygcd := q 155 rfl
  have h_ygca := of_decide_eq_true (q 156 rfl)
  have h_ygcn := of_decide_eq_true (q 157 rfl)
  have h_ygct := of_decide_eq_true (q 158 rfl)
  have h_ygcm := of_decide_eq_true (q 159 rfl)
  have h_kG := of_decide_eq_true (q 160 rfl)
  have h_ydcg := of_decide_eq_true (q 161 rfl)
  have h_ydck := of_decide_eq_true (q 162 rfl)
  have h_ydcd := q 163 rfl
  have h_ydca := of_decide_eq_true (q 164 rfl)
  have h_ydcn := of_decide_eq_true (q 165 rfl)
  have h_ydct := of_decide_eq_true (q 166 rfl)
  have h_ydcm := of_decide_eq_true (q 167 rfl)
  have h_kD := of_decide_eq_true (q 168 rfl)
  have h_ylcg := of_decide_eq_true (q 169 rfl)
  have h_ylck := of_decide_eq_true (q 170 rfl)
  have h_ylcd := q 171 rfl
  have h_ylca := of_decide_eq_true (q 172 rfl)
  have h_ylcn := of_decide_eq_true (q 173 rfl)
  have h_ylct := of_decide_eq_true (q 174 rfl)
  have h_ylcm := of_decide_eq_true (q 175 rfl)
  have h_kL := of_decide_eq_true (q 176 rfl)
  have h_z_isinstance := of_decide_eq_true (q 177 rfl)
  have h_z_int := of_decide_eq_true (q 178 rfl)
  have h_a20 := of_decide_eq_true (q 179 rfl)
  have h_d20 := fun_of (x := "_law_kind") (q := "_law_kind") (s := Mg.Nw.sLKindL) (f := ga K "_law_kind") (c.def_ 34 rfl)
  have h_k20 := q 180 rfl
  have h_a21 := of_decide_eq_true (q 181 rfl)
  have h_d21 := fun_of (x := "_law_checked") (q := "_law_checked") (s := Mg.Nw.sLChecked) (f := ga K "_law_checked") (c.def_ 35 rfl)
  have h_k21 := q 182 rfl
  have h_a22 := of_decide_eq_true (q 183 rfl)
  have h_d22 := fun_of (x := "_law_one") (q := "_law_one") (s := Mg.Nw.sLOneL) (f := ga K "_law_one") (c.def_ 36 rfl)
  have h_k22 := q 184 rfl
  have h_a23 := of_decide_eq_true (q 185 rfl)
  have h_d23 := fun_of (x := "_law_nested") (q := "_law_nested") (s := Mg.Nw.sLNested) (f := ga K "_law_nested") (c.def_ 37 rfl)
  have h_k23 := q 186 rfl
  have h_z_reversed := of_decide_eq_true (q 187 rfl)
  have h_a24 := of_decide_eq_true (q 188 rfl)
  have h_d24 := fun_of (x := "_law_cell") (q := "_law_cell") (s := Mg.sCell) (f := ga K "_law_cell") (c.def_ 38 rfl)
  have h_k24 := q 189 rfl
  have h_z_abs := of_decide_eq_true (q 190 rfl)
  have h_z_range := of_decide_eq_true (q 191 rfl)
  have h_z_list := of_decide_eq_true (q 192 rfl)
  exact all_mk (P := RW.prog) X G hfa h_a0 h_d0 h_k0 h_g_TooLong h_ygx h_ygk h_ygb h_ygt h_g_TooDeep h_ydx h_ydk h_ydb h_ydt h_g_TooLarge h_ylx h_ylk h_ylb h_ylt h_g_SyntaxFault h_uL h_usa h_un h_ui h_ut h_uk h_ub h_uty h_uV h_uo h_ual h_uop h_ufn h_ucd h_ucc h_uda (by rfl) h_z_super h_g_SetError h_a1 h_d1 h_k1 h_a2 h_d2 h_k2 h_a3 h_d3 h_k3 h_a4 h_d4 h_k4 h_a5 h_d5 h_k5 h_a6 h_d6 h_k6 h_a7 h_d7 h_k7 h_a8 h_d8 h_k8 h_z_len h_z_max h_z_sum h_z_enumerate h_c_LETTERS h_c_DEEPEST h_c_MOST_ITEMS h_c_LONGEST h_a9 h_d9 h_k9 h_g_Reader h_pg_CR h_hd_CR h_po_CR h_sa_CR h_mkc_CR h_kc_CR h_a10 h_d10 h_k10 h_z_all h_c_SIGNS h_c_MOST_LETTERS h_c_RESERVED h_k_RESERVED h_a11 h_d11 h_k11 h_a12 h_d12 h_k12 h_c_MARKS h_c_BAD h_c_END h_a13 h_d13 h_k13 h_a14 h_d14 h_k14 h_a15 h_d15 h_k15 h_a16 h_d16 h_k16 h_no_CR__tokens h_no_CR__at h_z_tuple h_c_MOST_CELLS h_ma0 h_mi0 h_md0 h_mk0 h_ma1 h_mi1 h_md1 h_mk1 h_ma2 h_mi2 h_md2 h_mk2 h_ma3 h_mi3 h_md3 h_mk3 h_ma4 h_mi4 h_md4 h_mk4 h_ma5 h_mi5 h_md5 h_mk5 h_ma6 h_mi6 h_md6 h_mk6 h_ma7 h_mi7 h_md7 h_mk7 h_ma8 h_mi8 h_md8 h_mk8 h_ma9 h_mi9 h_md9 h_mk9 h_ma10 h_mi10 h_md10 h_mk10 h_ma11 h_mi11 h_md11 h_mk11 h_ma12 h_mi12 h_md12 h_mk12 h_ma13 h_mi13 h_md13 h_mk13 h_a17 h_d17 h_k17 h_a18 h_d18 h_k18 h_a19 h_d19 h_k19 h_xGG h_xDG h_xDD h_xLG h_xLD h_xLL h_xFG h_xFD h_xFL h_xFF h_ygcg h_ygck h_ygcd h_ygca h_ygcn h_ygct h_ygcm h_kG h_ydcg h_ydck h_ydcd h_ydca h_ydcn h_ydct h_ydcm h_kD h_ylcg h_ylck h_ylcd h_ylca h_ylcn h_ylct h_ylcm h_kL h_z_isinstance h_z_int h_a20 h_d20 h_k20 h_a21 h_d21 h_k21 h_a22 h_d22 h_k22 h_a23 h_d23 h_k23 h_z_reversed h_a24 h_d24 h_k24 h_z_abs h_z_range h_z_list
end Mg.Nw
open PySem PySem.W PySem.Calls PyProof.Rows
theorem PySem.Challenge.cw_mathgalley_k02_limits_of_formulas_holds : PySem.Challenge.rw_mathgalley_k02_limits_of_formulas.Holds := by
  w_on; o_law
  refine HandSHeadRun.head_any (r := OpenLaw.row PySem.Challenge.rw_mathgalley_k02_limits_of_formulas) (q := view (OpenLaw.row PySem.Challenge.rw_mathgalley_k02_limits_of_formulas).prog [46]) (H := Mg.Nw.hk) (ob := Mg.Nw.obk) (M := 8000) (loose := Mg.Nw.lsl) (d := HandSHeadRun.topDef (OpenLaw.row PySem.Challenge.rw_mathgalley_k02_limits_of_formulas).prog 46) (kwd := []) Mg.Nw.ob_eq
    (by kernel_rfl) (fun s => by kernel_rfl) Mg.Nw.runHead (by kernel_rfl) (by kernel_rfl) (by kernel_rfl) (by rfl) (by first | assumption | decide +kernel) (by decide +kernel) ⟨rfl, rfl, rfl, rfl, rfl, by decide +kernel⟩ ?hw ?hc
  case hw => w_witness2
  case hc =>
    refine L2.walk_ofE (l := PySem.Challenge.rw_mathgalley_k02_limits_of_formulas) (n := 63) (k := 62) (x := "script") (CX := L2.CX0) rfl (by decide) (by kernel_rfl) ⟨rfl, by decide, by decide⟩ ?F (fun _ _ _ _ z => z)
    intro w mg fa h Y G hmg0
    obtain ⟨K, KX, c⟩ := Y
    have hmg : mg ("law" : PySem.Str) = some (.ref fa) := by
      have e : (HandSHeadRun.topDef (OpenLaw.row PySem.Challenge.rw_mathgalley_k02_limits_of_formulas).prog 46).name = ("law" : PySem.Str) := by kernel_rfl
      rw [← e]
      exact hmg0
    obtain ⟨fd, hb, hF⟩ := Mg.Nw.facts (w := w) KX G hmg c
    exact ⟨K, fd, Mg.Nw.spLaw K, KX, hb, fun H a ns hl _ hS => ⟨a, ns, rfl, hS, fun _ => rfl⟩, hF⟩
