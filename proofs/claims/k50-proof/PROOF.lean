import PyProof.Rows.All
import Wide.All
import OpenK.AllK
import Wide.FinOn
import PySem.Challenge.RW_mathgalley_k50_places_of_carets
import HandS.ForMost
import HandS.ForExc
import HandS.IsInst
import HandS.SetBool
import HandS.SetKeys
import HandS.Zip
import HandS.Codes
import HandS.TupAny
import HandS.TupMul
import HandS.Star
import HandS.Exc
import HandS.ExcInit
import HandS.ExcSuper
import KE.KExcSuper
import HandS.FStr
import HandS.Head2
import HandS.HeadEnd
import HandS.HeadHook3
import HandS.Flow
import KE.DataMinMax
import HandS.SortKw
import HandS.Rev
import HandS.Text
import HandS.Evl
import HandS.DictComp
import HandS.ExcOwn
import HandS.Strs
import HandS.More
import HandS.Iter
import HandS.ExcField
import HandS.ExcIs
import HandS.TryMany
import HandS.Deep
import KE.GoesEnum
import HandS.Conv
import KE.RegKSuper
set_option Elab.async false
set_option linter.all false
set_option maxRecDepth 100000
set_option maxHeartbeats 2000000
namespace Mg
open PySem L2
/-! a def of the text that keeps a promise, as callers see it -/
structure Cal (P : Program) (w : World) (K : PySem.W.Frag) (mg : Str → Option Value) (base : Heap) (CX : CXT) (k : Nat) (x : Str) (ps : List Str) (sp : Sp) : Prop where
  ex : ∃ (f : Addr) (fd : FuncData), FnOk P w K mg base CX k f fd ps sp ∧ mg x = some (.ref f) ∧ PySem.W.keepIn K (.ref f) = true ∧ Binds K fd ps []
section
variable {X : Cx} {CX : CXT} {k : Nat} {ps : List Str} {sp : Sp} {E : XK} {x : Str} {p pos : Pos} {e : Expr} {es : List Expr} {t : TA}
theorem pe_cal (c : Cal X.prog X.w X.K X.mg X.base CX k x ps sp) (hr : Room k X.A) (hg : Gl X x) (hx : Passes CX X E) (ha : PA X (e :: es) t)
    (hdb : (x == ("__debug__" : Str)) = false := by decide) (he : starEach (e :: es) X.env = (false, eval e X.env) :: starEach es X.env := by rfl) (hpl : (backTo pos (starEach es X.env)).any (·.1) = false := by rfl) :
    PE X (.Call (.Name x p) (e :: es) [] pos) (tCall sp [] E t) := by
  obtain ⟨f, fd, F, hm, hk, hb⟩ := c.ex
  exact pe_call F hr hg hm hk hb .nil hx ha hdb he hpl
theorem pe_cal0 (c : Cal X.prog X.w X.K X.mg X.base CX k x ps sp) (hr : Room k X.A) (hg : Gl X x) (hx : Passes CX X E) (hdb : (x == ("__debug__" : Str)) = false := by decide) :
    PE X (.Call (.Name x p) [] [] pos) (tCall sp [] E tNil) := by
  obtain ⟨f, fd, F, hm, hk, hb⟩ := c.ex
  exact pe_call0 F hr hg hm hk hb .nil hx hdb
end
theorem Cal.mono {P : Program} {w : World} {K : PySem.W.Frag} {mg : Str → Option Value} {base : Heap} {CX : CXT} {j k : Nat} {x : Str} {ps : List Str} {sp : Sp} (c : Cal P w K mg base CX j x ps sp) (h : j ≤ k) : Cal P w K mg base CX k x ps sp := by
  obtain ⟨f, fd, F, r⟩ := c.ex
  exact ⟨f, fd, F.mono h, r⟩
/-! heaps -/
/-- what stood stands, but for what is at pl -/
def KeepB (pl : Addr) (H H' : Hp) : Prop := ∀ b o, H b = some o → b ≠ pl → H' b = some o
theorem KeepB.refl (pl : Addr) (H : Hp) : KeepB pl H H := fun _ _ h _ => h
theorem KeepB.trans {pl : Addr} {H H1 H2 : Hp} (a : KeepB pl H H1) (b : KeepB pl H1 H2) : KeepB pl H H2 := fun c o h n => b c o (a c o h n) n
theorem KeepB.of {pl : Addr} {H H' : Hp} (a : Same H H') : KeepB pl H H' := fun c o h _ => a c o h
theorem same_new {H : Hp} {p : Addr} {o : HO} (h : H p = none) : Same H (upd H p o) := fun b x e => by
  rw [upd_ne (ne_of_none e h)]
  exact e
theorem same_upd_new {H H' : Hp} {p : Addr} {o : HO} (s : Same H H') (h : H p = none) : Same H (upd H' p o) := fun b x e => by
  rw [upd_ne (ne_of_none e h)]
  exact s _ _ e
theorem keep_upd {pl : Addr} {H : Hp} {o : HO} : KeepB pl H (upd H pl o) := fun b x e n => by
  rw [upd_ne n]
  exact e
theorem keep_upd_new {pl p : Addr} {H H' : Hp} {o : HO} (s : KeepB pl H H') (h : H p = none) : KeepB pl H (upd H' p o) := fun b x e n => by
  rw [upd_ne (ne_of_none e h)]
  exact s _ _ e n
theorem room_of {j k : Nat} {A : Around} (r : Room k A) (h : j ≤ k := by decide) : Room j A := r.mono h
theorem iteP {c A B : Prop} [Decidable c] (hc : c) (h : A) : if c then A else B := by
  rw [if_pos hc]
  exact h
theorem iteN {c A B : Prop} [Decidable c] (hc : ¬ c) (h : B) : if c then A else B := by
  rw [if_neg hc]
  exact h
end Mg

set_option Elab.async false
set_option linter.all false
set_option maxRecDepth 100000
set_option maxHeartbeats 2000000
namespace Mg
open PySem L2
def top (i : Nat) : Stmt := PySem.Challenge.pw_mathgalley_k50_places_of_carets.main.body.getD i (.Pass ⟨0, 0, 0, 0⟩)
abbrev sCell : Stmt := top 48
abbrev sDraws : Stmt := top 49
local macro_rules | `(tactic| walk_at "go") => `(tactic| repeat (first | refine ⟨_, rfl, ?_⟩ | refine ⟨_, _, rfl, rfl, ?_⟩))
structure TxtB (mg : Str → Option Value) : Prop where
  b_len : mg "len" = none
  b_int : mg "int" = none
  b_abs : mg "abs" = none
  range : mg "range" = none
  b_isinstance : mg "isinstance" = none
  b_tuple : mg "tuple" = none
  b_list : mg "list" = none
section
variable {P : Program} {w : World} {K : PySem.W.Frag} {mg : Str → Option Value} {base : Heap}
/-! _law_cell: some int -/
def spCellN (K : PySem.W.Frag) : Sp := fun vs H Q _ => ∃ (a : Addr) (ns : List Int) (j : Int), vs = [.ref a, .int j] ∧ SqL K H a (ns.map V.int) ∧ 0 ≤ j ∧ ∀ n : Int, Q (.int n) H
theorem scCell : FnScope ["script", "k"] ["script", "k"] (defScope sCell) := ⟨rfl, rfl, rfl, by decide +kernel, rfl, by decide +kernel, by decide +kernel⟩
theorem ok_cell {f : Addr} {fd : FuncData} (F : Fun K "_law_cell" "_law_cell" sCell f fd) (T : TxtB mg) : FnOk P w K mg base CX0 1 f fd ["script", "k"] (spCellN K) := by
  have sc := scCell
  refine F.ok scCell (fun vs H Q E h => ?_) (fun cdv A outer s H vs Q E hr h => ?_)
  · obtain ⟨a, ns, j, rfl, _⟩ := h
    rfl
  · obtain ⟨a, ns, j, rfl, hs, hj, k⟩ := h
    refine ⟨_, (pss_cons (ps_if (pt_cmpR op_lt (pv 1) (pe_callB call_len_seq (by rfl) T.b_len PySem.boot_len (pa_cons (pv 0) pa_nil)) (nomark _))
  (pss_one (ps_ret (pe_ix ix_list (pv 0) (pv 1) (fun _ _ => rfl))))
  pss_nil)
  (pss_one (ps_ret pe_int))), ?_⟩
    refine ⟨_, rfl, _, rfl, a, _, rfl, .inl hs, _, _, rfl, rfl, _, rfl, ?_⟩
    rw [List.length_map]
    refine ite2 (fun c => ?_) (fun c => ?_)
    · have c' := of_decide_eq_true c
      obtain ⟨n, rfl⟩ := Int.eq_ofNat_of_zero_le hj
      have hn : n < ns.length := by omega
      have e1 : (ns.map V.int)[n]? = some (.int ns[n]) := by
        rw [List.getElem?_map, List.getElem?_eq_getElem hn]
        rfl
      exact ⟨_, rfl, _, rfl, a, _, _, _, rfl, rfl, hs, atI_nat e1, k _⟩
    · exact k 0

def Digits (ds : List Int) : Prop := ∀ d ∈ ds, 0 ≤ d ∧ d < 60
def spDraws : Sp := fun vs H Q _ => ∃ (n : Int) (c : Nat), vs = [.int n, .int (c : Int)] ∧ c ≤ 60 ∧ ∀ (ds : List Int) (l : Addr) (H' : Hp), H l = none → Same H H' → H' l = some (.lst (ds.map V.int)) → ds.length = c → Digits ds → Q (.ref l) H'
theorem digits_snoc {ds : List Int} {d : Int} (h : Digits ds) (h1 : 0 ≤ d) (h2 : d < 60) : Digits (ds ++ [d]) := fun x hx => by
  rcases List.mem_append.mp hx with z | z
  · exact h x z
  · rw [List.mem_singleton.mp z]
    exact ⟨h1, h2⟩
def Stream (H : Hp) (s pd pl : Addr) : Prop := pd ≠ pl ∧ s ≠ pl ∧ ∃ (ds : List Int) (k : Int), H s = some (.lst [.ref pd, .ref pl]) ∧ H pd = some (.lst (ds.map V.int)) ∧ H pl = some (.lst [.int k]) ∧ ds ≠ [] ∧ Digits ds ∧ ds.length ≤ 1000 ∧ 0 ≤ k
def spStream (K : PySem.W.Frag) : Sp := fun vs H Q _ => ∃ (a : Addr) (ns : List Int) (c : Nat), vs = [.ref a, .int 0, .int (c : Int)] ∧ SqL K H a (ns.map V.int) ∧ 1 ≤ c ∧ c ≤ 60 ∧
  ∀ (st pd pl : Addr) (H' : Hp), H st = none → H pd = none → H pl = none → Same H H' → Stream H' st pd pl → Q (.ref st) H'
def spNext : Sp := fun vs H Q _ => ∃ (st pd pl : Addr) (m : Int), vs = [.ref st, .int m] ∧ 0 < m ∧ Stream H st pd pl ∧ ∀ (v : Int) (H' : Hp), 0 ≤ v → v < m → KeepB pl H H' → Stream H' st pd pl → Q (.int v) H'
end
end Mg

set_option Elab.async false
set_option linter.all false
set_option maxRecDepth 100000
set_option maxHeartbeats 2000000
namespace Mg
open PySem PySem.Spec PyProof.Rows L2
/-! len of what is read, with its bound -/
theorem call_len_sq {X : Cx} : CallR X (.builtin "len") (fun xs H Q => ∃ p ys, xs = [.ref p] ∧ (SqL X.K H p ys ∨ SqT X.K H p ys) ∧ (ys.length ≤ sizeLine → Q (.int ys.length) H)) := by
  intro pins s σ H xs us Q I r h
  obtain ⟨p, ys, rfl, hq, q⟩ := h
  refine call_len_seq pins s σ H [.ref p] us Q I r ⟨p, ys, rfl, hq, q ?_⟩
  rcases hq with hq | hq
  · obtain ⟨its, r', pl, hz⟩ := I.list hq
    exact hz
  · obtain ⟨its, r', pl, hz⟩ := I.tuple hq
    exact hz
theorem line62 {n : Nat} (h : n ≤ sizeLine) : (n : Int) < 2 ^ 62 := by
  have e := sizeLine_eq
  omega
/-! the types of what is read -/
theorem tyx_tup {K : PySem.W.Frag} {H : Hp} {a : Addr} {xs : List V} (h : SqT K H a xs) : TyX K H (.ref a) (.type "tuple") := by
  rcases h with (h | ⟨o, h⟩) | ⟨o, its, n, hk, hc, _⟩
  · exact .base (.tup h)
  · exact .fTuple h
  · exact .kTuple hk hc
theorem tyx_lst {K : PySem.W.Frag} {H : Hp} {a : Addr} {xs : List V} (h : SqL K H a xs) : TyX K H (.ref a) (.type "list") := by
  rcases h with (h | ⟨o, h⟩) | ⟨o, its, n, hk, hc, _⟩
  · exact .base (.lst h)
  · exact .base (.frz h)
  · exact .kList hk hc
/-- the type's name of data -/
def tyD : PyData → String
  | .none => "NoneType" | .bool _ => "bool" | .int _ => "int" | .str _ => "str" | .list _ => "list" | .tuple _ => "tuple" | .dict _ => "dict"
theorem tyx_D {K : PySem.W.Frag} {H : Hp} {v : V} {d : PyData} (h : Dp K H v d) : TyX K H v (.type (tyD d)) := by
  cases h with
  | non => exact .base .non
  | bl b => exact .base (.bl b)
  | int i => exact .base (.int i)
  | str x => exact .base (.str x)
  | lst hs _ => exact tyx_lst hs
  | tup hs _ => exact tyx_tup hs
/-- isinstance of data and a built-in type -/
theorem isi_D {K : PySem.W.Frag} {H : Hp} {v : V} {d : PyData} {n : String} {b : Bool} {Q : VK} (h : Dp K H v d) (e : kitB (tyD d) n = some b) (q : Q (.bl b) H) : rIsi K [v, .ty n] H Q :=
  ⟨v, .ty n, _, _, b, rfl, .ty n, tyx_D h, kit_ty e, q⟩
/-! data stay -/
/-- tuples that are read stay -/
def TupK (H H' : Hp) : Prop := ∀ a xs, Rd H a (.tup xs) → Rd H' a (.tup xs)
theorem TupK.of {H H' : Hp} (s : Same H H') : TupK H H' := fun a xs h => by
  rcases h with h | ⟨o, h⟩
  · exact .inl (s _ _ h)
  · exact .inr ⟨o, s _ _ h⟩
theorem TupK.trans {H H1 H2 : Hp} (a : TupK H H1) (b : TupK H1 H2) : TupK H H2 := fun c xs h => b c xs (a c xs h)
theorem TupK.keep {pl : Addr} {H H' : Hp} {xs : List V} (s : KeepB pl H H') (hp : H pl = some (.lst xs)) : TupK H H' := fun a ys h => by
  have n : ∀ o, H a = some o → (∀ z, o ≠ .lst z) → a ≠ pl := fun o e z q => by
    rw [q, hp] at e
    exact z _ (Option.some.inj e).symm
  rcases h with h | ⟨o, h⟩
  · exact .inl (s _ _ h (n _ h fun _ z => nomatch z))
  · exact .inr ⟨o, s _ _ h (n _ h fun _ z => nomatch z)⟩
theorem TupK.seq {K : PySem.W.Frag} {H H' : Hp} {a : Addr} {xs : List V} (s : TupK H H') (h : SqT K H a xs) : SqT K H' a xs := by
  rcases h with h | h
  · exact .inl (s _ _ h)
  · exact .inr h
theorem same_sqt {K : PySem.W.Frag} {H H' : Hp} {a : Addr} {xs : List V} (s : Same H H') (h : SqT K H a xs) : SqT K H' a xs := (TupK.of s).seq h
mutual
theorem Dp_same {K : PySem.W.Frag} {H H' : Hp} (s : Same H H') : ∀ {d : PyData} {v : V}, Dp K H v d → Dp K H' v d
  | _, _, .non => .non
  | _, _, .bl b => .bl b
  | _, _, .int i => .int i
  | _, _, .str x => .str x
  | _, _, .lst h r => .lst (s.seq h) (DpAll_same s r)
  | _, _, .tup h r => .tup (same_sqt s h) (DpAll_same s r)
theorem DpAll_same {K : PySem.W.Frag} {H H' : Hp} (s : Same H H') : ∀ {ds : List PyData} {vs : List V}, DpAll K H vs ds → DpAll K H' vs ds
  | _, _, .nil => .nil
  | _, _, .cons h r => .cons (Dp_same s h) (DpAll_same s r)
end
/-- data made of tuples alone -/
inductive Tp (K : PySem.W.Frag) (H : Hp) : V → PyData → Prop
  | non : Tp K H .non .none
  | bl (b : Bool) : Tp K H (.bl b) (.bool b)
  | int (i : Int) : Tp K H (.int i) (.int i)
  | str (x : Str) : Tp K H (.str x) (.str x)
  | tup {a : Addr} {xs : List V} {ds : List PyData} : SqT K H a xs → xs.length = ds.length → (∀ (i : Nat) (x : V) (d : PyData), xs[i]? = some x → ds[i]? = some d → Tp K H x d) → Tp K H (.ref a) (.tuple ds)
theorem Tp.stay {K : PySem.W.Frag} {H H' : Hp} (s : TupK H H') {v : V} {d : PyData} (h : Tp K H v d) : Tp K H' v d := by
  induction h with
  | non => exact .non
  | bl b => exact .bl b
  | int i => exact .int i
  | str x => exact .str x
  | tup hs hl _ ih => exact .tup (s.seq hs) hl ih
theorem all_of_get {K : PySem.W.Frag} {H : Hp} : ∀ {ds : List PyData} {xs : List V}, xs.length = ds.length → (∀ (i : Nat) (x : V) (d : PyData), xs[i]? = some x → ds[i]? = some d → Dp K H x d) → DpAll K H xs ds
  | [], [], _, _ => .nil
  | [], _ :: _, e, _ => by simp at e
  | _ :: _, [], e, _ => by simp at e
  | d :: ds, x :: xs, e, h => .cons (h 0 x d rfl rfl) (all_of_get (by simpa using e) fun i y z h1 h2 => h (i + 1) y z h1 h2)
theorem Tp.dp {K : PySem.W.Frag} {H : Hp} {v : V} {d : PyData} (h : Tp K H v d) : Dp K H v d := by
  induction h with
  | non => exact .non
  | bl b => exact .bl b
  | int i => exact .int i
  | str x => exact .str x
  | tup hs hl _ ih => exact .tup hs (all_of_get hl ih)
theorem DpAll.len {K : PySem.W.Frag} {H : Hp} : ∀ {ds : List PyData} {vs : List V}, DpAll K H vs ds → vs.length = ds.length
  | _, _, .nil => rfl
  | _, _, .cons _ r => by rw [List.length_cons, List.length_cons, DpAll.len r]
theorem DpAll.get {K : PySem.W.Frag} {H : Hp} : ∀ {ds : List PyData} {vs : List V} {i : Nat} {d : PyData}, DpAll K H vs ds → ds[i]? = some d → ∃ v, vs[i]? = some v ∧ Dp K H v d
  | _, _, _, _, .nil, e => by simp at e
  | _, _, 0, _, .cons h _, e => by
    cases Option.some.inj e
    exact ⟨_, rfl, h⟩
  | _, _, i + 1, _, .cons _ r, e => by
    obtain ⟨v, h1, h2⟩ := DpAll.get (i := i) r e
    exact ⟨v, h1, h2⟩
theorem depth_get : ∀ {ds : List PyData} {i : Nat} {d : PyData}, ds[i]? = some d → d.depth ≤ PyData.depthAll ds
  | [], _, _, e => by simp at e
  | x :: xs, 0, _, e => by
    cases Option.some.inj e
    simp only [PyData.depthAll]
    omega
  | x :: xs, i + 1, d, e => by
    have := depth_get (ds := xs) (i := i) (d := d) e
    simp only [PyData.depthAll]
    omega
end Mg

set_option Elab.async false
set_option linter.all false
set_option maxRecDepth 100000
set_option maxHeartbeats 2000000
namespace Mg
open PySem L2
structure TxtC (mg : Str → Option Value) : Prop extends TxtB mg where
  b_bool : mg "bool" = none
  b_str : mg "str" = none
section
variable {P : Program} {w : World} {K : PySem.W.Frag} {mg : Str → Option Value} {base : Heap}
/-! _law_same: equal data are told so -/
def spSame (K : PySem.W.Frag) (n : Nat) : Sp := fun vs H Q _ => ∃ (v u : V) (d : PyData), vs = [v, u] ∧ Dp K H v d ∧ Dp K H u d ∧ d.depth ≤ n ∧ Q (.bl true) H
def spSameR (K : PySem.W.Frag) : Nat → Sp
  | 0 => fun _ _ _ _ => False
  | n + 1 => spSame K n
theorem FnOk.no {P : Program} {w : World} {K : PySem.W.Frag} {mg : Str → Option Value} {base : Heap} {CX : CXT} {k : Nat} {f : Addr} {fd : FuncData} {ps : List Str} : FnOk P w K mg base CX k f fd ps (fun _ _ _ _ => False) :=
  ⟨fun _ _ _ _ h => h.elim, fun _ _ _ _ _ _ _ _ _ _ _ _ _ h => h.elim⟩
end
end Mg

set_option Elab.async false
set_option linter.all false
set_option maxRecDepth 100000
set_option maxHeartbeats 4000000
namespace Mg
open PySem PySem.Spec PyProof.Rows L2
/-! a set comprehension whose members are ints and texts -/
section
variable {X : Cx}
/-- {e for t in it if ..}: D is the new set -/
def tSk (P : Program) (w : World) (wi : TI) (g : TG) (tt : TT) (te : TE) (own : List Nat) : TE := fun σ H Q => wi σ H fun J Ha => ∀ D, Ha D = none →
  ∃ W : Nat → Nat → Hp → Prop, (∃ m, W 0 m (upd Ha D (SetK P w D (fun _ => false) 0))) ∧ ∀ i m Hb, W i m Hb → (J.stop i Hb ∧ Q (.ref D) Hb) ∨ (J.go i Hb ∧ ∃ Z : Hp → Prop, (∀ Hc, Z Hc → ∃ m', m' < m ∧ W (i + 1) m' Hc) ∧
    ∀ x Hc, J.yld i Hb x Hc → g x (wipe σ own) Hc fun ρ Hd => wipe ρ own = wipe σ own ∧ tt ρ Hd fun b He => if b = true then te ρ He fun y Hf => ∃ (k : Key) (S : Key → Bool) (n : Nat), y = kV k ∧ Hf D = some (SetK P w D S n) ∧ n + 1 < scanBound ∧
      Z (upd Hf D (SetK P w D (fun j => S j || decide (j = k)) (if S k = true then n else n + 1))) else Z He)
theorem setk_fresh (P : Program) (w : World) (h : Heap) : (h.push { cls := .type "set", dict := none, data := .set #[] 0 (.fresh 0 0 (!w.params.followText "set-order")) }).SetOf (mixKind P w) h.objs.size (fun _ => false) 0 := by
  refine ⟨_, #[], 0, _, Heap.get?_push_size _ rfl, ⟨rfl, rfl, rfl⟩, rfl, ?_, ?_, by decide, by rfl, rfl⟩
  · intro e he
    simp at he
  · intro k
    simp
theorem pe_sk {elt tg iter : Expr} {ifs : List Expr} {scope : Scope} {own : List (PySem.Str × Nat)} {pos : Pos} {wi : TI} {g : TG} {tt : TT} {te : TE} (calm : X.calm = true) (nd : X.N.Nodup) (hi : PI X tg iter wi) (ok : BlkOk X.N X.env.scope scope own)
    (hg : ∀ s H C cl fp, PG (X.blk s H scope (compEnvC scope cl C X.env) fp) tg g) (ht : ∀ s H C cl fp, PTs (X.blk s H scope (compEnvC scope cl C X.env) fp) ifs tt)
    (he : ∀ s H C cl fp, PE (X.blk s H scope (compEnvC scope cl C X.env) fp) elt te) (hf : ∀ x, foldedSetIterable iter X.env x = pure x := by intro _; rfl) :
    PE X (.SetComp elt [⟨tg, iter, ifs, 0⟩] scope pos) (tSk X.prog X.w wi g tt te (own.map (·.2))) := by
  refine ⟨fun pins s σ H Q I h => ?_⟩
  rw [PpSet.eval_SetComp]
  have free : ∀ y ∈ scope.names, y.2 = .free → ∃ c, X.env.cells.lookup y.1 = some c := fun y hy e => (ok.free y hy e).elim (fun k => I.ok.has _ (.inl k)) fun k => I.ok.has _ (.inr k)
  refine wpAny_comprehension_free (use := none) rfl hf (closure_ok free) ok.kind (fun y hy e => by rw [ok.uniq y hy, e]) ?_
  refine thn (hi.run pins s σ H _ I h) fun xv s1 hx => thn hx fun itv s2 h2 => ?_
  obtain ⟨it, fp, tn, J, Ha, rfl, Ia, T, sta, fa, q⟩ := h2
  refine PpSet.newSet_ok (newEnv_comp ?_)
  obtain ⟨D, hD⟩ : ∃ D, s2.heap.objs.size = D := ⟨_, rfl⟩
  rw [hD]
  obtain ⟨W, ⟨m0, w0⟩, turn⟩ := q D (Ia.hok.fresh (Nat.le_of_eq hD))
  obtain ⟨s3, hs3⟩ : ∃ s3 : Shared, s3 = { s2 with heap := s2.heap.push { cls := .type "set", dict := none, data := .set #[] 0 (.fresh 0 0 (!X.w.params.followText "set-order")) } } := ⟨_, rfl⟩
  rw [← hs3]
  have heap3 : s3.heap = s2.heap.push { cls := .type "set", dict := none, data := .set #[] 0 (.fresh 0 0 (!X.w.params.followText "set-order")) } := by rw [hs3]
  obtain ⟨Hd, hHd⟩ : ∃ Hd, Hd = upd Ha D (SetK X.prog X.w D (fun _ => false) 0) := ⟨_, rfl⟩
  rw [← hHd] at w0
  have Id : Inv X pins σ Hd s3 := by
    rw [hs3, hHd]
    refine Ia.laid (t' := s2.toks) (fun b o e => Heap.get?_push_of_some _ e) (Nat.le_of_eq hD) ?_
    rw [← hD]
    exact setK_new (setk_fresh X.prog X.w s2.heap)
  have small : ∀ b ∈ fp, b < s2.heap.objs.size := fun b hb => (T.obj _ _ sta b hb).elim fun o e => Heap.lt_size e.1
  have fd : ∀ b ∈ fp, FpOk X pins Hd b ∧ b < s3.heap.objs.size := fun b hb => by
    have lt := small b hb
    refine ⟨⟨?_, (fa b hb).2⟩, by rw [heap3, Heap.size_push]; exact Nat.lt_succ_of_lt lt⟩
    rw [hHd, upd_ne (by rw [← hD]; exact Nat.ne_of_lt lt)]
    exact (fa b hb).1
  have std : tn 0 s3.heap := T.keep _ _ _ sta fun b _ o e => by rw [heap3]; exact Heap.get?_push_of_some _ e
  have I4 := block_start Id ok nd fd
  obtain ⟨cl, hcl⟩ : ∃ cl, cl = cellsFrom (s3.heap.objs.size + 1) scope.names (cloFrom X.env.cells scope.names []) := ⟨_, rfl⟩
  rw [← hcl] at I4
  show codeAny _ _ (.compStart (.SetComp elt [⟨tg, iter, ifs, 0⟩] scope pos) 0 (.ref it) (.ref D) (compEnvC scope (cellsFrom (s3.heap.objs.size + 1) scope.names (cloFrom X.env.cells scope.names [])) s3.heap.objs.size X.env)) _ { s3 with heap := pushCells (s3.heap.push { cls := .type "dict", data := .dict #[] }) scope.names }
  rw [← hcl]
  have pg := hg s3 Hd s3.heap.objs.size cl fp
  have pt := ht s3 Hd s3.heap.objs.size cl fp
  have pe := he s3 Hd s3.heap.objs.size cl fp
  have none4 : ∀ b ∈ fp, Hd b = none := fun b hb => (fd b hb).1.1
  obtain ⟨ce, hce⟩ : ∃ ce, ce = compEnvC scope cl s3.heap.objs.size X.env := ⟨_, rfl⟩
  rw [← hce] at I4 pg pt pe ⊢
  have loc : ce.locals = s3.heap.objs.size := by rw [hce]; rfl
  obtain ⟨s4, hs4⟩ : ∃ s4 : Shared, s4 = { s3 with heap := pushCells (s3.heap.push { cls := .type "dict", data := .dict #[] }) scope.names } := ⟨_, rfl⟩
  rw [← hs4] at I4 ⊢
  have st4 : tn 0 s4.heap := T.keep _ _ _ std fun b _ o e => by rw [hs4]; exact pushCells_keeps _ _ _ _ (Heap.get?_push_of_some _ e)
  have fps : ∀ {σ' : L2.St} {H' : Hp} {s' : Shared}, Inv (X.blk s3 Hd scope ce fp) [] σ' H' s' → (∀ b ∈ fp, H' b = none) → ∀ b ∈ fp, FpOk (X.blk s3 Hd scope ce fp) [] H' b := fun {σ' H' s'} I' hn b hb =>
    ⟨hn b hb, (I'.ok.exf b hb).1, I'.ok.exfs b hb, .inl hb, fun x c e => (I'.ok.exf b hb).2 x c e, fun p hp => absurd (show p ∈ ([] : List (Addr × Obj)) ++ [] from hp) (by simp)⟩
  refine PpSet.codeAny_compStart_set ?loop (T.self X.A 0 _ _ _ st4 ?loop)
  refine PpSet.compLoopS_any (fun n s' => ∃ i Hk, Inv (X.blk s3 Hd scope ce fp) [] (wipe σ (own.map (·.2))) Hk s' ∧ tn i s'.heap ∧ (∀ b ∈ fp, Hk b = none) ∧ W i n Hk) ?_ m0 ⟨0, Hd, I4, st4, none4, w0⟩
  rintro n s5 ⟨i, H5, I5, st5, n5, w5⟩
  rcases turn i n H5 w5 with ⟨stop, fin⟩ | ⟨go, Z, hZ, step⟩
  · refine thnF (T.done (X.blk s3 Hd scope ce fp) rfl rfl rfl calm i [] s5 _ H5 (fun _ _ => False) I5 (fps I5 n5) st5 stop) fun r s6 ⟨hr, I6⟩ => ?_
    subst hr
    have I7 : Inv X pins σ H5 s6 := Id.call' (ch := fp) I6.os I6.base I6.hok I6.bare fun b hb => ⟨(fd b hb).1.2.2.2.1, (fd b hb).1.2.1, (fd b hb).1.2.2.2.2.1, (fd b hb).1.2.2.2.2.2⟩
    have gone : H5 s3.heap.objs.size = none := by
      rw [← loc]
      exact I6.free
    obtain ⟨mm, hn, _⟩ := I6.loc
    have hn : s6.heap.Ns ce.locals mm := hn
    rw [loc] at hn
    obtain ⟨f0, f1, f2, f3, f4, f5⟩ := Id.fpOk (Nat.le_refl _) gone
    exact ⟨mm, hn, fun h'' sb => ⟨.ref D, H5, I7.turned (t' := s6.toks) (fun b o hb e => (sb.2 b hb).trans e) f0 f1 f3 f4 f5, rfl, fin⟩⟩
  · refine thnF (T.item (X.blk s3 Hd scope ce fp) rfl rfl rfl calm i [] s5 _ H5 (fun _ _ => False) I5 (fps I5 n5) st5 go) fun r s6 ⟨u, hr, h6⟩ => ?_
    subst hr
    refine thnF h6 fun _ s7 ⟨x, H7, I7, r7, y7, st7, n7⟩ => ?_
    refine thnF (pg.run _ s7 _ H7 x u _ (I7.pinned (fps I7 n7) (T.obj _ _ st7)) r7 (step x H7 y7)) fun _ s8 ⟨σ8, H8, I8, hw8, q8⟩ => ?_
    refine thnF (pt.run _ s8 σ8 H8 _ I8 q8) fun b s9 ⟨H9, I9, q9⟩ => ?_
    have next : ∀ {s' : Shared} {H' : Hp}, Inv (X.blk s3 Hd scope ce fp) ([] ++ pinsAt fp s7.heap) σ8 H' s' → Z H' → ∃ m, m < n ∧ ∃ i Hk, Inv (X.blk s3 Hd scope ce fp) [] (wipe σ (own.map (·.2))) Hk s' ∧ tn i s'.heap ∧ (∀ b ∈ fp, Hk b = none) ∧ W i m Hk := fun {s' H'} I' nx => by
      obtain ⟨m', hm, w'⟩ := hZ H' nx
      have kept : ∀ b ∈ fp, ∀ o, s7.heap.get? b = some o → s'.heap.get? b = some o ∧ H' b = none := fun b hb o e => by
        have z := I'.pin (b, o) (List.mem_append_right _ (List.mem_append_right _ (mem_pinsAt hb e)))
        exact ⟨z.1, z.2.1⟩
      refine ⟨m', hm, i + 1, H', (I'.unpinned (pins := [])).weak (by rw [← hw8, wipe_length]) (fun j v e => ?_), T.keep _ _ _ st7 fun b hb o e => (kept b hb o e).1, fun b hb => ?_, w'⟩
      · rw [← hw8] at e
        exact (wipe_some e).1
      · obtain ⟨o, e, _⟩ := T.obj _ _ st7 b hb
        exact (kept b hb o e).2
    cases b with
    | false =>
      rw [if_neg Bool.false_ne_true] at q9
      exact next I9 q9
    | true =>
      rw [if_pos (rfl : true = true)] at q9
      refine thnF (pe.run _ s9 σ8 H9 _ I9 q9) fun z s10 ⟨yv, H10, I10, r10, k, S, n0, ey, hD10, room, nx⟩ => ?_
      subst ey
      refine thnF (mt_saddK (X := X.blk s3 Hd scope ce fp) _ s10 σ8 H10 (.ref D) [kV k] (.ref D) [z] (fun _ H' => Z H') I10 rfl (.cons r10 .nil) ⟨D, k, S, n0, rfl, rfl, hD10, room, nx⟩) fun _ s11 ⟨_, H11, I11, _, q11⟩ => ?_
      exact next I11 q11
end
end Mg

set_option Elab.async false
set_option linter.all false
set_option maxRecDepth 100000
set_option maxHeartbeats 2000000
namespace Mg
open PySem PySem.Spec PyProof.Rows L2
/-- a comprehension's walk by a word: acc is the list so far -/
theorem lc_word {J : It} {n : Nat} {g : TG} {tt : TT} {te : TE} {vs : List Nat} {σ : L2.St} {H1 : Hp} {D : Addr} {Qd : Hp → Prop} (Pv : Nat → List V → Hp → Prop) (h0 : Pv 0 [] (upd H1 D (.lst [])))
    (hgo : ∀ i acc H, i < n → Pv i acc H → J.go i H) (hst : ∀ acc H, Pv n acc H → J.stop n H)
    (hs : ∀ i acc x H H' (R : VK) (Z : Hp → Prop), i < n → Pv i acc H → H D = some (.lst acc) → J.yld i H x H' →
      (∀ y H3, H3 D = some (.lst acc) → acc.length < sizeLine → Pv (i + 1) (acc ++ [y]) (upd H3 D (.lst (acc ++ [y]))) → R y H3) → g x (wipe σ vs) H' fun σ2 H2 => wipe σ2 vs = wipe σ vs ∧ tt σ2 H2 fun b H3 => if b = true then te σ2 H3 R else Z H3)
    (hd : ∀ acc H, Pv n acc H → H D = some (.lst acc) → Qd H) :
    ∃ W : Nat → Nat → Hp → Prop, (∃ m, W 0 m (upd H1 D (.lst []))) ∧ ∀ i m H, W i m H → (J.stop i H ∧ Qd H) ∨ (J.go i H ∧ ∃ Nx : Hp → Prop, (∀ H', Nx H' → ∃ m', m' < m ∧ W (i + 1) m' H') ∧ ∀ x H', J.yld i H x H' →
      g x (wipe σ vs) H' fun σ2 H2 => wipe σ2 vs = wipe σ vs ∧ tt σ2 H2 fun b H3 => if b = true then te σ2 H3 fun y H4 => ∃ acc, H4 D = some (.lst acc) ∧ acc.length < sizeLine ∧ Nx (upd H4 D (.lst (acc ++ [y]))) else Nx H3) := by
  refine ⟨fun i m H => m = n - i ∧ i ≤ n ∧ ∃ acc, Pv i acc H ∧ H D = some (.lst acc), ⟨n, rfl, Nat.zero_le _, [], h0, upd_same⟩, ?_⟩
  rintro i m H ⟨rfl, hi, acc, p, hD⟩
  by_cases hlt : i < n
  · refine .inr ⟨hgo i acc H hlt p, fun H' => ∃ acc, Pv (i + 1) acc H' ∧ H' D = some (.lst acc), fun H' q => ⟨n - (i + 1), by omega, rfl, hlt, q⟩, fun x H' y => ?_⟩
    exact hs i acc x H H' _ _ hlt p hD y fun z H3 e hz q => ⟨acc, e, hz, acc ++ [z], q, upd_same⟩
  · have e : i = n := by omega
    subst e
    exact .inl ⟨hst acc H p, hd acc H p hD⟩
/-- .. where each item gives its value of a list, and nothing that stood is changed -/
theorem lc_pure {J : It} {g : TG} {tt : TT} {te : TE} {vs : List Nat} {σ : L2.St} {H1 : Hp} {D : Addr} {Qd : Hp → Prop} (outs : List V) (hD : H1 D = none) (hz : outs.length ≤ sizeLine)
    (hgo : ∀ i H, i < outs.length → Same H1 H → J.go i H) (hst : ∀ H, Same H1 H → J.stop outs.length H)
    (hs : ∀ i x H H' (R : VK) (Z : Hp → Prop), i < outs.length → Same H1 H → J.yld i H x H' → (∀ y H3, outs[i]? = some y → Same H H3 → R y H3) →
      g x (wipe σ vs) H' fun σ2 H2 => wipe σ2 vs = wipe σ vs ∧ tt σ2 H2 fun b H3 => if b = true then te σ2 H3 R else Z H3)
    (hd : ∀ H, Same H1 H → H D = some (.lst outs) → Qd H) :
    ∃ W : Nat → Nat → Hp → Prop, (∃ m, W 0 m (upd H1 D (.lst []))) ∧ ∀ i m H, W i m H → (J.stop i H ∧ Qd H) ∨ (J.go i H ∧ ∃ Nx : Hp → Prop, (∀ H', Nx H' → ∃ m', m' < m ∧ W (i + 1) m' H') ∧ ∀ x H', J.yld i H x H' →
      g x (wipe σ vs) H' fun σ2 H2 => wipe σ2 vs = wipe σ vs ∧ tt σ2 H2 fun b H3 => if b = true then te σ2 H3 fun y H4 => ∃ acc, H4 D = some (.lst acc) ∧ acc.length < sizeLine ∧ Nx (upd H4 D (.lst (acc ++ [y]))) else Nx H3) := by
  refine lc_word (n := outs.length) (fun i acc H => acc = outs.take i ∧ Same H1 H) ⟨by simp, same_new hD⟩ (fun i acc H hi p => hgo i H hi p.2) (fun acc H p => hst H p.2) ?_ (fun acc H p e => hd H p.2 (by rw [e, p.1, List.take_length]))
  rintro i acc x H H' R Z hi ⟨rfl, s⟩ e y k
  refine hs i x H H' R Z hi s y fun v H3 hv s3 => k v H3 (s3 _ _ e) (by rw [List.length_take]; omega) ⟨?_, same_upd_new (s.trans s3) hD⟩
  rw [List.take_add_one, hv]
  rfl
theorem pe_gstr {X : Cx} {x z : Str} {pos : Pos} (hg : Gl X x) (h : ∃ t, X.mg x = some (.str z t)) (hd : (x == ("__debug__" : Str)) = false := by decide) : PE X (.Name x pos) (tC (.str z)) := by
  obtain ⟨t, h⟩ := h
  exact pe_glob hg h ⟨_, rfl⟩ hd
theorem pe_gint {X : Cx} {x : Str} {z : Int} {pos : Pos} (hg : Gl X x) (h : ∃ t, X.mg x = some (.int z t)) (hd : (x == ("__debug__" : Str)) = false := by decide) : PE X (.Name x pos) (tC (.int z)) := by
  obtain ⟨t, h⟩ := h
  exact pe_glob hg h ⟨_, rfl⟩ hd
theorem pe_gref {X : Cx} {x : Str} {a : Addr} {pos : Pos} (hg : Gl X x) (h : X.mg x = some (.ref a)) (hd : (x == ("__debug__" : Str)) = false := by decide) : PE X (.Name x pos) (tC (.ref a)) :=
  pe_glob (v := .ref a) hg h rfl hd
/-! pieces of texts -/
theorem cut_from (z : Str) (n : Nat) : cutS z (some (n : Int)) none = SX.S (z.cps.toList.drop n) := by
  rw [C8.cutS_slice]
  have e : Txt.slice (SX.S z.cps.toList) (some (n : Int)) none = SX.S (z.cps.toList.drop n) := by
    rw [SX.slice_from (by omega)]
    rfl
  rw [SX.S_tl] at e
  exact e
theorem cut_to (z : Str) (n : Nat) : cutS z none (some (n : Int)) = SX.S (z.cps.toList.take n) := by
  rw [C8.cutS_slice]
  have e : Txt.slice (SX.S z.cps.toList) none (some (n : Int)) = SX.S (z.cps.toList.take n) := by
    rw [SX.slice_to (by omega)]
    rfl
  rw [SX.S_tl] at e
  exact e
theorem str_len (z : Str) : z.length = z.cps.toList.length := by simp [Str.length]
end Mg


set_option Elab.async false
set_option linter.all false
set_option maxRecDepth 100000
set_option maxHeartbeats 2000000
namespace Mg
open PySem L2
local macro_rules | `(tactic| walk_at "dec") => `(tactic| (first | (apply decide_eq_true; omega) | (simp only [Bool.not_eq_true', decide_eq_true_eq, decide_eq_false_iff_not, Bool.not_eq_true, Bool.not_eq_false', Decidable.not_not] <;> omega)))
abbrev sIsCommand : Stmt := top 15
abbrev sIsSymbol : Stmt := top 16
/-! ### names of symbols, over texts -/
def cLETTERS : Str := PySem.Str.ofString "abcdefghijklmnopqrstuvwxyz"
def cSIGNS : Str := PySem.Str.ofString "abcdefghijklmnopqrstuvwxyzABCDEFGHIJKLMNOPQRSTUVWXYZ0123456789+-*/=<>()[],;:!?.'"
def cRESERVED : List Str := ["@frac", "@root", "@left", "@right", "@grid"]
structure TxtS (K : PySem.W.Frag) (mg : Str → Option Value) (aR : Addr) : Prop where
  b_len : mg "len" = none
  b_all : mg "all" = none
  c_LETTERS : ∃ t, mg "LETTERS" = some (.str cLETTERS t)
  c_SIGNS : ∃ t, mg "SIGNS" = some (.str cSIGNS t)
  c_MOST_LETTERS : ∃ t, mg "MOST_LETTERS" = some (.int 8 t)
  c_RESERVED : mg "RESERVED" = some (.ref aR)
  k_RESERVED : ∀ H, SqT K H aR (cRESERVED.map V.str)
def isCommand (w : Str) : Bool := SX.S (w.cps.toList.take 1) == ("@" : Str) && (decide (1 ≤ (w.cps.toList.drop 1).length) && decide ((w.cps.toList.drop 1).length ≤ 8)) && (w.cps.toList.drop 1).all fun c => decide (c ∈ cLETTERS.cps.toList)
def isSymbol (w : Str) : Bool := if w.cps.toList.length = 1 then w.cps.toList.all fun c => decide (c ∈ cSIGNS.cps.toList) else isCommand w && !(cRESERVED.any fun r => r == w)
section
variable {P : Program} {w : World} {K : PySem.W.Frag} {mg : Str → Option Value} {base : Heap} {aR : Addr}
def spIsCommand : Sp := fun vs H Q _ => ∃ z : Str, vs = [.str z] ∧ z.length ≤ 1000 ∧ ∀ H', Same H H' → Q (.bl (isCommand z)) H'
theorem scIsCommand : FnScope ["word", "letters", "letter"] ["word"] (defScope sIsCommand) := ⟨rfl, rfl, rfl, by decide +kernel, rfl, by decide +kernel, by decide +kernel⟩
theorem dec_not {p : Prop} [Decidable p] (h : (!decide p) = true) : ¬ p := by simpa using h
theorem ok_is_command {f : Addr} {fd : FuncData} (F : Fun K "is_command" "is_command" sIsCommand f fd) (T : TxtS K mg aR) : FnOk P w K mg base CX0 1 f fd ["word"] spIsCommand := by
  have sc := scIsCommand
  refine F.ok scIsCommand (fun vs H Q E h => ?_) (fun cdv A outer s H vs Q E hr h => ?_)
  · obtain ⟨z, rfl, _⟩ := h
    rfl
  · obtain ⟨z, rfl, hz, k⟩ := h
    have big : z.length ≤ sizeLine := Nat.le_of_lt (small1000 hz)
    refine ⟨_, (pss_cons (ps_set (i := 1) sc.nd rfl (Or.inl rfl) (pe_slice sl_str (pv 0) (po_some pe_int) po_none))
  (pss_cons (ps_if (PW.pt (pw_or (pt_cmpR op_ne (pe_slice sl_str (pv 0) po_none (po_some pe_int)) pe_str (nomark _)) (pw_or1 (pt_not (pt_chain op_le op_le pe_int (pe_callB call_len_str (by rfl) T.b_len PySem.boot_len (pa_cons (pv 1) pa_nil)) (pe_gint rfl T.c_MOST_LETTERS))))))
  (pss_one (ps_ret pe_bl))
  pss_nil)
  (pss_one (ps_ret (pe_callB (cr_all rfl) (by rfl) T.b_all (by decide +kernel) (pa_cons (pe_lc (own := [("letter", 2)]) rfl sc.nd (pi_str (pv 1)) (blkOk_by (own := [("letter", 2)]) (N := ["word", "letters", "letter"]) (sc := defScope sIsCommand) (by decide +kernel)) (fun _ _ _ _ _ => (pg_name (i := 2) sc.nd rfl (Or.inl rfl))) (fun _ _ _ _ _ => pts_nil) (fun _ _ _ _ _ => (pe_cmpR op_in_sign (pv 2) (pe_gstr rfl T.c_LETTERS) (by rfl)))) pa_nil)))))), ?_⟩
    obtain ⟨l, hl⟩ : ∃ l, l = z.cps.toList := ⟨_, rfl⟩
    have zl : z.length = l.length := by rw [hl, str_len]
    have dl : (l.drop 1).length ≤ 1000 := by rw [List.length_drop]; omega
    refine ⟨_, rfl, 1, rfl, z, rfl, big, ?_⟩
    rw [show cutS z (some 1) none = SX.S (l.drop 1) by rw [hl]; exact cut_from z 1]
    refine ⟨_, rfl, 1, rfl, z, rfl, big, rfl, ?_⟩
    rw [show cutS z none (some 1) = SX.S (l.take 1) by rw [hl]; exact cut_to z 1]
    refine ⟨_, rfl, ?_⟩
    have kk : ∀ b : Bool, isCommand z = b → ∀ H', Same H H' → Q (.bl b) H' := fun b e H' s => e ▸ k H' s
    unfold isCommand at kk
    rw [← hl] at kk
    by_cases c1 : SX.S (l.take 1) = ("@" : Str)
    · refine iteN (by simp [c1]) ?_
      refine ⟨_, rfl, _, rfl, (by rw [SX.S_len]; exact Nat.le_of_lt (small1000 dl)), ?_⟩
      rw [SX.S_len]
      refine ⟨_, _, rfl, rfl, _, rfl, ?_⟩
      by_cases c2 : 1 ≤ (l.drop 1).length
      · refine iteP (by walk_at "dec") ?_
        refine ⟨_, _, rfl, rfl, _, rfl, ?_⟩
        by_cases c3 : (l.drop 1).length ≤ 8
        · refine iteN (by walk_at "dec") ?_
          refine ⟨_, rfl, _, rfl, fun D hD => lc_pure (H1 := H) ((l.drop 1).map fun c => V.bl (decide (c ∈ cLETTERS.cps.toList))) hD (by rw [List.length_map]; exact Nat.le_of_lt (small1000 dl)) ?_ ?_ ?_ ?_⟩
          · intro i H' hi _
            rw [List.length_map] at hi
            show i < (SX.S (l.drop 1)).cps.size
            simpa using hi
          · intro H' _
            rw [List.length_map]
            show (SX.S (l.drop 1)).cps.size ≤ _
            simp
          · rintro i x H' H'' R Z hi s ⟨rfl, c, hc, rfl⟩ kR
            have hc' : (l.drop 1)[i]? = some c := by simpa using hc
            refine ⟨rfl, ?_⟩
            refine ⟨_, rfl, c, _, rfl, rfl, kR _ _ ?_ (Same.refl _)⟩
            rw [List.getElem?_map, hc']
            rfl
          · intro H' s e
            refine ⟨D, (l.drop 1).map (fun c => decide (c ∈ cLETTERS.cps.toList)), rfl, SqL.of (by rw [e, List.map_map]; rfl), kk _ ?_ H' s⟩
            rw [c1, decide_eq_true c2, decide_eq_true c3, List.all_map]
            rfl
        · refine iteP (by walk_at "dec") ?_
          refine kk _ ?_ H (Same.refl _)
          rw [decide_eq_false c3]
          simp
      · refine iteN (by walk_at "dec") ⟨_, rfl, ?_⟩
        refine iteP (by rfl) ?_
        refine kk _ ?_ H (Same.refl _)
        rw [decide_eq_false c2]
        simp
    · refine iteP (by simp [c1]) ?_
      refine iteP rfl ?_
      refine kk _ ?_ H (Same.refl _)
      rw [beq_false_of_ne c1]
      simp
def spIsSymbol : Sp := fun vs H Q _ => ∃ z : Str, vs = [.str z] ∧ z.length ≤ 1000 ∧ ∀ H', Same H H' → Q (.bl (isSymbol z)) H'
theorem scIsSymbol : FnScope ["word"] ["word"] (defScope sIsSymbol) := ⟨rfl, rfl, rfl, by decide +kernel, rfl, by decide +kernel, by decide +kernel⟩
theorem inV_strs (z : Str) (l : List Str) : inV (.str z) (l.map V.str) = l.any fun r => r == z := by
  unfold inV
  rw [List.any_map]
  rfl
theorem flat_strs (l : List Str) : (l.map V.str).all flatV = true := by
  rw [List.all_map]
  exact List.all_eq_true.mpr fun _ _ => rfl
theorem ok_is_symbol {f : Addr} {fd : FuncData} (F : Fun K "is_symbol" "is_symbol" sIsSymbol f fd) (T : TxtS K mg aR) (C_is_command : Cal P w K mg base CX0 1 "is_command" ["word"] spIsCommand) : FnOk P w K mg base CX0 2 f fd ["word"] spIsSymbol := by
  have sc := scIsSymbol
  refine F.ok scIsSymbol (fun vs H Q E h => ?_) (fun cdv A outer s H vs Q E hr h => ?_)
  · obtain ⟨z, rfl, _⟩ := h
    rfl
  · obtain ⟨z, rfl, hz, k⟩ := h
    have big : z.length ≤ sizeLine := Nat.le_of_lt (small1000 hz)
    have hris_command : Room 1 _ := hr.mono (by decide)
    refine ⟨_, (pss_cons (ps_if (pt_cmpR op_eq (pe_callB call_len_str (by rfl) T.b_len PySem.boot_len (pa_cons (pv 0) pa_nil)) pe_int (nomark _))
  (pss_one (ps_ret (pe_cmpR op_in_sign (pv 0) (pe_gstr rfl T.c_SIGNS) (by rfl))))
  pss_nil)
  (pss_one (ps_ret (pe_and (pe_cal C_is_command hris_command rfl pass0 (pa_cons (pv 0) pa_nil)) (pe_one (pe_cmpR op_notIn_seq (pv 0) (pe_gref rfl T.c_RESERVED) (by rfl))))))), ?_⟩
    unfold isSymbol at k
    rw [← str_len] at k
    refine ⟨_, rfl, z, rfl, big, rfl, _, rfl, ?_⟩
    by_cases c : z.length = 1
    · refine iteP (by simp [c]) ?_
      rw [if_pos c] at k
      have c' : z.cps.toList.length = 1 := by rw [← str_len]; exact c
      obtain ⟨x, hx⟩ := List.length_eq_one_iff.mp c'
      have ez : z = ⟨#[x]⟩ := by
        rw [← SX.S_tl z, hx]
      refine ⟨_, rfl, x, _, by rw [ez], rfl, ?_⟩
      have q := k H (Same.refl _)
      rw [hx, List.all_cons, List.all_nil, Bool.and_true] at q
      exact q
    · refine iteN (by simp only [decide_eq_true_eq]; intro e; injection e with e; omega) ?_
      rw [if_neg c] at k
      refine ⟨_, rfl, z, rfl, hz, fun H1 s1 => ⟨_, rfl, ?_⟩⟩
      by_cases d : isCommand z = true
      · rw [d] at k
        refine iteP d ?_
        refine ⟨_, rfl, aR, _, rfl, .inr (T.k_RESERVED _), rfl, flat_strs _, ?_⟩
        have q := k H1 s1
        rw [Bool.true_and] at q
        show Q (V.bl (!inV (.str z) (cRESERVED.map V.str))) H1
        rw [inV_strs]
        exact q
      · refine iteN d ?_
        have q := k H1 s1
        rw [Bool.not_eq_true] at d
        rw [d, Bool.false_and] at q
        exact q
end
end Mg

set_option Elab.async false
set_option linter.all false
set_option maxRecDepth 100000
set_option maxHeartbeats 4000000
namespace PySem
namespace MgU
open PySem.W PySem.Calls PyProof.Rows PySem.HandSPX
/-! an own error below ValueError: __init__(self, name): super().__init__(f'..{name}'); self.name = name -/
def iA (p1 p2 : Pos) : Arguments := { posonlyargs := [], args := [{ arg := "self", annotation := none, pos := p1 }, { arg := "name", annotation := none, pos := p2 }], vararg := none, kwonlyargs := [], kw_defaults := [], kwarg := none, defaults := [] }
def iB (pre : Str) (a1 a2 a3 a4 a5 a6 a7 a8 a9 b1 b2 b3 b4 : Pos) : List Stmt :=
  [.Expr (.Call (.Attribute (.Call (.Name "super" a1) [] [] a2) "__init__" a3) [.JoinedStr [.Constant (.str pre) 0 a4, .FormattedValue (.Name "name" a5) (-1) none a6] a7] [] a8) a9,
   .Assign [.Attribute (.Name "self" b1) "name" b2] (.Name "name" b3) b4]
def iS : Scope := { kind := .function, names := [(PySem.Str.ofString "self", .local), (PySem.Str.ofString "name", .local), (PySem.Str.ofString "__class__", .free), (PySem.Str.ofString "super", .globalImplicit)], isGenerator := false, isCoroutine := false, more := [] }
structure UTxt (prog : Program) (K : Frag) (mg : Str → Option Value) (nm qi pre : Str) (C fI cc : Addr) : Prop where
  gC : mg nm = some (.ref C)
  cls : ∃ nm q N bs bm sn sub ab col dd k0 k1 k2 k3 k5, K.lookup C = some (excClassObj nm q C N bs bm true sn sub ab col dd k0 k1 k2 k3 k5 "ValueError.__new__") ∧ refsVE bm = true
  sa : findIn K (.ref C) "__setattr__" = some (some (.builtin "object.__setattr__"))
  noN : findIn K (.ref C) "name" = some none
  iC : findIn K (.ref C) "__init__" = some (some (.ref fI))
  tC : typeIn K (.ref fI) = some (.type "function")
  kC : keepIn K (.ref C) = true
  exC : subIn K (.ref C) (.type "BaseException") = some true
  tyC : typeIn K (.ref C) = some (.type "type")
  hC : subIn K (.ref C) (.type "ValueError") = some true
  alg : ks_superIn K C C "__init__" = some (some (.builtin "ValueError.__init__"))
  op : nsIn K cStatics "thirdparty.any" = some none
  cell : ∃ cl cld csl, K.lookup cc = some ⟨cl, cld, .cell (some (.ref C)), csl⟩
  sup : mg "super" = none
  own : mroIn K C (.ref C) = some true
  htop : (prog.main.scope.names.lookup ("super" : Str)).isSome = false
  fn : ∃ (oc : Value) (od : Option Addr) (doc pm : Value) (an : Option Addr) (cda : Addr) (ct : Value) (osl : Array (Option Value)) (p1 p2 a1 a2 a3 a4 a5 a6 a7 a8 a9 b1 b2 b3 b4 : Pos),
    K.lookup fI = some ⟨oc, od, .func (ksFn "__init__" qi (iA p1 p2) (iB pre a1 a2 a3 a4 a5 a6 a7 a8 a9 b1 b2 b3 b4) iS .none .none doc pm an (.ref cda) ct cc), osl⟩ ∧ codeIn K (.ref cda) qi = true ∧ (a3.endLine == a8.line) = true ∧
    ∃ ccl cdd vs ccs file tf, K.lookup cda = some ⟨ccl, cdd, .fields vs, ccs⟩ ∧ vs[2]? = some (.str file tf) ∧ ((prog.main.file : Str) == file) = true
theorem kept_but {K : Frag} {h h' : Heap} {x : Addr} (X : K.In h) (hx : K.lookup x = none) (k : ∀ b o, b ≠ x → h.get? b = some o → h'.get? b = some o) : K.In h' := fun a o e =>
  k a o (fun z => by rw [z, hx] at e; cases e) (X a o e)
theorem one_size (v : Value) : [v].length ≤ sizeLine := by
  rw [sizeLine_eq]
  exact (by decide : 1 ≤ 16777216)
structure InitEnd (h h' : Heap) (x C dx : Addr) (v : Value) : Prop where
  keep : ∀ b o, b ≠ x → h.get? b = some o → h'.get? b = some o
  obj : ∃ t1, h'.get? x = some { cls := .ref C, dict := some dx, data := .fields #[.ref t1, .none, .none, .none, .bool false, .none] }
  dbig : h.objs.size ≤ dx
  dne : dx ≠ x
  ns : h'.Ns1 dx (fun y => if y = "name" then some v else none)
structure OwnMade (h h' : Heap) (e C d : Addr) (v : Value) : Prop where
  keep : ∀ b o, h.get? b = some o → h'.get? b = some o
  new : h.objs.size ≤ e
  obj : ∃ oe vs, h'.get? e = some oe ∧ oe.cls = .ref C ∧ oe.dict = some d ∧ oe.data = .fields vs ∧ vs[1]? = some .none
  dbig : h.objs.size ≤ d
  dne : d ≠ e
  ns : h'.Ns1 d (fun y => if y = "name" then some v else none)
theorem call_eq {env : Env} {pre : Str} {a1 a2 a3 a4 a5 a6 a7 a8 : Pos} (h : (a3.endLine == a8.line) = true) :
    eval (.Call (.Attribute (.Call (.Name "super" a1) [] [] a2) "__init__" a3) [.JoinedStr [.Constant (.str pre) 0 a4, .FormattedValue (.Name "name" a5) (-1) none a6] a7] [] a8) env = (do
      let ov ← attributeBase (.Call (.Name "super" a1) [] [] a2) "__init__" env (eval (.Call (.Name "super" a1) [] [] a2) env)
      standAt a3.atName
      let (f, first) ← holding [ov] (getMethod ov "__init__" (do return (← importBound (.Call (.Name "super" a1) [] [] a2) env).getD true))
      callWith a8 f first (backTo a8 (starEach [.JoinedStr [.Constant (.str pre) 0 a4, .FormattedValue (.Name "name" a5) (-1) none a6] a7] env)) []) := by
  have e : methodCallPos true (.Call (.Name "super" a1) [] [] a2) env a3 a8 = pure a8 := by
    unfold methodCallPos
    rw [h]
    rfl
  show (do
      let ov ← attributeBase (.Call (.Name "super" a1) [] [] a2) "__init__" env (eval (.Call (.Name "super" a1) [] [] a2) env)
      standAt a3.atName
      let (f, first) ← holding [ov] (getMethod ov "__init__" (do return (← importBound (.Call (.Name "super" a1) [] [] a2) env).getD true))
      let callPos ← methodCallPos true (.Call (.Name "super" a1) [] [] a2) env a3 a8
      callWith callPos f first (backTo a8 (starEach [.JoinedStr [.Constant (.str pre) 0 a4, .FormattedValue (.Name "name" a5) (-1) none a6] a7] env)) []) = _
  rw [e]
  rfl
section
variable {prog : Program} {w : World} {A : Around} {E : Value → Shared → Prop} {R : Result → Shared → Prop} {s : Shared} {K : Frag} {mg : Str → Option Value} {C fI cc : Addr} {nm qi pre : Str}
/-- the bound __init__ of ValueError called -/
theorem call_bwV {h : Heap} {g : Array GenState} {d : Drawn} {t : Nat} {os : OsState} {u e t0 : Addr} {rest : List Value} {Q : Value → Shared → Prop} {nm q : Str} {C N : Addr} {bs bm : List Value} {hdct : Bool} {sn : List Str} {sub : List Value} {ab : Bool} {col : Option Bool} {dd : Option Addr} {k0 k1 k2 k3 k5 : Option Value}
    (hC : h.get? C = some (excClassObj nm q C N bs bm hdct sn sub ab col dd k0 k1 k2 k3 k5 "ValueError.__new__")) (he : h.get? e = some (excO C t0)) (hu : h.get? u = some (kxs_mw "ValueError.__init__" e)) (hrest : rest.length ≤ sizeLine)
    (hq : ∀ h' t1, (∀ b o, b ≠ e → h.get? b = some o → h'.get? b = some o) → h'.get? e = some (excO C t1) → h.objs.size ≤ h'.objs.size → Q .none ⟨h', g, d, t, os⟩) :
    wpAny (model prog w) A (call (.ref u) rest) Q E ⟨h, g, d, t, os⟩ := by
  refine wpAny_call (codeAny_of_tree ?_)
  show wpAny _ A.in1 (callAny (.ref u) ⟨rest, []⟩) _ _ _
  simp only [callAny]
  refine wpAny_bind (wpAny_load hu ?_)
  simp only [kxs_mw, show (Value.type "method-wrapper" == Value.type "method" || Value.type "method-wrapper" == Value.type "builtin_function_or_method" || Value.type "method-wrapper" == Value.type "method-wrapper") = true by decide, if_true]
  refine KFB.if_so (by decide) ?_
  refine wpAny_bind (check_bound_init F.excBase_ValueError.toExcCallFacts hC he rfl ?_)
  refine wpAny_bind (wpAny_pure (wpAny_pure ?_))
  refine ⟨plainId_quiet F.excBase_ValueError.init.plain _, codeAny_builtin F.excBase_ValueError.initEntry ?_⟩
  rw [Around.under_plainId F.excBase_ValueError.init.plain _]
  refine exc_init_tree (cls := .ref C) (t0 := t0) (dv := none) (c2 := .none) (c3 := .none) (b4 := .bool false) he hrest fun h' k e' t' => ?_
  exact hq h' h.objs.size k e' (Nat.le_of_lt (Heap.lt_size t'))
theorem u_init (T : UTxt prog K mg nm qi pre C fI cc) {x t0 : Addr} {y : Str} {ty : Tok} (X : K.In s.heap) (hlim : s.heap.NoLimit) (hx : s.heap.get? x = some (excO C t0)) (hnx : K.lookup x = none) (hroom : A.depth < recursionLimit)
    (hG : s.heap.Ns mainGlobals mg) (hB : ∃ mb, s.heap.Ns builtinsNs mb ∧ ∀ x : Str, x ≠ "__name__" → mb x = bootBuiltins x) (hp : (Str.empty ++ pre).length ≤ sizeLine) (hy : (Str.empty ++ pre ++ y).length ≤ sizeLine) (hz : y.length ≤ sizeLine)
    (hq : ∀ h' tk dx, InitEnd s.heap h' x C dx (.str y ty) → R (.ok (.ret .none)) { s with heap := h', toks := tk }) :
    codeAny (model prog w) A (.call (.ref fI) ⟨[.ref x, .str y ty], []⟩) R s := by
  obtain ⟨oc, od, doc, pm, an, cda, ct, osl, p1, p2, a1, a2, a3, a4, a5, a6, a7, a8, a9, b1, b2, b3, b4, ho, hcd, hpos, ccl, cdd, vs, ccs, file, tf, hcda, hvs, hfile⟩ := T.fn
  obtain ⟨nm', q, N, bs, bm, sn, sub, ab, col, dd, k0, k1, k2, k3, k5, hC, hbm⟩ := T.cls
  obtain ⟨cl, cld, csl, hcell⟩ := T.cell
  have hcl : clsIn K C = some { name := nm', bases := bs, mro := .ref C :: bm, ns := N, qualname := q, hasDict := true, slotNames := sn, subclasses := sub, abstract := ab, collection := col, hasDel := false } := by unfold clsIn; rw [hC] <;> rfl
  obtain ⟨hp0, g, dr, tk, os⟩ := s
  refine ks_codeAny_call_defAt (fd := ksFn "__init__" qi (iA p1 p2) (iB pre a1 a2 a3 a4 a5 a6 a7 a8 a9 b1 b2 b3 b4) iS .none .none doc pm an (.ref cda) ct cc) (body := iB pre a1 a2 a3 a4 a5 a6 a7 a8 a9 b1 b2 b3 b4) (binds := [("self", .ref x), ("name", .str y ty)])
    hroom (X _ _ ho) rfl hlim (codeRec_of X hcd) rfl (BindsTo.of_eq (by first | rfl | with_unfolding_all rfl)) (show ∀ z ∈ iS.names, z.2 ≠ .cell by decide) (fun (z : Str × Value) hz => ?_) fun h₁ hn k => ?_
  · have hz' : z = (("self" : Str), Value.ref x) ∨ z = (("name" : Str), Value.str y ty) := by simpa using hz
    rcases hz' with rfl | rfl <;> first | rfl | decide
  have X₁ : K.In h₁ := X.keeps k
  have hx₁ := k _ _ hx
  have hself : ([("self", Value.ref x), ("name", .str y ty)] : List (Str × Value)).reverse.lookup ("self" : Str) = some (Value.ref x) := by first | rfl | kernel_rfl
  have hname : ([("self", Value.ref x), ("name", .str y ty)] : List (Str × Value)).reverse.lookup ("name" : Str) = some (Value.str y ty) := by first | rfl | kernel_rfl
  have hG₁ : h₁.Ns mainGlobals mg := hG.keeps k
  obtain ⟨mb, hB1, hB2⟩ := hB
  have hB₁ : h₁.Ns builtinsNs mb := hB1.keeps k
  have hD₁ := X₁ _ _ hC
  refine ks_wpAt_execs_cons (ks_wpAt_Expr_any (ks_wpAt_MethodCall ?_ (call_eq hpos)))
  refine ks_wpAt_super_base (by rfl) (by rfl) (by rfl) rfl (X₁ _ _ ho) rfl (by rfl) rfl (X₁ _ _ hcda) rfl hvs hfile T.htop ?_
  refine ks_loadName_global (by rfl) (by rfl) (loadGlobal_builtin hG₁ T.sup hB₁ ((hB2 _ (by decide)).trans (by first | rfl | decide)) ⟨rfl, ?_⟩)
  refine wpAny_loadName_free (by rfl) (by rfl) (by rfl) ⟨_, X₁ _ _ hcell, rfl⟩ ?_
  refine wpAny_loadName_local (by rfl) (by rfl) hn hself ?_
  refine ks_wpAny_isType_cls hD₁ rfl ⟨rfl, ?_⟩
  refine ks_wpAny_call_super hD₁ rfl hx₁ rfl (fun c e => by cases e) (looks_mroIn X₁ T.own) fun h₂ e₂ k₂ => ?_
  have X₂ : K.In h₂ := X₁.keeps k₂
  have hx₂ := k₂ _ _ hx₁
  have hn₂ := hn.keeps k₂
  have I₂ : W.InstAt h₂ x (excO C t0) C none := ⟨hx₂, rfl, rfl, trivial⟩
  have hI : Looks (model prog w) h₂ (isInstance (.ref x) (.type "ValueError")) true := I₂.type.andThen (looks_subIn X₂ T.hC)
  have halg := T.alg
  unfold ks_superIn at halg
  rw [hcl] at halg
  refine kxs_getMethod kxs_ValueError e₂ (looks_opaque X₂ T.op) (l₀ := .ref C :: bm) (fun A Q E s k q => wpAny_bind ((looks_clsIn X₂ hcl) A _ E s k (wpAny_pure q))) rfl X₂ halg hI (ks_ne X₂ I₂ hcl) (by rfl) ?_
  have k₃ : ∀ b o, h₂.get? b = some o → (h₂.push (kxs_mw "ValueError.__init__" x)).get? b = some o := fun b o e => Heap.get?_push_of_some _ e
  have hu₃ : (h₂.push (kxs_mw "ValueError.__init__" x)).get? h₂.objs.size = some (kxs_mw "ValueError.__init__" x) := Heap.get?_push_at rfl rfl
  have hn₃ := hn₂.keeps k₃
  have hx₃ := k₃ _ _ hx₂
  have X₃ := X₂.keeps k₃
  refine kxs_callWith (i := "ValueError.__init__") (x := x) (by rfl) (evalArgs_plain ?_)
  refine spliced_cons ?_
  rw [if_neg Bool.false_ne_true]
  refine wpAny_JoinedStr ?_
  have ev0 : ∀ (env : Env), evalEach [Expr.Constant (Const.str pre) 0 a4, (Expr.Name (PySem.Str.ofString "name") a5).FormattedValue (-1) none a6] env = [eval (Expr.Constant (Const.str pre) 0 a4) env, eval ((Expr.Name (PySem.Str.ofString "name") a5).FormattedValue (-1) none a6) env] := fun env => by first | rfl | simp [evalEach]
  rw [ev0]
  show wpAny _ _ (eval (Expr.Constant (Const.str pre) 0 a4) _) _ _ _
  refine wpAny_Constant_str ⟨pre, _, rfl, hp, ?_⟩
  show wpAny _ _ (eval ((Expr.Name (PySem.Str.ofString "name") a5).FormattedValue (-1) none a6) _) _ _ _
  refine FormattedValue_plain (wpAny_Name (wpAny_loadName_local (by rfl) (by rfl) hn₃ hname ?_) (by decide))
  refine formatField_str (fun t' tk' => ⟨y, _, rfl, hy, ?_⟩) hz
  refine ⟨hy, ?_⟩
  refine spliced_nil ⟨hu₃, ?_⟩
  refine call_bwV (X₃ _ _ hC) hx₃ hu₃ (one_size _) fun h₄ t1 k₄ hx₄ hs₄ => ?_
  show wpAt _ _ _ (execs _ _) _ _ _
  have hxL : hp0.objs.size ≠ x := Nat.ne_of_gt (Heap.lt_size hx)
  have X₄ : K.In h₄ := kept_but X₃ hnx k₄
  have hn₄ : h₄.Ns hp0.objs.size (fun z => ([("self", Value.ref x), ("name", .str y ty)] : List (Str × Value)).reverse.lookup z) := by
    obtain ⟨oL, es, ep, hL, r⟩ := hn₃
    exact ⟨oL, es, ep, k₄ _ _ hxL hL, r⟩
  refine wpAt_of_wpAny (wpAny_execs_cons (plainObj_wpAny_Assign_Attribute ?_))
  refine wpAny_Name (wpAny_loadName_local (by rfl) (by rfl) hn₄ hname ?_) (by decide)
  refine wpAny_Name (wpAny_loadName_local (by rfl) (by rfl) hn₄ hself ?_) (by decide)
  refine set_plain X₄ (ox := excO C t1) (od := none) ⟨hx₄, rfl, rfl, trivial⟩ T.sa ?_
  refine exc_osa X₄ hx₄ hcl (show refsVE (.ref C :: bm) = true from hbm) rfl T.noN (fun h₅ tk₅ dx k₅ dn dne hx₅ hn₅ => ?_)
  show wpAny _ _ (execs _ _) _ _ _
  refine wpAny_execs_nil (hq h₅ tk₅ dx ⟨fun b o hb e => k₅ b o hb (k₄ b o hb (k₃ b o (k₂ b o (k b o e)))), ⟨t1, hx₅⟩, ?_, dne, hn₅⟩)
  exact Nat.le_of_lt (Nat.lt_of_lt_of_le hn₄.lt dn)
theorem u_made (T : UTxt prog K mg nm qi pre C fI cc) {y : Str} {ty : Tok} (X : K.In s.heap) (hlim : s.heap.NoLimit) (hroom : A.depth + 1 < recursionLimit)
    (hG : s.heap.Ns mainGlobals mg) (hB : ∃ mb, s.heap.Ns builtinsNs mb ∧ ∀ x : Str, x ≠ "__name__" → mb x = bootBuiltins x) (hp : (Str.empty ++ pre).length ≤ sizeLine) (hy : (Str.empty ++ pre ++ y).length ≤ sizeLine) (hz : y.length ≤ sizeLine)
    (hq : ∀ h' tk e d, OwnMade s.heap h' e C d (.str y ty) → R (.ok (.ret (.ref e))) { s with heap := h', toks := tk }) :
    codeAny (model prog w) A (.call (.ref C) ⟨[.str y ty], []⟩) R s := by
  obtain ⟨nm, q, N, bs, bm, sn, sub, ab, col, dd, k0, k1, k2, k3, k5, hC, hbm⟩ := T.cls
  obtain ⟨hp0, g, dr, tk, os⟩ := s
  have k : ∀ b o, hp0.get? b = some o → ((hp0.push (kdv_tup [Value.str y ty])).push (excO C hp0.objs.size)).get? b = some o := fun b o e => Heap.get?_push_of_some _ (Heap.get?_push_of_some _ e)
  have hget : ((hp0.push (kdv_tup [Value.str y ty])).push (excO C hp0.objs.size)).get? (hp0.objs.size + 1) = some (excO C hp0.objs.size) := by heap_get
  have hnx : K.lookup (hp0.objs.size + 1) = none := by
    cases e : K.lookup (hp0.objs.size + 1) with
    | none => rfl
    | some o =>
      have z : hp0.get? (hp0.objs.size + 1) = some o := X _ _ e
      exact absurd (Nat.lt_of_succ_lt (Heap.lt_size z)) (Nat.lt_irrefl _)
  refine call_own F.excBase_ValueError (fun X => refsVE_contains X bm hbm) (X _ _ hC) (looks_findIn X T.iC) (fun self => bind_fn X self T.tC) (one_size (.str y ty)) ?_
  obtain ⟨mb, hB1, hB2⟩ := hB
  refine u_init (s := ⟨(hp0.push (kdv_tup [Value.str y ty])).push (excO C hp0.objs.size), g, dr, tk, os⟩) T (X.keeps k) (hlim.keeps k) hget hnx ?_ (hG.keeps k) ⟨mb, hB1.keeps k, hB2⟩ hp hy hz fun h' tk' dx ⟨k', ⟨t1, hx⟩, dn, dne, hns⟩ => ?_
  · show A.depth + 1 < recursionLimit
    exact hroom
  · have old : ∀ b o, hp0.get? b = some o → h'.get? b = some o := fun b o e => k' b o (Nat.ne_of_lt (Nat.lt_succ_of_lt (Heap.lt_size e))) (k b o e)
    have z : hp0.objs.size + 1 + 1 ≤ dx := by
      first
        | (simpa only [Heap.size_push] using dn)
        | exact dn
        | (have q := dn; rw [Heap.size_push, Heap.size_push] at q; exact q)
    exact ⟨rfl, hq h' tk' (hp0.objs.size + 1) dx ⟨old, Nat.le_succ _, ⟨_, _, hx, rfl, rfl, rfl, rfl⟩, Nat.le_trans (Nat.le_trans (Nat.le_succ _) (Nat.le_succ _)) z, dne, hns⟩⟩
end
end MgU
end PySem

set_option Elab.async false
set_option linter.all false
set_option maxRecDepth 100000
set_option maxHeartbeats 4000000
namespace Hk
open PySem PySem.Spec PyProof.Rows L2 He
/-! the head by one run of the kernel: facts by names, by Bools of what is reached -/
abbrev Fg := PySem.W.Frag
def nsA (K : Fg) (d : Addr) (k : Str) : Addr := match PySem.W.nsIn K d k with
  | some (some (.ref a)) => a
  | _ => 0
def itA (K : Fg) (a : Addr) (i : Nat) : Addr := match K.lookup a with
  | some ⟨_, _, .seq its _, _⟩ => (match its.toList[i]? with
    | some (.ref b) => b
    | _ => 0)
  | _ => 0
def seqB (K : Fg) (a : Addr) (vs : List V) : Bool := match K.lookup a with
  | some ⟨.type c, _, .seq its _, _⟩ => decide (c = "tuple") && (decide (its.size ≤ sizeLine) && relAll vs its.toList)
  | _ => false
theorem seqB_ok {K : Fg} {a : Addr} {vs : List V} (h : seqB K a vs = true) (H : Hp) : SqT K H a vs := by
  unfold seqB at h
  cases q : K.lookup a with
  | none =>
    rw [q] at h
    cases h
  | some o =>
    obtain ⟨oc, od, dt, osl⟩ := o
    rw [q] at h
    cases oc with
    | type c =>
      cases dt with
      | seq its n =>
        obtain ⟨h1, h2⟩ := ba (show (decide (c = "tuple") && (decide (its.size ≤ sizeLine) && relAll vs its.toList)) = true from h)
        obtain ⟨h3, h4⟩ := ba h2
        exact .inr ⟨_, its, n, q, congrArg Value.type (of_decide_eq_true h1), rfl, of_decide_eq_true h3, relAll_ok h4⟩
      | _ => cases h
    | _ => cases dt <;> cases h
def tupO (K : Fg) (a : Addr) : Bool := match K.lookup a with
  | some ⟨.type c, none, _, _⟩ => decide (c = "tuple")
  | _ => false
theorem tupO_ok {K : Fg} {a : Addr} (h : tupO K a = true) : ∃ o, K.lookup a = some o ∧ o.cls = .type "tuple" ∧ o.dict = none := by
  unfold tupO at h
  cases q : K.lookup a with
  | none =>
    rw [q] at h
    cases h
  | some o =>
    obtain ⟨oc, od, dt, osl⟩ := o
    rw [q] at h
    cases oc with
    | type c =>
      cases od with
      | none => exact ⟨_, rfl, congrArg Value.type (of_decide_eq_true h), rfl⟩
      | some d => cases h
    | _ => cases od <;> cases h
def intB (K : Fg) (x : Str) (i : Int) : Bool := match PySem.W.nsIn K mainGlobals x with
  | some (some (.int j _)) => decide (j = i)
  | _ => false
def strB (K : Fg) (x z : Str) : Bool := match PySem.W.nsIn K mainGlobals x with
  | some (some (.str y _)) => decide (y = z)
  | _ => false
theorem intN {K : Fg} {x : Str} {i : Int} (h : intB K x i = true) : ∃ t, PySem.W.nsIn K mainGlobals x = some (some (.int i t)) := by
  unfold intB at h
  split at h
  · rename_i j t e
    exact ⟨t, by rw [e, of_decide_eq_true h]⟩
  · cases h
theorem strN {K : Fg} {x z : Str} (h : strB K x z = true) : ∃ t, PySem.W.nsIn K mainGlobals x = some (some (.str z t)) := by
  unfold strB at h
  split at h
  · rename_i j t e
    exact ⟨t, by rw [e, of_decide_eq_true h]⟩
  · cases h
theorem fun_of {K : Fg} {x q : Str} {s : Stmt} {f : Addr} (h : ∃ fd, FunD K x q (defArgs s) (defBody s) (defScope s) [] [] f fd) : ∃ fd, L2.Fun K x q s f fd := by
  obtain ⟨fd, F⟩ := h
  obtain ⟨oc, od, dV, kV, doc, pm, an, cdv, ct, osl, e, l, c, d, _⟩ := F.ex
  have : dV = .none := d.elim (fun z => z.2) fun z => absurd rfl z.1
  subst this
  exact ⟨fd, ⟨oc, od, kV, doc, pm, an, cdv, ct, osl, e, l, c⟩, F.kp⟩
/-! a def with a closure of one cell; a class under ValueError; its file -/
abbrev FnC : Type := Option (Str × Str × Arguments × FuncBody × Scope × Addr × List Str × Addr)
def fnC (K : Fg) (a : Addr) : FnC := match K.lookup a with
  | some ⟨_, _, .func fd, _⟩ => some (fd.name, fd.qualname, fd.params, fd.body, fd.scope, fd.globals, fd.closure.map (·.1), fd.builtins)
  | _ => none
def cdF (K : Fg) (a : Addr) : Addr := match K.lookup a with
  | some ⟨_, _, .func fd, _⟩ => (match fd.code with
    | .ref c => c
    | _ => 0)
  | _ => 0
def clF (K : Fg) (a : Addr) : Addr := match K.lookup a with
  | some ⟨_, _, .func fd, _⟩ => (match fd.closure with
    | (_, c) :: _ => c
    | _ => 0)
  | _ => 0
def fnB (K : Fg) (a : Addr) : Bool := match K.lookup a with
  | some ⟨_, _, .func fd, _⟩ => (match fd.code, fd.defaults, fd.kwdefaults with
    | .ref _, .none, .none => true
    | _, _, _ => false)
  | _ => false
theorem fnC_ok {K : Fg} {a : Addr} {x q : Str} {ps : Arguments} {b : List Stmt} {sc : Scope} (e : fnC K a = some (x, q, ps, FuncBody.stmts b, sc, mainGlobals, [("__class__" : Str)], builtinsNs)) (c : fnB K a = true) :
    ∃ (oc : Value) (od : Option Addr) (doc pm : Value) (an : Option Addr) (ct : Value) (osl : Array (Option Value)), K.lookup a = some ⟨oc, od, .func (PySem.W.ksFn x q ps b sc .none .none doc pm an (.ref (cdF K a)) ct (clF K a)), osl⟩ := by
  unfold fnC at e
  unfold fnB at c
  unfold cdF clF
  cases z : K.lookup a with
  | none =>
    rw [z] at c
    cases c
  | some o =>
    obtain ⟨oc, od, dt, osl⟩ := o
    rw [z] at c e
    cases dt with
    | func fd =>
      obtain ⟨n1, n2, n3, n4, n5, n6, n7, n8, n9, n10, n11, n12, n13, n14, n15⟩ := fd
      have e2 : (some (n1, n2, n3, n4, n5, n6, n7.map (·.1), n15) : FnC) = some (x, q, ps, FuncBody.stmts b, sc, mainGlobals, [("__class__" : Str)], builtinsNs) := e
      simp only [Option.some.injEq, Prod.mk.injEq] at e2
      obtain ⟨h1, h2, h3, h4, h5, h6, h7, h8⟩ := e2
      subst h1 h2 h3 h4 h5 h6 h8
      dsimp only at c ⊢
      split at c
      · rename_i k1 k2 k3
        obtain ⟨nm, cc, rfl, rfl⟩ : ∃ nm cc, n7 = [(nm, cc)] ∧ nm = ("__class__" : Str) := by
          cases n7 with
          | nil => cases h7
          | cons p r =>
            cases r with
            | nil =>
              rw [List.map_cons, List.map_nil, List.cons.injEq] at h7
              exact ⟨p.1, p.2, rfl, h7.1⟩
            | cons p2 r => simp at h7
        exact ⟨oc, od, n10, n11, n12, n14, osl, rfl⟩
      · cases c
    | _ => cases c
def uClsB (K : Fg) (C : Addr) : Bool := match K.lookup C with
  | some ⟨.type "type", _, .cls cd, sl⟩ => (match cd.mro, sl.toList with
    | .ref C' :: bm, [_, _, _, _, some (.builtin n), _] => C' == C && n == "ValueError.__new__" && !cd.hasDel && cd.hasDict && PySem.HandSPX.refsVE bm
    | _, _ => false)
  | _ => false
theorem uCls_ok {K : Fg} {C : Addr} (q : uClsB K C = true) : ∃ nm q N bs bm sn sub ab col dd k0 k1 k2 k3 k5, K.lookup C = some (excClassObj nm q C N bs bm true sn sub ab col dd k0 k1 k2 k3 k5 "ValueError.__new__") ∧ PySem.HandSPX.refsVE bm = true := by
  unfold uClsB at q
  split at q
  · rename_i dd cd sl ho
    split at q
    · rename_i C' bm k0 k1 k2 k3 n k5 hm hs
      simp only [Bool.and_eq_true, beq_iff_eq, Bool.not_eq_true'] at q
      obtain ⟨⟨⟨⟨rfl, rfl⟩, hdel⟩, hdc⟩, ht⟩ := q
      obtain ⟨nm, bs, mro, ns, qn, hd, sn, sub, ab, col, del⟩ := cd
      dsimp only at hm hdel hdc
      subst hm hdel hdc
      have hsl : sl = #[k0, k1, k2, k3, some (.builtin "ValueError.__new__"), k5] := by
        obtain ⟨l⟩ := sl
        simp only at hs
        rw [hs]
      subst hsl
      exact ⟨nm, qn, ns, bs, bm, sn, sub, ab, col, dd, k0, k1, k2, k3, k5, ho, ht⟩
    · cases q
  · cases q
def cellB (K : Fg) (a C : Addr) : Bool := match K.lookup a with
  | some ⟨_, _, .cell (some (.ref c)), _⟩ => c == C
  | _ => false
theorem cell_ok {K : Fg} {a C : Addr} (h : cellB K a C = true) : ∃ cl cld csl, K.lookup a = some ⟨cl, cld, .cell (some (.ref C)), csl⟩ := by
  unfold cellB at h
  split at h
  · rename_i oc od c sl e
    exact ⟨oc, od, sl, by rw [e, beq_iff_eq.mp h]⟩
  · cases h
def fileB (K : Fg) (F : Str) (a : Addr) : Bool := match K.lookup a with
  | some ⟨_, _, .fields vs, _⟩ => (match (vs[2]? : Option Value) with
    | some (Value.str file _) => F == file
    | _ => false)
  | _ => false
theorem file_ok {K : Fg} {F : Str} {a : Addr} (h : fileB K F a = true) : ∃ ccl cdd vs ccs file tf, K.lookup a = some ⟨ccl, cdd, .fields vs, ccs⟩ ∧ vs[2]? = some (.str file tf) ∧ (F == file) = true := by
  unfold fileB at h
  split at h
  · rename_i oc od vs sl e
    split at h
    · rename_i file t e2
      exact ⟨oc, od, vs, sl, file, t, e, e2, h⟩
    · cases h
  · cases h
/-! the Hook -/
abbrev Fu : Type := (Fg → Addr) × FnC
abbrev AlU : Type := (Bool × List FnW) × List (Option (List (Option (Str × Int)))) × List FnC
def obsU (ex : Fg → Bool) (fn : List DefD) (ts : List Tab) (us : List Fu) (K : Fg) : AlU := ((ex K && fn.all fun d => d.ok K, fn.map fun d => fnW K d.at_), ts.map fun t => dicW K (t.1 K), us.map fun u => fnC K (u.1 K))
def valU (fn : List DefD) (ts : List Tab) (us : List Fu) (w : World) : AlU := ((true, fn.map DefD.val), ts.map fun t => some (keysIn w.params t.2), us.map fun u => u.2)
def SaysU (ex : Fg → Bool) (fn : List DefD) (ts : List Tab) (us : List Fu) (w : World) (K : Fg) : Prop := obsU ex fn ts us K = valU fn ts us w
def grF (g : Addr → Option Obj) (as : List Addr) : List Addr := (as.flatMap fun a => match g a with
  | some o => refsD o
  | none => []).filter fun a => !(a == mainGlobals)
/-- what four steps reach, each step once -/
def asS (g : Addr → Option Obj) : List Addr := cStatics :: mainGlobals :: (grF g [mainGlobals] ++ (grF g (grF g [mainGlobals]) ++ (grF g (grF g (grF g [mainGlobals])) ++ grF g (grF g (grF g (grF g [mainGlobals]))))))
def obsUG (ex : Fg → Bool) (fn : List DefD) (ts : List Tab) (us : List Fu) (g : Addr → Option Obj) : AlU := obsU ex fn ts us (frG g (asS g))
def hookU (ex : Fg → Bool) (fn : List DefD) (ts : List Tab) (us : List Fu) : PySem.W.Hook where
  α := AlU
  obs := fun s => obsUG ex fn ts us s.heap.get?
  val := fun w => valU fn ts us w
  says := fun w h => ∃ K : Fg, K.In h ∧ SaysU ex fn ts us w K
  of := fun _ _ e => ⟨_, frG_in, e⟩
  keeps := fun _ _ _ ⟨K, hK, c⟩ k => ⟨K, PySem.W.Frag.In.keeps hK k, c⟩
theorem obsUG_eq {ex : Fg → Bool} {fn : List DefD} {ts : List Tab} {us : List Fu} {g : Addr → Option Obj} {s : Shared} (h : ∀ a, g a = s.heap.get? a) : obsUG ex fn ts us g = (hookU ex fn ts us).obs s := by
  have e : g = s.heap.get? := funext h
  rw [e] <;> rfl
section
variable {xe : Fg → Bool} {fn : List DefD} {ts : List Tab} {us : List Fu} {w : World} {K : Fg}
theorem SaysU.ex (c : SaysU xe fn ts us w K) : xe K = true := (ba (show (xe K && fn.all fun d => d.ok K) = true from congrArg (fun z : AlU => z.1.1) c)).1
theorem SaysU.def_ (c : SaysU xe fn ts us w K) (i : Nat) {d : DefD} (h : fn[i]? = some d := by rfl) : ∃ fd, FunD K d.name d.qual d.params d.body d.scope (d.dvs K) (d.kws K) (fAd K d.at_) fd := by
  have c2 := (ba (show (xe K && fn.all fun d => d.ok K) = true from congrArg (fun z : AlU => z.1.1) c)).2
  have e : fn.map (fun d => fnW K d.at_) = fn.map DefD.val := congrArg (fun z : AlU => z.1.2) c
  have e2 : (fn.map fun d => fnW K d.at_)[i]? = (fn.map DefD.val)[i]? := by rw [e]
  rw [List.getElem?_map, List.getElem?_map, h] at e2
  exact DefD.funD (Option.some.inj e2) (List.all_eq_true.mp c2 d (List.mem_of_getElem? h))
theorem SaysU.tab (c : SaysU xe fn ts us w K) (i : Nat) {t : Tab} (h : ts[i]? = some t := by rfl) : ∃ es n, KDict K w (t.1 K) es n := by
  have e : ts.map (fun t => dicW K (t.1 K)) = ts.map fun t => some (keysIn w.params t.2) := congrArg (fun z : AlU => z.2.1) c
  have e2 : (ts.map fun t => dicW K (t.1 K))[i]? = (ts.map fun t => some (keysIn w.params t.2))[i]? := by rw [e]
  rw [List.getElem?_map, List.getElem?_map, h] at e2
  exact dicW_ok (Option.some.inj e2)
theorem SaysU.fnc (c : SaysU xe fn ts us w K) (i : Nat) {u : Fu} (h : us[i]? = some u := by rfl) : fnC K (u.1 K) = u.2 := by
  have e : us.map (fun u => fnC K (u.1 K)) = us.map fun u => u.2 := congrArg (fun z : AlU => z.2.2) c
  have e2 : (us.map fun u => fnC K (u.1 K))[i]? = (us.map fun u => u.2)[i]? := by rw [e]
  rw [List.getElem?_map, List.getElem?_map, h] at e2
  exact Option.some.inj e2
end
theorem chk_at {bs : List Bool} (h : bs.all id = true) (i : Nat) {b : Bool} (e : bs[i]? = some b) : b = true := List.all_eq_true.mp h b (List.mem_of_getElem? e)
end Hk
namespace Hk
open PySem PySem.Spec PyProof.Rows L2 He
theorem mg_ex {K : Fg} {h : Heap} {mg : Str → Option Value} {x : Str} {f : Tok → Value} (X : K.In h) (G : h.Ns mainGlobals mg) (c : ∃ t, PySem.W.nsIn K mainGlobals x = some (some (f t))) : ∃ t, mg x = some (f t) := by
  obtain ⟨t, e⟩ := c
  exact ⟨t, PySem.W.mg_of X G e⟩
theorem kd_of {K : Fg} {w : World} {a : Addr} (h : ∃ es n, KDict K w a es n) : ∃ es n, K.lookup a = some ⟨.type "dict", none, .dict es n, #[]⟩ ∧ PySem.W.KeysLit w.params es.toList ∧ (a == sysModules) = false := by
  obtain ⟨es, n, k⟩ := h
  exact ⟨es, n, k.1, k.2, k.3⟩
end Hk

set_option Elab.async false
set_option linter.all false
set_option maxRecDepth 100000
set_option maxHeartbeats 0
namespace Mg.Nw
open PySem PySem.Spec PyProof.Rows L2 He Hk
abbrev RW : PySem.W.OpenRow := PySem.W.OpenLaw.row PySem.Challenge.rw_mathgalley_k50_places_of_carets
def chks (K : Fg) : List Bool := [
  decide (PySem.W.nsIn K mainGlobals "law" = some (some (.ref (ga K "law")))),
  PySem.W.keepIn K (.ref (ga K "law")),
  decide (PySem.W.nsIn K mainGlobals "nucleus_rows" = some (some (.ref (ga K "nucleus_rows")))),
  PySem.W.keepIn K (.ref (ga K "nucleus_rows")),
  decide (PySem.W.nsIn K mainGlobals "rows_in" = some (some (.ref (ga K "rows_in")))),
  PySem.W.keepIn K (.ref (ga K "rows_in")),
  decide (PySem.W.nsIn K mainGlobals "rows_of" = some (some (.ref (ga K "rows_of")))),
  PySem.W.keepIn K (.ref (ga K "rows_of")),
  decide (PySem.W.nsIn K mainGlobals "row_words" = some (some (.ref (ga K "row_words")))),
  PySem.W.keepIn K (.ref (ga K "row_words")),
  decide (PySem.W.nsIn K mainGlobals "braced_words" = some (some (.ref (ga K "braced_words")))),
  PySem.W.keepIn K (.ref (ga K "braced_words")),
  decide (PySem.W.nsIn K mainGlobals "nucleus_words" = some (some (.ref (ga K "nucleus_words")))),
  PySem.W.keepIn K (.ref (ga K "nucleus_words")),
  decide (PySem.W.nsIn K mainGlobals "fence_words" = some (some (.ref (ga K "fence_words")))),
  PySem.W.keepIn K (.ref (ga K "fence_words")),
  decide (PySem.W.nsIn K mainGlobals "grid_words" = some (some (.ref (ga K "grid_words")))),
  PySem.W.keepIn K (.ref (ga K "grid_words")),
  decide (PySem.W.nsIn K mainGlobals "len" = some none),
  decide (PySem.W.nsIn K mainGlobals "max" = some none),
  decide (PySem.W.nsIn K mainGlobals "sum" = some none),
  decide (PySem.W.nsIn K mainGlobals "enumerate" = some none),
  strB K "LETTERS" Mg.cLETTERS,
  intB K "DEEPEST" 7,
  intB K "MOST_ITEMS" 80,
  intB K "LONGEST" 400,
  decide (PySem.W.nsIn K mainGlobals "depth_of" = some (some (.ref (ga K "depth_of")))),
  PySem.W.keepIn K (.ref (ga K "depth_of")),
  decide (PySem.W.nsIn K mainGlobals "Reader" = some (some (.ref (ga K "Reader")))),
  PySem.W.plainGet K (ga K "Reader") Str.empty,
  PySem.W.hasDictIn K (ga K "Reader"),
  PySem.W.plainOver K (ga K "Reader"),
  decide (PySem.W.findIn K (.ref (ga K "Reader")) "__setattr__" = some (some (.builtin "object.__setattr__"))),
  PySem.W.makesIn K (ga K "Reader"),
  PySem.W.keepIn K (.ref (ga K "Reader")),
  decide (PySem.W.nsIn K mainGlobals "is_command" = some (some (.ref (ga K "is_command")))),
  PySem.W.keepIn K (.ref (ga K "is_command")),
  decide (PySem.W.nsIn K mainGlobals "all" = some none),
  strB K "SIGNS" Mg.cSIGNS,
  intB K "MOST_LETTERS" 8,
  decide (PySem.W.nsIn K mainGlobals "RESERVED" = some (some (.ref (ga K "RESERVED")))),
  seqB K (ga K "RESERVED") ([V.str "@frac", V.str "@root", V.str "@left", V.str "@right", V.str "@grid"] : List V),
  decide (PySem.W.nsIn K mainGlobals "is_symbol" = some (some (.ref (ga K "is_symbol")))),
  PySem.W.keepIn K (.ref (ga K "is_symbol")),
  decide (PySem.W.nsIn K mainGlobals "_command_at" = some (some (.ref (ga K "_command_at")))),
  PySem.W.keepIn K (.ref (ga K "_command_at")),
  strB K "MARKS" "{}^_&~",
  strB K "BAD" "bad",
  strB K "END" "end",
  decide (PySem.W.nsIn K mainGlobals "_token_at" = some (some (.ref (ga K "_token_at")))),
  PySem.W.keepIn K (.ref (ga K "_token_at")),
  decide (PySem.W.nsIn K mainGlobals "tokens_of" = some (some (.ref (ga K "tokens_of")))),
  PySem.W.keepIn K (.ref (ga K "tokens_of")),
  decide (PySem.W.nsIn K mainGlobals "check_depth" = some (some (.ref (ga K "check_depth")))),
  PySem.W.keepIn K (.ref (ga K "check_depth")),
  decide (PySem.W.findIn K (.ref (ga K "Reader")) "_tokens" = some none),
  decide (PySem.W.findIn K (.ref (ga K "Reader")) "_at" = some none),
  decide (PySem.W.nsIn K mainGlobals "tuple" = some none),
  intB K "MOST_CELLS" 6,
  decide (PySem.W.nsIn K mainGlobals "cell_stops" = some (some (.ref (ga K "cell_stops")))),
  PySem.W.keepIn K (.ref (ga K "cell_stops")),
  decide (PySem.W.findIn K (.ref (ga K "Reader")) "_peek" = some (some (.ref (ma K (ga K "Reader") "_peek")))),
  PySem.W.isFn K (.ref (ma K (ga K "Reader") "_peek")),
  PySem.W.keepIn K (.ref (ma K (ga K "Reader") "_peek")),
  decide (PySem.W.findIn K (.ref (ga K "Reader")) "_accept" = some (some (.ref (ma K (ga K "Reader") "_accept")))),
  PySem.W.isFn K (.ref (ma K (ga K "Reader") "_accept")),
  PySem.W.keepIn K (.ref (ma K (ga K "Reader") "_accept")),
  decide (PySem.W.findIn K (.ref (ga K "Reader")) "_symbol" = some (some (.ref (ma K (ga K "Reader") "_symbol")))),
  PySem.W.isFn K (.ref (ma K (ga K "Reader") "_symbol")),
  PySem.W.keepIn K (.ref (ma K (ga K "Reader") "_symbol")),
  decide (PySem.W.findIn K (.ref (ga K "Reader")) "_delimiter" = some (some (.ref (ma K (ga K "Reader") "_delimiter")))),
  PySem.W.isFn K (.ref (ma K (ga K "Reader") "_delimiter")),
  PySem.W.keepIn K (.ref (ma K (ga K "Reader") "_delimiter")),
  decide (PySem.W.findIn K (.ref (ga K "Reader")) "_row" = some (some (.ref (ma K (ga K "Reader") "_row")))),
  PySem.W.isFn K (.ref (ma K (ga K "Reader") "_row")),
  PySem.W.keepIn K (.ref (ma K (ga K "Reader") "_row")),
  decide (PySem.W.findIn K (.ref (ga K "Reader")) "_item" = some (some (.ref (ma K (ga K "Reader") "_item")))),
  PySem.W.isFn K (.ref (ma K (ga K "Reader") "_item")),
  PySem.W.keepIn K (.ref (ma K (ga K "Reader") "_item")),
  decide (PySem.W.findIn K (.ref (ga K "Reader")) "_nucleus" = some (some (.ref (ma K (ga K "Reader") "_nucleus")))),
  PySem.W.isFn K (.ref (ma K (ga K "Reader") "_nucleus")),
  PySem.W.keepIn K (.ref (ma K (ga K "Reader") "_nucleus")),
  decide (PySem.W.findIn K (.ref (ga K "Reader")) "_braced" = some (some (.ref (ma K (ga K "Reader") "_braced")))),
  PySem.W.isFn K (.ref (ma K (ga K "Reader") "_braced")),
  PySem.W.keepIn K (.ref (ma K (ga K "Reader") "_braced")),
  decide (PySem.W.findIn K (.ref (ga K "Reader")) "_argument" = some (some (.ref (ma K (ga K "Reader") "_argument")))),
  PySem.W.isFn K (.ref (ma K (ga K "Reader") "_argument")),
  PySem.W.keepIn K (.ref (ma K (ga K "Reader") "_argument")),
  decide (PySem.W.findIn K (.ref (ga K "Reader")) "_fence" = some (some (.ref (ma K (ga K "Reader") "_fence")))),
  PySem.W.isFn K (.ref (ma K (ga K "Reader") "_fence")),
  PySem.W.keepIn K (.ref (ma K (ga K "Reader") "_fence")),
  decide (PySem.W.findIn K (.ref (ga K "Reader")) "_grid" = some (some (.ref (ma K (ga K "Reader") "_grid")))),
  PySem.W.isFn K (.ref (ma K (ga K "Reader") "_grid")),
  PySem.W.keepIn K (.ref (ma K (ga K "Reader") "_grid")),
  decide (PySem.W.findIn K (.ref (ga K "Reader")) "_cells" = some (some (.ref (ma K (ga K "Reader") "_cells")))),
  PySem.W.isFn K (.ref (ma K (ga K "Reader") "_cells")),
  PySem.W.keepIn K (.ref (ma K (ga K "Reader") "_cells")),
  decide (PySem.W.findIn K (.ref (ga K "Reader")) "read" = some (some (.ref (ma K (ga K "Reader") "read")))),
  PySem.W.isFn K (.ref (ma K (ga K "Reader") "read")),
  PySem.W.keepIn K (.ref (ma K (ga K "Reader") "read")),
  decide (PySem.W.findIn K (.ref (ga K "Reader")) "__init__" = some (some (.ref (ma K (ga K "Reader") "__init__")))),
  PySem.W.isFn K (.ref (ma K (ga K "Reader") "__init__")),
  PySem.W.keepIn K (.ref (ma K (ga K "Reader") "__init__")),
  decide (PySem.W.nsIn K mainGlobals "text_of" = some (some (.ref (ga K "text_of")))),
  PySem.W.keepIn K (.ref (ga K "text_of")),
  decide (PySem.W.nsIn K mainGlobals "check_formula" = some (some (.ref (ga K "check_formula")))),
  PySem.W.keepIn K (.ref (ga K "check_formula")),
  decide (PySem.W.nsIn K mainGlobals "parse" = some (some (.ref (ga K "parse")))),
  PySem.W.keepIn K (.ref (ga K "parse")),
  decide (PySem.W.nsIn K mainGlobals "_law_cell" = some (some (.ref (ga K "_law_cell")))),
  PySem.W.keepIn K (.ref (ga K "_law_cell")),
  decide (PySem.W.nsIn K mainGlobals "int" = some none),
  decide (PySem.W.nsIn K mainGlobals "abs" = some none),
  decide (PySem.W.nsIn K mainGlobals "range" = some none),
  decide (PySem.W.nsIn K mainGlobals "isinstance" = some none),
  decide (PySem.W.nsIn K mainGlobals "list" = some none),
  decide (PySem.W.nsIn K mainGlobals "_law_draws" = some (some (.ref (ga K "_law_draws")))),
  PySem.W.keepIn K (.ref (ga K "_law_draws")),
  decide (PySem.W.nsIn K mainGlobals "_law_row" = some (some (.ref (ga K "_law_row")))),
  PySem.W.keepIn K (.ref (ga K "_law_row")),
  decide (PySem.W.nsIn K mainGlobals "_law_item" = some (some (.ref (ga K "_law_item")))),
  PySem.W.keepIn K (.ref (ga K "_law_item")),
  decide (PySem.W.nsIn K mainGlobals "_law_drawn" = some (some (.ref (ga K "_law_drawn")))),
  PySem.W.keepIn K (.ref (ga K "_law_drawn")),
  decide (PySem.W.nsIn K mainGlobals "_law_pieces" = some (some (.ref (ga K "_law_pieces")))),
  PySem.W.keepIn K (.ref (ga K "_law_pieces")),
  decide (PySem.W.nsIn K mainGlobals "_law_nucleus" = some (some (.ref (ga K "_law_nucleus")))),
  PySem.W.keepIn K (.ref (ga K "_law_nucleus")),
  decide (PySem.W.nsIn K mainGlobals "_law_braced" = some (some (.ref (ga K "_law_braced")))),
  PySem.W.keepIn K (.ref (ga K "_law_braced")),
  decide (PySem.W.nsIn K mainGlobals "_law_text" = some (some (.ref (ga K "_law_text")))),
  PySem.W.keepIn K (.ref (ga K "_law_text")),
  decide (PySem.W.nsIn K mainGlobals "_law_inner" = some (some (.ref (ga K "_law_inner")))),
  PySem.W.keepIn K (.ref (ga K "_law_inner")),
  decide (PySem.W.nsIn K mainGlobals "_law_rows" = some (some (.ref (ga K "_law_rows")))),
  PySem.W.keepIn K (.ref (ga K "_law_rows")),
  decide (PySem.W.nsIn K mainGlobals "_law_small" = some (some (.ref (ga K "_law_small")))),
  PySem.W.keepIn K (.ref (ga K "_law_small")),
  decide (PySem.W.nsIn K mainGlobals "_law_formula" = some (some (.ref (ga K "_law_formula")))),
  PySem.W.keepIn K (.ref (ga K "_law_formula")),
  decide (PySem.W.nsIn K mainGlobals "places_of" = some (some (.ref (ga K "places_of")))),
  PySem.W.keepIn K (.ref (ga K "places_of")),
  decide (PySem.W.nsIn K mainGlobals "_law_places" = some (some (.ref (ga K "_law_places")))),
  PySem.W.keepIn K (.ref (ga K "_law_places")),
  decide (PySem.W.nsIn K mainGlobals "NoSuchCaret" = some (some (.ref (ga K "NoSuchCaret")))),
  PySem.W.excIn K (ga K "NoSuchCaret") [.type "ValueError", .type "Exception", .type "BaseException", .type "object"] "ValueError.__new__",
  PySem.W.keepIn K (.ref (ga K "NoSuchCaret")),
  decide (PySem.W.subIn K (.ref (ga K "NoSuchCaret")) (.type "BaseException") = some true),
  decide (PySem.W.typeIn K (.ref (ga K "NoSuchCaret")) = some (.type "type")),
  decide (PySem.W.nsIn K mainGlobals "is_integer" = some (some (.ref (ga K "is_integer")))),
  PySem.W.keepIn K (.ref (ga K "is_integer")),
  decide (PySem.W.nsIn K mainGlobals "bool" = some none),
  decide (PySem.W.nsIn K mainGlobals "str" = some none),
  decide (PySem.W.nsIn K mainGlobals "caret_place" = some (some (.ref (ga K "caret_place")))),
  PySem.W.keepIn K (.ref (ga K "caret_place")),
  decide (PySem.W.nsIn K mainGlobals "caret_number" = some (some (.ref (ga K "caret_number")))),
  PySem.W.keepIn K (.ref (ga K "caret_number")),
  decide (PySem.W.nsIn K mainGlobals "SetError" = some (some (.ref (ga K "SetError")))),
  decide (PySem.W.exmOne K (.ref (ga K "NoSuchCaret")) (.ref (ga K "NoSuchCaret")) = some true),
  decide (PySem.W.findIn K (.ref (ga K "NoSuchCaret")) "__getattribute__" = some (some (.builtin "BaseException.__getattribute__"))),
  decide (PySem.W.findIn K (.ref (ga K "NoSuchCaret")) "__getattr__" = some none),
  PySem.W.hasDictIn K (ga K "NoSuchCaret"),
  decide (PySem.W.findIn K (.ref (ga K "NoSuchCaret")) "__class__" = some (some (.builtin "object.__class__"))),
  decide (PySem.W.specialIn K (.builtin "object.__class__") "__get__" = some (some (.builtin "getset_descriptor.__get__"))),
  decide (PySem.W.takesIn K (.builtin "object.__class__") = some true),
  decide (PySem.W.mroIn K (ga K "NoSuchCaret") (.type "object") = some true),
  decide (PySem.W.kitOne K (.ref (ga K "NoSuchCaret")) (.ref (ga K "SetError")) = some true),
  decide (PySem.W.nsIn K mainGlobals "_law_refused" = some (some (.ref (ga K "_law_refused")))),
  PySem.W.keepIn K (.ref (ga K "_law_refused")),
  decide (PySem.W.nsIn K mainGlobals "_law_fixed" = some (some (.ref (ga K "_law_fixed")))),
  PySem.W.keepIn K (.ref (ga K "_law_fixed"))]
def chk (K : Fg) : Bool := (chks K).all id
def fnl : List DefD := [
  ⟨("law", none), "law", "law", defArgs (top 64), defBody (top 64), defScope (top 64), [], []⟩,
  ⟨("nucleus_rows", none), "nucleus_rows", "nucleus_rows", defArgs (top 35), defBody (top 35), defScope (top 35), [], []⟩,
  ⟨("rows_in", none), "rows_in", "rows_in", defArgs (top 34), defBody (top 34), defScope (top 34), [], []⟩,
  ⟨("rows_of", none), "rows_of", "rows_of", defArgs (top 33), defBody (top 33), defScope (top 33), [], []⟩,
  ⟨("row_words", none), "row_words", "row_words", defArgs (top 38), defBody (top 38), defScope (top 38), [], []⟩,
  ⟨("braced_words", none), "braced_words", "braced_words", defArgs (top 40), defBody (top 40), defScope (top 40), [], []⟩,
  ⟨("nucleus_words", none), "nucleus_words", "nucleus_words", defArgs (top 39), defBody (top 39), defScope (top 39), [], []⟩,
  ⟨("fence_words", none), "fence_words", "fence_words", defArgs (top 41), defBody (top 41), defScope (top 41), [], []⟩,
  ⟨("grid_words", none), "grid_words", "grid_words", defArgs (top 42), defBody (top 42), defScope (top 42), [], []⟩,
  ⟨("depth_of", none), "depth_of", "depth_of", defArgs (top 36), defBody (top 36), defScope (top 36), [], []⟩,
  ⟨("is_command", none), "is_command", "is_command", defArgs (top 15), defBody (top 15), defScope (top 15), [], []⟩,
  ⟨("is_symbol", none), "is_symbol", "is_symbol", defArgs (top 16), defBody (top 16), defScope (top 16), [], []⟩,
  ⟨("_command_at", none), "_command_at", "_command_at", defArgs (top 19), defBody (top 19), defScope (top 19), [], []⟩,
  ⟨("_token_at", none), "_token_at", "_token_at", defArgs (top 18), defBody (top 18), defScope (top 18), [], []⟩,
  ⟨("tokens_of", none), "tokens_of", "tokens_of", defArgs (top 17), defBody (top 17), defScope (top 17), [], []⟩,
  ⟨("check_depth", none), "check_depth", "check_depth", defArgs (top 26), defBody (top 26), defScope (top 26), [], []⟩,
  ⟨("cell_stops", none), "cell_stops", "cell_stops", defArgs (top 27), defBody (top 27), defScope (top 27), [], []⟩,
  ⟨("Reader", some "_peek"), "_peek", "Reader._peek", defArgs (inClass (top 25) 2), defBody (inClass (top 25) 2), defScope (inClass (top 25) 2), [], []⟩,
  ⟨("Reader", some "_accept"), "_accept", "Reader._accept", defArgs (inClass (top 25) 3), defBody (inClass (top 25) 3), defScope (inClass (top 25) 3), [], []⟩,
  ⟨("Reader", some "_symbol"), "_symbol", "Reader._symbol", defArgs (inClass (top 25) 4), defBody (inClass (top 25) 4), defScope (inClass (top 25) 4), [], []⟩,
  ⟨("Reader", some "_delimiter"), "_delimiter", "Reader._delimiter", defArgs (inClass (top 25) 11), defBody (inClass (top 25) 11), defScope (inClass (top 25) 11), [], []⟩,
  ⟨("Reader", some "_row"), "_row", "Reader._row", defArgs (inClass (top 25) 5), defBody (inClass (top 25) 5), defScope (inClass (top 25) 5), [], []⟩,
  ⟨("Reader", some "_item"), "_item", "Reader._item", defArgs (inClass (top 25) 6), defBody (inClass (top 25) 6), defScope (inClass (top 25) 6), [], []⟩,
  ⟨("Reader", some "_nucleus"), "_nucleus", "Reader._nucleus", defArgs (inClass (top 25) 7), defBody (inClass (top 25) 7), defScope (inClass (top 25) 7), [], []⟩,
  ⟨("Reader", some "_braced"), "_braced", "Reader._braced", defArgs (inClass (top 25) 8), defBody (inClass (top 25) 8), defScope (inClass (top 25) 8), [], []⟩,
  ⟨("Reader", some "_argument"), "_argument", "Reader._argument", defArgs (inClass (top 25) 9), defBody (inClass (top 25) 9), defScope (inClass (top 25) 9), [], []⟩,
  ⟨("Reader", some "_fence"), "_fence", "Reader._fence", defArgs (inClass (top 25) 10), defBody (inClass (top 25) 10), defScope (inClass (top 25) 10), [], []⟩,
  ⟨("Reader", some "_grid"), "_grid", "Reader._grid", defArgs (inClass (top 25) 12), defBody (inClass (top 25) 12), defScope (inClass (top 25) 12), [], []⟩,
  ⟨("Reader", some "_cells"), "_cells", "Reader._cells", defArgs (inClass (top 25) 13), defBody (inClass (top 25) 13), defScope (inClass (top 25) 13), [], []⟩,
  ⟨("Reader", some "read"), "read", "Reader.read", defArgs (inClass (top 25) 1), defBody (inClass (top 25) 1), defScope (inClass (top 25) 1), [], []⟩,
  ⟨("Reader", some "__init__"), "__init__", "Reader.__init__", defArgs (inClass (top 25) 0), defBody (inClass (top 25) 0), defScope (inClass (top 25) 0), [], []⟩,
  ⟨("text_of", none), "text_of", "text_of", defArgs (top 37), defBody (top 37), defScope (top 37), [], []⟩,
  ⟨("check_formula", none), "check_formula", "check_formula", defArgs (top 32), defBody (top 32), defScope (top 32), [], []⟩,
  ⟨("parse", none), "parse", "parse", defArgs (top 31), defBody (top 31), defScope (top 31), [], []⟩,
  ⟨("_law_cell", none), "_law_cell", "_law_cell", defArgs (top 48), defBody (top 48), defScope (top 48), [], []⟩,
  ⟨("_law_draws", none), "_law_draws", "_law_draws", defArgs (top 49), defBody (top 49), defScope (top 49), [], []⟩,
  ⟨("_law_row", none), "_law_row", "_law_row", defArgs (top 51), defBody (top 51), defScope (top 51), [], []⟩,
  ⟨("_law_item", none), "_law_item", "_law_item", defArgs (top 50), defBody (top 50), defScope (top 50), [], []⟩,
  ⟨("_law_drawn", none), "_law_drawn", "_law_drawn", defArgs (top 52), defBody (top 52), defScope (top 52), [], []⟩,
  ⟨("_law_pieces", none), "_law_pieces", "_law_pieces", defArgs (top 55), defBody (top 55), defScope (top 55), [], []⟩,
  ⟨("_law_nucleus", none), "_law_nucleus", "_law_nucleus", defArgs (top 54), defBody (top 54), defScope (top 54), [], []⟩,
  ⟨("_law_braced", none), "_law_braced", "_law_braced", defArgs (top 53), defBody (top 53), defScope (top 53), [], []⟩,
  ⟨("_law_text", none), "_law_text", "_law_text", defArgs (top 56), defBody (top 56), defScope (top 56), [], []⟩,
  ⟨("_law_inner", none), "_law_inner", "_law_inner", defArgs (top 57), defBody (top 57), defScope (top 57), [], []⟩,
  ⟨("_law_rows", none), "_law_rows", "_law_rows", defArgs (top 58), defBody (top 58), defScope (top 58), [], []⟩,
  ⟨("_law_small", none), "_law_small", "_law_small", defArgs (top 59), defBody (top 59), defScope (top 59), [], []⟩,
  ⟨("_law_formula", none), "_law_formula", "_law_formula", defArgs (top 60), defBody (top 60), defScope (top 60), [], []⟩,
  ⟨("places_of", none), "places_of", "places_of", defArgs (top 46), defBody (top 46), defScope (top 46), [], []⟩,
  ⟨("_law_places", none), "_law_places", "_law_places", defArgs (top 61), defBody (top 61), defScope (top 61), [], []⟩,
  ⟨("is_integer", none), "is_integer", "is_integer", defArgs (top 21), defBody (top 21), defScope (top 21), [], []⟩,
  ⟨("caret_place", none), "caret_place", "caret_place", defArgs (top 44), defBody (top 44), defScope (top 44), [], []⟩,
  ⟨("caret_number", none), "caret_number", "caret_number", defArgs (top 45), defBody (top 45), defScope (top 45), [], []⟩,
  ⟨("_law_refused", none), "_law_refused", "_law_refused", defArgs (top 62), defBody (top 62), defScope (top 62), [], []⟩,
  ⟨("_law_fixed", none), "_law_fixed", "_law_fixed", defArgs (top 63), defBody (top 63), defScope (top 63), [], []⟩]
def tbl : List Tab := []
def usl : List Fu := []
def ls0 : List Str := [("__name__" : Str), ("SetError" : Str), ("SyntaxFault" : Str), ("TooLong" : Str), ("TooDeep" : Str), ("TooLarge" : Str), ("NoSuchCaret" : Str), ("LETTERS" : Str), ("SIGNS" : Str), ("MARKS" : Str), ("RESERVED" : Str), ("MOST_LETTERS" : Str), ("END" : Str), ("BAD" : Str), ("is_command" : Str), ("is_symbol" : Str), ("tokens_of" : Str), ("_token_at" : Str), ("_command_at" : Str), ("is_integer" : Str), ("DEEPEST" : Str), ("MOST_CELLS" : Str), ("Reader" : Str), ("check_depth" : Str), ("cell_stops" : Str), ("LONGEST" : Str), ("MOST_ITEMS" : Str), ("parse" : Str), ("check_formula" : Str), ("rows_of" : Str), ("rows_in" : Str), ("nucleus_rows" : Str), ("depth_of" : Str), ("text_of" : Str), ("row_words" : Str)]
def ls1 : List Str := [("nucleus_words" : Str), ("braced_words" : Str), ("fence_words" : Str), ("grid_words" : Str), ("caret_place" : Str), ("caret_number" : Str), ("places_of" : Str), ("_law_cell" : Str), ("_law_draws" : Str), ("_law_item" : Str), ("_law_row" : Str), ("_law_drawn" : Str), ("_law_braced" : Str), ("_law_nucleus" : Str), ("_law_pieces" : Str), ("_law_text" : Str), ("_law_inner" : Str), ("_law_rows" : Str), ("_law_small" : Str), ("_law_formula" : Str), ("_law_places" : Str), ("_law_refused" : Str), ("_law_fixed" : Str)]
def lsl : List Str := ls0 ++ ls1
abbrev hk : PySem.W.Hook := hookU chk fnl tbl usl
def obk (s : PySem.W.SharedT) : AlU := obsUG chk fnl tbl usl (HandSHeadRun.getT s)
theorem ob_eq (s : PySem.W.SharedT) : obk s = hk.obs s.abs := obsUG_eq (HandSHeadRun.getT_eq s)
theorem runHeadF (w : World) : HandSHeadRun.RunEq RW (PySem.W.view RW.prog [64]) hk obk 8000 lsl (w.withFollow "special-get-raises" false) := by intro os; kernel_rfl
theorem runHeadT (w : World) : HandSHeadRun.RunEq RW (PySem.W.view RW.prog [64]) hk obk 8000 lsl (w.withFollow "special-get-raises" true) := by intro os; kernel_rfl
theorem runHead (w : World) : HandSHeadRun.RunEq RW (PySem.W.view RW.prog [64]) hk obk 8000 lsl w :=
  PySem.W.byRow2 "special-get-raises" (P := fun w => HandSHeadRun.RunEq RW (PySem.W.view RW.prog [64]) hk obk 8000 lsl w) runHeadF runHeadT w
end Mg.Nw

set_option Elab.async false
set_option linter.all false
set_option maxRecDepth 100000
set_option maxHeartbeats 1000000
namespace Mg
open PySem PySem.Spec PyProof.Rows L2
/-! values that are data made of tuples -/
inductive TpL (K : PySem.W.Frag) (H : Hp) : List V → List PyData → Prop
  | nil : TpL K H [] []
  | cons {v : V} {d : PyData} {vs : List V} {ds : List PyData} : Tp K H v d → TpL K H vs ds → TpL K H (v :: vs) (d :: ds)
section
variable {K : PySem.W.Frag} {H H' : Hp}
theorem TpL.stay (s : TupK H H') : ∀ {vs : List V} {ds : List PyData}, TpL K H vs ds → TpL K H' vs ds
  | _, _, .nil => .nil
  | _, _, .cons a b => .cons (a.stay s) (TpL.stay s b)
theorem TpL.len : ∀ {vs : List V} {ds : List PyData}, TpL K H vs ds → vs.length = ds.length
  | _, _, .nil => rfl
  | _, _, .cons _ b => by rw [List.length_cons, List.length_cons, TpL.len b]
theorem TpL.get : ∀ {vs : List V} {ds : List PyData} {i : Nat} {d : PyData}, TpL K H vs ds → ds[i]? = some d → ∃ v, vs[i]? = some v ∧ Tp K H v d
  | _, _, _, _, .nil, e => by simp at e
  | _, _, 0, _, .cons a _, e => by
    cases Option.some.inj e
    exact ⟨_, rfl, a⟩
  | _, _, i + 1, _, .cons _ b, e => by
    obtain ⟨v, h1, h2⟩ := TpL.get (i := i) b e
    exact ⟨v, h1, h2⟩
theorem TpL.get' : ∀ {vs : List V} {ds : List PyData} {i : Nat} {v : V}, TpL K H vs ds → vs[i]? = some v → ∃ d, ds[i]? = some d ∧ Tp K H v d
  | _, _, _, _, .nil, e => by simp at e
  | _, _, 0, _, .cons a _, e => by
    cases Option.some.inj e
    exact ⟨_, rfl, a⟩
  | _, _, i + 1, _, .cons _ b, e => by
    obtain ⟨v, h1, h2⟩ := TpL.get' (i := i) b e
    exact ⟨v, h1, h2⟩
theorem TpL.app : ∀ {vs us : List V} {ds es : List PyData}, TpL K H vs ds → TpL K H us es → TpL K H (vs ++ us) (ds ++ es)
  | _, _, _, _, .nil, g => g
  | _, _, _, _, .cons a b, g => .cons a (TpL.app b g)
theorem TpL.one {v : V} {d : PyData} (h : Tp K H v d) : TpL K H [v] [d] := .cons h .nil
theorem TpL.of : ∀ {ds : List PyData} {xs : List V}, xs.length = ds.length → (∀ (i : Nat) (x : V) (d : PyData), xs[i]? = some x → ds[i]? = some d → Tp K H x d) → TpL K H xs ds
  | [], [], _, _ => .nil
  | [], _ :: _, e, _ => by simp at e
  | _ :: _, [], e, _ => by simp at e
  | d :: ds, x :: xs, e, h => .cons (h 0 x d rfl rfl) (TpL.of (by simpa using e) fun i y z h1 h2 => h (i + 1) y z h1 h2)
theorem TpL.at {vs : List V} {ds : List PyData} {i : Nat} {x : V} {d : PyData} (h : TpL K H vs ds) (h1 : vs[i]? = some x) (h2 : ds[i]? = some d) : Tp K H x d := by
  obtain ⟨v, a, b⟩ := h.get h2
  rw [h1] at a
  cases a
  exact b
theorem TpL.drop : ∀ {vs : List V} {ds : List PyData} (n : Nat), TpL K H vs ds → TpL K H (vs.drop n) (ds.drop n)
  | _, _, 0, h => h
  | _, _, n + 1, .nil => .nil
  | _, _, n + 1, .cons _ b => TpL.drop n b
theorem TpL.take : ∀ {vs : List V} {ds : List PyData} (n : Nat), TpL K H vs ds → TpL K H (vs.take n) (ds.take n)
  | _, _, 0, h => .nil
  | _, _, n + 1, .nil => .nil
  | _, _, n + 1, .cons a b => .cons a (TpL.take n b)
theorem Tp.mk {a : Addr} {xs : List V} {ds : List PyData} (s : SqT K H a xs) (h : TpL K H xs ds) : Tp K H (.ref a) (.tuple ds) := .tup s h.len fun i x d h1 h2 => h.at h1 h2
theorem Tp.inv {v : V} {ds : List PyData} (h : Tp K H v (.tuple ds)) : ∃ a xs, v = .ref a ∧ SqT K H a xs ∧ TpL K H xs ds := by
  cases h with
  | tup s l g => exact ⟨_, _, rfl, s, TpL.of l g⟩
theorem tp_int {v : V} {i : Int} (h : Tp K H v (.int i)) : v = .int i := by cases h; rfl
theorem tp_str {v : V} {i : Str} (h : Tp K H v (.str i)) : v = .str i := by cases h; rfl
theorem tp_bool {v : V} {i : Bool} (h : Tp K H v (.bool i)) : v = .bl i := by cases h; rfl
theorem tp_non {v : V} (h : Tp K H v .none) : v = .non := by cases h; rfl
theorem TpL.dp : ∀ {vs : List V} {ds : List PyData}, TpL K H vs ds → DpAll K H vs ds
  | _, _, .nil => .nil
  | _, _, .cons a b => .cons a.dp (TpL.dp b)
theorem TpL.strs : ∀ {vs : List V} {ws : List Str}, TpL K H vs (ws.map PyData.str) → vs = ws.map V.str
  | _, [], h => by cases h; rfl
  | _, w :: ws, h => by
    cases h with
    | cons a b => rw [List.map_cons, tp_str a, TpL.strs b]
theorem TpL.ints : ∀ {vs : List V} {ws : List Int}, TpL K H vs (ws.map PyData.int) → vs = ws.map V.int
  | _, [], h => by cases h; rfl
  | _, w :: ws, h => by
    cases h with
    | cons a b => rw [List.map_cons, tp_int a, TpL.ints b]
theorem TpL.of_strs : ∀ (ws : List Str), TpL K H (ws.map V.str) (ws.map PyData.str)
  | [] => .nil
  | w :: ws => .cons (.str w) (TpL.of_strs ws)
theorem TpL.of_ints : ∀ (ws : List Int), TpL K H (ws.map V.int) (ws.map PyData.int)
  | [] => .nil
  | w :: ws => .cons (.int w) (TpL.of_ints ws)
end
theorem sz5 {n : Nat} (h : n ≤ 1000000) : n ≤ sizeLine := by
  rw [sizeLine_eq]
  omega
theorem sz6 {n : Nat} (h : n < 1000000) : n < sizeLine := by
  rw [sizeLine_eq]
  omega
/-! what an expression makes -/
def EvD (K : PySem.W.Frag) (te : TE) (σ : L2.St) (H : Hp) (d : PyData) : Prop := ∀ H1, Same H H1 → ∀ Q : VK, (∀ v H2, Same H1 H2 → Tp K H2 v d → Q v H2) → te σ H1 Q
/-- a new list -/
def EvDL (K : PySem.W.Frag) (te : TE) (σ : L2.St) (H : Hp) (ds : List PyData) : Prop := ∀ H1, Same H H1 → ∀ Q : VK, (∀ p xs H2, H1 p = none → Same H1 H2 → H2 p = some (.lst xs) → TpL K H2 xs ds → Q (.ref p) H2) → te σ H1 Q
def EvDT (K : PySem.W.Frag) (tt : TT) (σ : L2.St) (H : Hp) (b : Bool) : Prop := ∀ H1, Same H H1 → ∀ Q : Bool → Hp → Prop, (∀ H2, Same H1 H2 → Q b H2) → tt σ H1 Q
def EvDA (K : PySem.W.Frag) (ta : TA) (σ : L2.St) (H : Hp) (ds : List PyData) : Prop := ∀ H1, Same H H1 → ∀ Q : List V → Hp → Prop, (∀ vs H2, Same H1 H2 → TpL K H2 vs ds → Q vs H2) → ta σ H1 Q
/-- a value as it is -/
def EvV (te : TE) (σ : L2.St) (H : Hp) (v : V) : Prop := ∀ H1, Same H H1 → ∀ Q : VK, (∀ H2, Same H1 H2 → Q v H2) → te σ H1 Q
/-- promises of data -/
def spR (K : PySem.W.Frag) (R : List PyData → PyData → Prop) : Sp := fun vs H Q _ => ∃ ds d, TpL K H vs ds ∧ R ds d ∧ ∀ v H', Same H H' → Tp K H' v d → Q v H'
def spRL (K : PySem.W.Frag) (R : List PyData → List PyData → Prop) : Sp := fun vs H Q _ => ∃ ds es, TpL K H vs ds ∧ R ds es ∧ ∀ p xs H', H p = none → Same H H' → H' p = some (.lst xs) → TpL K H' xs es → Q (.ref p) H'
section
variable {K : PySem.W.Frag} {σ : L2.St} {H H' : Hp} {ta tb te tx tl : TE} {tas : TA} {t u : TT} {d d1 d2 : PyData} {ds es : List PyData} {b : Bool} {v : V}
theorem fresh_of {H H' : Hp} {p : Addr} (e : Same H H') (h : H' p = none) : H p = none := e.free h
theorem EvD.mono (h : EvD K te σ H d) (s : Same H H') : EvD K te σ H' d := fun H1 s1 Q q => h H1 (s.trans s1) Q q
theorem EvDL.mono (h : EvDL K te σ H ds) (s : Same H H') : EvDL K te σ H' ds := fun H1 s1 Q q => h H1 (s.trans s1) Q q
theorem EvDT.mono (h : EvDT K t σ H b) (s : Same H H') : EvDT K t σ H' b := fun H1 s1 Q q => h H1 (s.trans s1) Q q
theorem EvDA.mono (h : EvDA K tas σ H ds) (s : Same H H') : EvDA K tas σ H' ds := fun H1 s1 Q q => h H1 (s.trans s1) Q q
theorem e_var {i : Nat} (h : σ[i]? = some (some v)) (t : Tp K H v d) : EvD K (tVar i) σ H d := fun H1 s Q q => ⟨v, h, q v H1 (Same.refl _) (t.stay (.of s))⟩
theorem e_c (t : Tp K H v d) : EvD K (tC v) σ H d := fun H1 s Q q => q v H1 (Same.refl _) (t.stay (.of s))
theorem e_int {i : Int} : EvD K (tC (.int i)) σ H (.int i) := e_c (.int i)
theorem e_str {i : Str} : EvD K (tC (.str i)) σ H (.str i) := e_c (.str i)
theorem e_bl {i : Bool} : EvD K (tC (.bl i)) σ H (.bool i) := e_c (.bl i)
theorem e_non : EvD K (tC .non) σ H .none := e_c .non
theorem e_ofV (h : EvV te σ H v) (t : Tp K H v d) : EvD K te σ H d := fun H1 s Q q => h H1 s Q fun H2 s2 => q v H2 s2 (t.stay (.of (s.trans s2)))
theorem v_var {i : Nat} (h : σ[i]? = some (some v)) : EvV (tVar i) σ H v := fun H1 s Q q => ⟨v, h, q H1 (Same.refl _)⟩
theorem v_c : EvV (tC v) σ H v := fun H1 s Q q => q H1 (Same.refl _)
/-- a two-place operation upon data -/
def RD (K : PySem.W.Frag) (r : R2) (d1 d2 : PyData) (d : PyData) : Prop := ∀ v1 v2 H Q, Tp K H v1 d1 → Tp K H v2 d2 → (∀ v H', Same H H' → Tp K H' v d → Q v H') → r v1 v2 H Q
theorem e_op {r : R2} (ha : EvD K ta σ H d1) (hb : EvD K tb σ H d2) (hr : RD K r d1 d2 d) : EvD K (tOp r ta tb) σ H d := fun H1 s Q q =>
  ha H1 s _ fun v1 H2 s2 t1 => hb H2 (s.trans s2) _ fun v2 H3 s3 t2 => hr v1 v2 H3 Q (t1.stay (.of s3)) t2 fun v H4 s4 t4 => q v H4 ((s2.trans s3).trans s4) t4
theorem r_I0i {f : Int → Int → Int} {i j : Int} : RD K (rI0 fun i j => .int (f i j)) (.int i) (.int j) (.int (f i j)) := fun v1 v2 H Q t1 t2 q => by
  rw [tp_int t1, tp_int t2]
  exact ⟨i, j, rfl, rfl, q _ _ (Same.refl _) (.int _)⟩
theorem r_I0b {f : Int → Int → Bool} {i j : Int} : RD K (rI0 fun i j => .bl (f i j)) (.int i) (.int j) (.bool (f i j)) := fun v1 v2 H Q t1 t2 q => by
  rw [tp_int t1, tp_int t2]
  exact ⟨i, j, rfl, rfl, q _ _ (Same.refl _) (.bl _)⟩
theorem r_Ii {C : Int → Int → Prop} {f : Int → Int → Int} {i j : Int} (c : C i j) : RD K (rI C fun i j => .int (f i j)) (.int i) (.int j) (.int (f i j)) := fun v1 v2 H Q t1 t2 q => by
  rw [tp_int t1, tp_int t2]
  exact ⟨i, j, rfl, rfl, c, q _ _ (Same.refl _) (.int _)⟩
theorem r_eqS {x y : Str} : RD K rEq (.str x) (.str y) (.bool (decide (x = y))) := fun v1 v2 H Q t1 t2 q => by
  rw [tp_str t1, tp_str t2]
  refine ⟨rfl, ?_⟩
  rw [show decide (V.str x = V.str y) = decide (x = y) by simp]
  exact q _ _ (Same.refl _) (.bl _)
theorem r_neS {x y : Str} : RD K rNe (.str x) (.str y) (.bool (!decide (x = y))) := fun v1 v2 H Q t1 t2 q => by
  rw [tp_str t1, tp_str t2]
  refine ⟨rfl, ?_⟩
  rw [show decide (V.str x = V.str y) = decide (x = y) by simp]
  exact q _ _ (Same.refl _) (.bl _)
theorem r_eqI {x y : Int} : RD K rEq (.int x) (.int y) (.bool (decide (x = y))) := fun v1 v2 H Q t1 t2 q => by
  rw [tp_int t1, tp_int t2]
  refine ⟨rfl, ?_⟩
  rw [show decide (V.int x = V.int y) = decide (x = y) by simp]
  exact q _ _ (Same.refl _) (.bl _)
theorem r_neI {x y : Int} : RD K rNe (.int x) (.int y) (.bool (!decide (x = y))) := fun v1 v2 H Q t1 t2 q => by
  rw [tp_int t1, tp_int t2]
  refine ⟨rfl, ?_⟩
  rw [show decide (V.int x = V.int y) = decide (x = y) by simp]
  exact q _ _ (Same.refl _) (.bl _)
def noneD : PyData → Bool
  | .none => true
  | _ => false
theorem none_dec {v : V} {d : PyData} (t : Tp K H v d) : decide (v = .non) = noneD d := by
  cases t <;> simp [noneD]
theorem r_isN : RD K (fun x y H Q => y = .non ∧ Q (.bl (decide (x = .non))) H) d .none (.bool (noneD d)) := fun v1 v2 H Q t1 t2 q => by
  refine ⟨tp_non t2, ?_⟩
  rw [none_dec t1]
  exact q _ _ (Same.refl _) (.bl _)
theorem r_notN : RD K (fun x y H Q => y = .non ∧ Q (.bl (!decide (x = .non))) H) d .none (.bool (!noneD d)) := fun v1 v2 H Q t1 t2 q => by
  refine ⟨tp_non t2, ?_⟩
  rw [none_dec t1]
  exact q _ _ (Same.refl _) (.bl _)
theorem atI_get {α β : Type} {xs : List α} {ys : List β} {i : Int} {y : β} (hl : xs.length = ys.length) (h : atI ys i = some y) : ∃ n : Nat, ∃ x, atI xs i = some x ∧ xs[n]? = some x ∧ ys[n]? = some y := by
  unfold atI at h ⊢
  rw [hl]
  cases e : ixN ys.length i with
  | none =>
    rw [e] at h
    cases h
  | some n =>
    rw [e] at h
    have h : ys[n]? = some y := h
    have hn := (List.getElem?_eq_some_iff.mp h).1
    exact ⟨n, xs[n]'(by omega), List.getElem?_eq_getElem (by omega), List.getElem?_eq_getElem (by omega), h⟩
theorem r_ixT {i : Int} (h : atI ds i = some d) : RD K (rIxT K) (.tuple ds) (.int i) d := fun v1 v2 H Q t1 t2 q => by
  obtain ⟨a, xs, rfl, s, l⟩ := t1.inv
  rw [tp_int t2]
  obtain ⟨n, x, h1, h2, h3⟩ := atI_get l.len h
  exact ⟨a, xs, i, x, rfl, rfl, s, h1, q _ _ (Same.refl _) (l.at h2 h3)⟩
theorem r_ixQ {i : Int} (h : atI ds i = some d) : RD K (rIx K) (.tuple ds) (.int i) d := fun v1 v2 H Q t1 t2 q => .inr (.inl (r_ixT h v1 v2 H Q t1 t2 q))
theorem a_nil : EvDA K tNil σ H [] := fun H1 s Q q => q _ H1 (Same.refl _) .nil
theorem a_cons (h : EvD K te σ H d) (hs : EvDA K tas σ H ds) : EvDA K (tCons te tas) σ H (d :: ds) := fun H1 s Q q =>
  h H1 s _ fun v H2 s2 hd => hs H2 (s.trans s2) _ fun vs H3 s3 hds => q _ H3 (s2.trans s3) (.cons (hd.stay (.of s3)) hds)
theorem e_tup (h : EvDA K tas σ H ds) (hl : ds.length ≤ 1000) : EvD K (tTup tas) σ H (.tuple ds) := fun H1 s Q q => h H1 s _ fun vs H2 s2 hds =>
  ⟨by rw [hds.len]; exact sz5 (by omega), fun p hp => q _ _ (s2.trans (same_new hp)) (.mk (SqT.of upd_same) (hds.stay (.of (same_new hp))))⟩
theorem l_lst (h : EvDA K tas σ H ds) (hl : ds.length ≤ 1000) : EvDL K (tLst tas) σ H ds := fun H1 s Q q => h H1 s _ fun vs H2 s2 hds =>
  ⟨by rw [hds.len]; exact sz5 (by omega), fun p hp => q _ _ _ (s2.free hp) (s2.trans (same_new hp)) upd_same (hds.stay (.of (same_new hp)))⟩
theorem l_cat (ha : EvDL K ta σ H ds) (hb : EvDL K tb σ H es) (hl : ds.length + es.length ≤ 1000000) : EvDL K (tOp rCat ta tb) σ H (ds ++ es) := fun H1 s Q q =>
  ha H1 s _ fun l xs H2 _ s2 e1 t1 => hb H2 (s.trans s2) _ fun m ys H3 _ s3 e2 t2 =>
    ⟨l, m, xs, ys, rfl, rfl, s3 _ _ e1, e2, by rw [t1.len, t2.len]; exact sz5 hl, fun p hp => q p _ _ ((s2.trans s3).free hp) ((s2.trans s3).trans (same_new hp)) upd_same (((t1.stay (.of s3)).app t2).stay (.of (same_new hp)))⟩
theorem e_if (h : EvDT K t σ H b) (h1 : b = true → EvD K ta σ H d) (h2 : b = false → EvD K tb σ H d) : EvD K (tIf t ta tb) σ H d := fun H1 s Q q => h H1 s _ fun H2 s2 => by
  cases b with
  | true => exact iteT (h1 rfl H2 (s.trans s2) Q fun v H3 s3 => q v H3 (s2.trans s3))
  | false => exact iteF (h2 rfl H2 (s.trans s2) Q fun v H3 s3 => q v H3 (s2.trans s3))
theorem t_test (h : EvD K te σ H (.bool b)) : EvDT K (tTest te) σ H b := fun H1 s Q q => h H1 s _ fun v H2 s2 hv => ⟨b, tp_bool hv, q H2 s2⟩
theorem t_B (h : EvD K te σ H (.bool b)) : EvDT K (tB te) σ H b := fun H1 s Q q => h H1 s _ fun v H2 s2 hv => ⟨b, tp_bool hv, q H2 s2⟩
theorem t_not (h : EvDT K t σ H b) : EvDT K (tNot t) σ H (!b) := fun H1 s Q q => h H1 s _ fun H2 s2 => q H2 s2
theorem t_and {c : Bool} (h : EvDT K t σ H b) (h2 : b = true → EvDT K u σ H c) : EvDT K (tAnd t u) σ H (b && c) := fun H1 s Q q => h H1 s _ fun H2 s2 => by
  cases b with
  | true => exact iteT (h2 rfl H2 (s.trans s2) Q fun H3 s3 => q H3 (s2.trans s3))
  | false => exact iteF (q H2 s2)
theorem t_or {c : Bool} (h : EvDT K t σ H b) (h2 : b = false → EvDT K u σ H c) : EvDT K (tOr t u) σ H (b || c) := fun H1 s Q q => h H1 s _ fun H2 s2 => by
  cases b with
  | true => exact iteT (q H2 s2)
  | false => exact iteF (h2 rfl H2 (s.trans s2) Q fun H3 s3 => q H3 (s2.trans s3))
theorem t_is {c : Bool} (h : EvDT K t σ H b) (e : b = c) : EvDT K t σ H c := e ▸ h
theorem e_is (h : EvD K te σ H d1) (e : d1 = d2) : EvD K te σ H d2 := e ▸ h
theorem l_is (h : EvDL K te σ H ds) (e : ds = es) : EvDL K te σ H es := e ▸ h
theorem e_and {c : Bool} (h : EvD K ta σ H (.bool b)) (h2 : b = true → EvD K tb σ H (.bool c)) : EvD K (tAndV ta tb) σ H (.bool (b && c)) := fun H1 s Q q => h H1 s _ fun v H2 s2 hv => ⟨b, tp_bool hv, by
  cases b with
  | true => exact iteT (h2 rfl H2 (s.trans s2) Q fun v H3 s3 => q v H3 (s2.trans s3))
  | false => exact iteF (q _ H2 s2 (.bl _))⟩
theorem e_or {c : Bool} (h : EvD K ta σ H (.bool b)) (h2 : b = false → EvD K tb σ H (.bool c)) : EvD K (tOrV ta tb) σ H (.bool (b || c)) := fun H1 s Q q => h H1 s _ fun v H2 s2 hv => ⟨b, tp_bool hv, by
  cases b with
  | true => exact iteT (q _ H2 s2 (.bl _))
  | false => exact iteF (h2 rfl H2 (s.trans s2) Q fun v H3 s3 => q v H3 (s2.trans s3))⟩
theorem e_not (h : EvD K ta σ H (.bool b)) : EvD K (tNotV ta) σ H (.bool (!b)) := fun H1 s Q q => h H1 s _ fun v H2 s2 hv => ⟨b, tp_bool hv, q _ H2 s2 (.bl _)⟩
theorem e_call {R : List PyData → PyData → Prop} {E : XK} (h : EvDA K tas σ H ds) (r : R ds d) : EvD K (tCall (spR K R) [] E tas) σ H d := fun H1 s Q q => h H1 s _ fun vs H2 s2 hv =>
  ⟨ds, d, by rw [List.append_nil]; exact hv, r, fun v H3 s3 t3 => q v H3 (s2.trans s3) t3⟩
theorem l_call {R : List PyData → List PyData → Prop} {E : XK} (h : EvDA K tas σ H ds) (r : R ds es) : EvDL K (tCall (spRL K R) [] E tas) σ H es := fun H1 s Q q => h H1 s _ fun vs H2 s2 hv =>
  ⟨ds, es, by rw [List.append_nil]; exact hv, r, fun p xs H3 hp s3 e t3 => q p xs H3 (s2.free hp) (s2.trans s3) e t3⟩
/-- len of a new list, of a tuple -/
theorem e_lenL {r : List V → Hp → VK → Prop} (hr : ∀ p xs H Q, (SqL K H p xs ∨ SqT K H p xs) → Q (V.int xs.length) H → r [.ref p] H Q) (h : EvDL K te σ H ds) : EvD K (tCB r (tCons te tNil)) σ H (.int ds.length) := fun H1 s Q q => h H1 s _ fun p xs H2 _ s2 e t2 =>
  hr p xs H2 Q (.inl (SqL.of e)) (by rw [t2.len]; exact q _ H2 s2 (.int _))
theorem e_lenT {r : List V → Hp → VK → Prop} (hr : ∀ p xs H Q, (SqL K H p xs ∨ SqT K H p xs) → Q (V.int xs.length) H → r [.ref p] H Q) (h : EvD K te σ H (.tuple ds)) : EvD K (tCB r (tCons te tNil)) σ H (.int ds.length) := fun H1 s Q q => h H1 s _ fun v H2 s2 t2 => by
  obtain ⟨p, xs, rfl, sq, l⟩ := t2.inv
  exact hr p xs H2 Q (.inr sq) (by rw [l.len]; exact q _ H2 s2 (.int _))
/-- tuple(new list) -/
theorem e_tupOf {r : List V → Hp → VK → Prop} (hr : ∀ p xs H Q, SqL K H p xs → (∀ l, H l = none → Q (V.ref l) (upd H l (.tup xs))) → r [.ref p] H Q) (h : EvDL K te σ H ds) : EvD K (tCB r (tCons te tNil)) σ H (.tuple ds) := fun H1 s Q q => h H1 s _ fun p xs H2 _ s2 e t2 =>
  hr p xs H2 Q (SqL.of e) fun l hl => q _ _ (s2.trans (same_new hl)) (.mk (SqT.of upd_same) (t2.stay (.of (same_new hl))))
end
/-! a list that grows; what was known stays -/
structure Acc (K : PySem.W.Frag) (H0 : Hp) (p : Addr) (as : List PyData) (H : Hp) : Prop where
  new : H0 p = none
  same : Same H0 H
  lst : ∃ xs, H p = some (.lst xs) ∧ TpL K H xs as
section
variable {K : PySem.W.Frag} {σ : L2.St} {H0 H H' : Hp} {p q : Addr} {as ds : List PyData} {d : PyData} {ta tb te tl : TE} {tu tw tz : TS} {g : TG} {D : Ends} {t : TT} {b : Bool}
theorem Acc.ext (a : Acc K H0 p as H) (s : Same H H') : Acc K H0 p as H' := by
  obtain ⟨h1, h2, xs, e, tp⟩ := a
  exact ⟨h1, h2.trans s, xs, s _ _ e, tp.stay (.of s)⟩
theorem Acc.start {xs : List V} (h : H0 p = none) (s : Same H0 H) (e : H p = some (.lst xs)) (l : TpL K H xs as) : Acc K H0 p as H := ⟨h, s, xs, e, l⟩
theorem Acc.grow {xs ys : List V} (a : Acc K H0 p as H) (e : H p = some (.lst xs)) (l : TpL K H ys ds) : Acc K H0 p (as ++ ds) (upd H p (.lst (xs ++ ys))) := by
  obtain ⟨h1, h2, xs', e', tp⟩ := a
  rw [e] at e'
  cases e'
  exact ⟨h1, same_upd_new h2 h1, _, upd_same, (tp.app l).stay (.keep keep_upd e)⟩
theorem Acc.of_ne (a : Acc K H0 p as H) (kb : KeepB q H H') (tk : TupK H H') (s : Same H0 H') (n : p ≠ q) : Acc K H0 p as H' := by
  obtain ⟨h1, h2, xs, e, tp⟩ := a
  exact ⟨h1, s, xs, kb _ _ e n, tp.stay tk⟩
theorem Acc.tup (a : Acc K H0 p as H) : TupK H0 H := .of a.same
/-! statements -/
theorem q_set {i : Nat} (h : EvD K te σ H d) (k : ∀ v H1, Same H H1 → Tp K H1 v d → tz D (σ.set i (some v)) H1) : tSeq (tAsg te (gName i)) tz D σ H := h H (Same.refl _) _ fun v H1 s tp => k v H1 s tp
theorem q_setL {i : Nat} (h : EvDL K te σ H ds) (k : ∀ p xs H1, H p = none → Same H H1 → H1 p = some (.lst xs) → TpL K H1 xs ds → tz D (σ.set i (some (.ref p))) H1) : tSeq (tAsg te (gName i)) tz D σ H := h H (Same.refl _) _ fun p xs H1 n s e tp => k p xs H1 n s e tp
theorem q_ret (h : EvD K te σ H d) (k : ∀ v H1, Same H H1 → Tp K H1 v d → D.rt v H1) : tRet te D σ H := h H (Same.refl _) _ fun v H1 s tp => k v H1 s tp
theorem q_retL (h : EvDL K te σ H ds) (k : ∀ p xs H1, H p = none → Same H H1 → H1 p = some (.lst xs) → TpL K H1 xs ds → D.rt (.ref p) H1) : tRet te D σ H := h H (Same.refl _) _ fun p xs H1 n s e tp => k p xs H1 n s e tp
theorem q_if (h : EvDT K t σ H b) (h1 : b = true → ∀ H1, Same H H1 → tu { D with nx := tz D } σ H1) (h2 : b = false → ∀ H1, Same H H1 → tw { D with nx := tz D } σ H1) : tSeq (tIfS t tu tw) tz D σ H := h H (Same.refl _) _ fun H1 s => by
  cases b with
  | true => exact iteT (h1 rfl H1 s)
  | false => exact iteF (h2 rfl H1 s)
theorem s_if (h : EvDT K t σ H b) (h1 : b = true → ∀ H1, Same H H1 → tu D σ H1) (h2 : b = false → ∀ H1, Same H H1 → tw D σ H1) : tIfS t tu tw D σ H := h H (Same.refl _) _ fun H1 s => by
  cases b with
  | true => exact iteT (h1 rfl H1 s)
  | false => exact iteF (h2 rfl H1 s)
theorem q_when (h : EvDT K t σ H b) (h1 : b = true → ∀ H1, Same H H1 → tu { D with nx := tz D } σ H1) (h2 : b = false → ∀ H1, Same H H1 → tz D σ H1) : tSeq (tIfS t tu tNext) tz D σ H := q_if h h1 h2
theorem s_when (h : EvDT K t σ H b) (h1 : b = true → ∀ H1, Same H H1 → tu D σ H1) (h2 : b = false → ∀ H1, Same H H1 → D.nx σ H1) : tIfS t tu tNext D σ H := s_if h h1 h2
theorem s_app {i : Nat} {l : Nat} (hp : σ[i]? = some (some (.ref p))) (a : Acc K H0 p as H) (h : EvD K te σ H d) (hz : as.length < 1000000) (k : ∀ H1, TupK H H1 → KeepB p H H1 → Acc K H0 p (as ++ [d]) H1 → D.nx σ H1) :
    tDrop (tBM K "list" rAppend (tVar i) (tCons te tNil)) D σ H := by
  obtain ⟨xs, e, tp⟩ := a.lst
  refine ⟨_, hp, .inl ⟨rfl, _, SqL.of e⟩, h H (Same.refl _) _ fun v H1 s tv => ?_⟩
  have e1 := s _ _ e
  exact ⟨p, xs, v, rfl, rfl, e1, by rw [tp.len]; exact sz6 hz, k _ ((TupK.of s).trans (.keep keep_upd e1)) ((KeepB.of s).trans keep_upd) ((a.ext s).grow e1 (.one tv))⟩
theorem q_app {i : Nat} (hp : σ[i]? = some (some (.ref p))) (a : Acc K H0 p as H) (h : EvD K te σ H d) (hz : as.length < 1000000) (k : ∀ H1, TupK H H1 → KeepB p H H1 → Acc K H0 p (as ++ [d]) H1 → tz D σ H1) :
    tSeq (tDrop (tBM K "list" rAppend (tVar i) (tCons te tNil))) tz D σ H := s_app (D := { D with nx := tz D }) (l := 0) hp a h hz k
theorem s_ext {i : Nat} (hp : σ[i]? = some (some (.ref p))) (a : Acc K H0 p as H) (h : EvDL K te σ H ds) (hz : as.length + ds.length ≤ 1000000) (k : ∀ H1, TupK H H1 → KeepB p H H1 → Acc K H0 p (as ++ ds) H1 → D.nx σ H1) :
    tDrop (tBM K "list" rExtend (tVar i) (tCons te tNil)) D σ H := by
  obtain ⟨xs, e, tp⟩ := a.lst
  refine ⟨_, hp, .inl ⟨rfl, _, SqL.of e⟩, h H (Same.refl _) _ fun m ys H1 _ s em tv => ?_⟩
  have e1 := s _ _ e
  exact ⟨p, m, xs, ys, rfl, rfl, e1, em, by rw [tp.len, tv.len]; exact sz5 hz, k _ ((TupK.of s).trans (.keep keep_upd e1)) ((KeepB.of s).trans keep_upd) ((a.ext s).grow e1 tv)⟩
theorem q_ext {i : Nat} (hp : σ[i]? = some (some (.ref p))) (a : Acc K H0 p as H) (h : EvDL K te σ H ds) (hz : as.length + ds.length ≤ 1000000) (k : ∀ H1, TupK H H1 → KeepB p H H1 → Acc K H0 p (as ++ ds) H1 → tz D σ H1) :
    tSeq (tDrop (tBM K "list" rExtend (tVar i) (tCons te tNil))) tz D σ H := s_ext (D := { D with nx := tz D }) hp a h hz k
/-- a for by a word: n turns -/
theorem for_word {J : It} {n : Nat} {g : TG} {tb : TS} {D : Ends} {σ : L2.St} {H : Hp} (Pv : Nat → L2.St → Hp → Prop) (h0 : Pv 0 σ H) (hgo : ∀ i σ H, i < n → Pv i σ H → J.go i H) (hst : ∀ σ H, Pv n σ H → J.stop n H)
    (hs : ∀ i x σ H H', i < n → Pv i σ H → J.yld i H x H' → g x σ H' fun σ2 H2 => tb { D with nx := Pv (i + 1), ct := Pv (i + 1), bk := D.nx } σ2 H2) (hd : ∀ σ H, Pv n σ H → D.nx σ H) :
    ∃ W : Nat → Nat → L2.St → Hp → Prop, (∃ m, W 0 m σ H) ∧ ∀ i m σ H, W i m σ H →
      (J.stop i H ∧ D.nx σ H) ∨ (J.go i H ∧ ∃ N : L2.St → Hp → Prop, (∀ σ' H', N σ' H' → ∃ m', m' < m ∧ W (i + 1) m' σ' H') ∧ ∀ x H', J.yld i H x H' → g x σ H' fun σ2 H2 => tb { D with nx := N, ct := N, bk := D.nx } σ2 H2) := by
  refine ⟨fun i m σ H => m = n - i ∧ i ≤ n ∧ Pv i σ H, ⟨n, by simp, Nat.zero_le _, h0⟩, ?_⟩
  rintro i m σ H ⟨rfl, hi, p⟩
  by_cases hlt : i < n
  · refine .inr ⟨hgo i σ H hlt p, Pv (i + 1), fun σ' H' p' => ⟨n - (i + 1), by omega, rfl, hlt, p'⟩, fun x H' y => hs i x σ H H' hlt p y⟩
  · have e : i = n := by omega
    subst e
    exact .inl ⟨hst σ H p, hd σ H p⟩
/-- for over a tuple, over a new list, over a list enumerated; p: the list that grows meanwhile -/
theorem s_forT {xs0 : List V} (h : EvD K tl σ H (.tuple ds)) (hp : H p = some (.lst xs0)) (Pv : Nat → L2.St → Hp → Prop) (h0 : ∀ H1, Same H H1 → Pv 0 σ H1)
    (hs : ∀ H1, Same H H1 → ∀ i d x σ' H', ds[i]? = some d → Pv i σ' H' → KeepB p H1 H' → Tp K H' x d → g x σ' H' fun σ2 H2 => tu { D with nx := fun σ3 H3 => Pv (i + 1) σ3 H3 ∧ KeepB p H1 H3, ct := fun σ3 H3 => Pv (i + 1) σ3 H3 ∧ KeepB p H1 H3, bk := D.nx } σ2 H2)
    (hd : ∀ σ' H', Pv ds.length σ' H' → KeepB p H H' → D.nx σ' H') : tFor (iTup K tl) g tu D σ H := h H (Same.refl _) _ fun v H1 s tv => by
  obtain ⟨a, xs, rfl, sq, l⟩ := tv.inv
  have tk : ∀ {H'}, KeepB p H1 H' → TupK H1 H' := fun kb => .keep kb (s _ _ hp)
  refine ⟨a, rfl, ⟨xs, sq⟩, for_word (n := ds.length) (fun i σ' H' => Pv i σ' H' ∧ KeepB p H1 H') ⟨h0 H1 s, KeepB.refl _ _⟩ (fun i σ' H' hi q => ?_) (fun σ' H' q => ⟨xs, (tk q.2).seq sq, Nat.le_of_eq l.len⟩) (fun i x σ' H' H'' hi q y => ?_) (fun σ' H' q => hd σ' H' q.1 ((KeepB.of s).trans q.2))⟩
  · have hi2 : i < xs.length := by rw [l.len]; exact hi
    exact ⟨xs, xs[i], (tk q.2).seq sq, List.getElem?_eq_getElem hi2⟩
  · obtain ⟨rfl, y⟩ := y
    have hx := y xs ((tk q.2).seq sq)
    obtain ⟨d, e1, e2⟩ := l.get' hx
    exact hs H1 s i d x σ' H'' e1 q.1 q.2 (e2.stay (tk q.2))
theorem s_forL {xs0 : List V} (h : EvDL K tl σ H ds) (hp : H p = some (.lst xs0)) (Pv : Nat → L2.St → Hp → Prop) (h0 : ∀ H1, Same H H1 → Pv 0 σ H1)
    (hs : ∀ H1, Same H H1 → ∀ i d x σ' H', ds[i]? = some d → Pv i σ' H' → KeepB p H1 H' → Tp K H' x d → g x σ' H' fun σ2 H2 => tu { D with nx := fun σ3 H3 => Pv (i + 1) σ3 H3 ∧ KeepB p H1 H3, ct := fun σ3 H3 => Pv (i + 1) σ3 H3 ∧ KeepB p H1 H3, bk := D.nx } σ2 H2)
    (hd : ∀ σ' H', Pv ds.length σ' H' → KeepB p H H' → D.nx σ' H') : tFor (iList K tl) g tu D σ H := h H (Same.refl _) _ fun a xs H1 ha s ea l => by
  have tk : ∀ {H'}, KeepB p H1 H' → TupK H1 H' := fun kb => .keep kb (s _ _ hp)
  have ne : a ≠ p := fun e => by
    rw [e, hp] at ha
    cases ha
  have sq : ∀ {H'}, KeepB p H1 H' → SqL K H' a xs := fun kb => SqL.of (kb _ _ ea ne)
  refine ⟨a, rfl, ⟨xs, SqL.of ea⟩, for_word (n := ds.length) (fun i σ' H' => Pv i σ' H' ∧ KeepB p H1 H') ⟨h0 H1 s, KeepB.refl _ _⟩ (fun i σ' H' hi q => ?_) (fun σ' H' q => ⟨xs, sq q.2, Nat.le_of_eq l.len⟩) (fun i x σ' H' H'' hi q y => ?_) (fun σ' H' q => hd σ' H' q.1 ((KeepB.of s).trans q.2))⟩
  · have hi2 : i < xs.length := by rw [l.len]; exact hi
    exact ⟨xs, xs[i], sq q.2, List.getElem?_eq_getElem hi2⟩
  · obtain ⟨rfl, y⟩ := y
    have hx := y xs (sq q.2)
    obtain ⟨d, e1, e2⟩ := l.get' hx
    exact hs H1 s i d x σ' H'' e1 q.1 q.2 (e2.stay (tk q.2))
theorem s_enum {xs0 xs : List V} {j : Nat} {a : Addr} (hj : σ[j]? = some (some (.ref a))) (ha : H a = some (.lst xs)) (l : TpL K H xs ds) (ne : a ≠ p) (hp : H p = some (.lst xs0)) (Pv : Nat → L2.St → Hp → Prop) (h0 : Pv 0 σ H)
    (hs : ∀ i d x T σ' H', ds[i]? = some d → Pv i σ' H' → KeepB p H H' → Tp K H' x d → H' T = none → g (.ref T) σ' (upd H' T (.tup [.int (i : Nat), x])) fun σ2 H2 => tu { D with nx := fun σ3 H3 => Pv (i + 1) σ3 H3 ∧ KeepB p H H3, ct := fun σ3 H3 => Pv (i + 1) σ3 H3 ∧ KeepB p H H3, bk := D.nx } σ2 H2)
    (hd : ∀ σ' H', Pv ds.length σ' H' → KeepB p H H' → D.nx σ' H') : tFor (iEnum K (tCons (tVar j) tNil)) g tu D σ H := by
  have tk : ∀ {H'}, KeepB p H H' → TupK H H' := fun kb => .keep kb hp
  have sq : ∀ {H'}, KeepB p H H' → SqL K H' a xs := fun kb => SqL.of (kb _ _ ha ne)
  refine ⟨_, hj, a, xs, rfl, SqL.of ha, for_word (n := ds.length) (fun i σ' H' => Pv i σ' H' ∧ KeepB p H H') ⟨h0, KeepB.refl _ _⟩ (fun i σ' H' hi q => ?_) (fun σ' H' q => ⟨xs, sq q.2, Nat.le_of_eq l.len⟩) (fun i x σ' H' H'' hi q y => ?_) (fun σ' H' q => hd σ' H' q.1 q.2)⟩
  · have hi2 : i < xs.length := by rw [l.len]; exact hi
    exact ⟨xs, xs[i], sq q.2, List.getElem?_eq_getElem hi2⟩
  · obtain ⟨T, z, rfl, hT, rfl, y⟩ := y
    have hx := y xs (sq q.2)
    obtain ⟨d, e1, e2⟩ := l.get' hx
    exact hs i d z T σ' H' e1 q.1 q.2 (e2.stay (tk q.2)) hT
/-- targets -/
theorem g_tup2 {i j : Nat} {v : V} {a b : PyData} {Q : L2.St → Hp → Prop} (h : Tp K H v (.tuple [a, b])) (k : ∀ x y, Tp K H x a → Tp K H y b → Q ((σ.set i (some x)).set j (some y)) H) : gTup K 2 (gCons (gName i) (gCons (gName j) gNil)) v σ H Q := by
  obtain ⟨p, xs, rfl, sq, l⟩ := h.inv
  cases l with
  | cons h1 l => cases l with
  | cons h2 l => cases l with
  | nil => exact ⟨p, _, rfl, sq, rfl, _, _, rfl, _, _, rfl, rfl, k _ _ h1 h2⟩
theorem g_tup3 {i j m : Nat} {v : V} {a b c : PyData} {Q : L2.St → Hp → Prop} (h : Tp K H v (.tuple [a, b, c])) (k : ∀ x y z, Tp K H x a → Tp K H y b → Tp K H z c → Q (((σ.set i (some x)).set j (some y)).set m (some z)) H) : gTup K 3 (gCons (gName i) (gCons (gName j) (gCons (gName m) gNil))) v σ H Q := by
  obtain ⟨p, xs, rfl, sq, l⟩ := h.inv
  cases l with
  | cons h1 l => cases l with
  | cons h2 l => cases l with
  | cons h3 l => cases l with
  | nil => exact ⟨p, _, rfl, sq, rfl, _, _, rfl, _, _, rfl, _, _, rfl, rfl, k _ _ _ h1 h2 h3⟩
theorem q_asg {g : TG} (h : EvD K te σ H d) (k : ∀ v H1, Same H H1 → Tp K H1 v d → g v σ H1 (tz D)) : tSeq (tAsg te g) tz D σ H := h H (Same.refl _) _ fun v H1 s tp => k v H1 s tp
end
/-! comprehensions -/
section
variable {K : PySem.W.Frag} {σ : L2.St} {H : Hp} {te tl tl1 : TE} {ds es : List PyData} {vs vs1 : List Nat} {g g1 : TG}
theorem lc_data {J : It} {tt : TT} {H1 : Hp} {D : Addr} {Qd : Hp → Prop} (es : List PyData) (hD : H1 D = none) (hz : es.length ≤ 1000000)
    (hgo : ∀ i H, i < es.length → Same H1 H → J.go i H) (hst : ∀ H, Same H1 H → J.stop es.length H)
    (hs : ∀ i x H H' (R : VK) (Z : Hp → Prop), i < es.length → Same H1 H → J.yld i H x H' → (∀ y e H3, es[i]? = some e → Same H H3 → Tp K H3 y e → R y H3) →
      g x (wipe σ vs) H' fun σ2 H2 => wipe σ2 vs = wipe σ vs ∧ tt σ2 H2 fun b H3 => if b = true then te σ2 H3 R else Z H3)
    (hd : ∀ H acc, Same H1 H → H D = some (.lst acc) → TpL K H acc es → Qd H) :
    ∃ W : Nat → Nat → Hp → Prop, (∃ m, W 0 m (upd H1 D (.lst []))) ∧ ∀ i m H, W i m H → (J.stop i H ∧ Qd H) ∨ (J.go i H ∧ ∃ Nx : Hp → Prop, (∀ H', Nx H' → ∃ m', m' < m ∧ W (i + 1) m' H') ∧ ∀ x H', J.yld i H x H' →
      g x (wipe σ vs) H' fun σ2 H2 => wipe σ2 vs = wipe σ vs ∧ tt σ2 H2 fun b H3 => if b = true then te σ2 H3 fun y H4 => ∃ acc, H4 D = some (.lst acc) ∧ acc.length < sizeLine ∧ Nx (upd H4 D (.lst (acc ++ [y]))) else Nx H3) := by
  refine lc_word (n := es.length) (fun i acc H => TpL K H acc (es.take i) ∧ Same H1 H) ⟨by rw [List.take_zero]; exact .nil, same_new hD⟩ (fun i acc H hi p => hgo i H hi p.2) (fun acc H p => hst H p.2) ?_ (fun acc H p e => hd H acc p.2 e (by have q := p.1; rw [List.take_length] at q; exact q))
  rintro i acc x H H' R Z hi ⟨tp, s⟩ e y k
  refine hs i x H H' R Z hi s y fun v d H3 hv s3 tv => k v H3 (s3 _ _ e) (by rw [tp.len, List.length_take]; exact sz6 (by omega)) ⟨?_, same_upd_new (s.trans s3) hD⟩
  have e1 : es.take (i + 1) = es.take i ++ [d] := by
    rw [List.take_add_one, hv]
    rfl
  rw [e1]
  exact ((tp.stay (.of s3)).app (.one tv)).stay (.keep keep_upd (s3 _ _ e))
theorem l_lcT {j : Nat} (h : EvD K tl σ H (.tuple ds)) (hl : es.length = ds.length) (hz : ds.length ≤ 1000000) (hw : ∀ x, wipe ((wipe σ vs).set j (some x)) vs = wipe σ vs)
    (he : ∀ (i : Nat) d e x H1, ds[i]? = some d → es[i]? = some e → Same H H1 → Tp K H1 x d → EvD K te ((wipe σ vs).set j (some x)) H1 e) : EvDL K (tLc (iTup K tl) (gName j) tYes te vs) σ H es := fun H0 s Q q => h H0 s _ fun v H1 s1 tv => by
  obtain ⟨a, xs, rfl, sq, l⟩ := tv.inv
  refine ⟨a, rfl, ⟨xs, sq⟩, fun D hD => lc_data (K := K) es hD (by omega) (fun i H' hi s2 => ?_) (fun H' s2 => ⟨xs, same_sqt s2 sq, by rw [l.len, hl]; exact Nat.le_refl _⟩) ?_ fun H' acc s2 e ta => q D acc H' (s1.free hD) (s1.trans s2) e ta⟩
  · have hi2 : i < xs.length := by rw [l.len]; omega
    exact ⟨xs, xs[i], same_sqt s2 sq, List.getElem?_eq_getElem hi2⟩
  · rintro i x H' H'' R Z hi s2 ⟨rfl, y⟩ k
    have hx := y xs (same_sqt s2 sq)
    obtain ⟨d, e1, e2⟩ := l.get' hx
    have e3 : es[i]? = some es[i] := List.getElem?_eq_getElem hi
    exact ⟨hw x, iteT (B := Z H'') (he i d _ x H'' e1 e3 ((s.trans s1).trans s2) (e2.stay (.of s2)) H'' (Same.refl _) R fun v H3 s3 tv => k v _ H3 e3 s3 tv)⟩
theorem l_lcL {j : Nat} (h : EvDL K tl σ H ds) (hl : es.length = ds.length) (hz : ds.length ≤ 1000000) (hw : ∀ x, wipe ((wipe σ vs).set j (some x)) vs = wipe σ vs)
    (he : ∀ (i : Nat) d e x H1, ds[i]? = some d → es[i]? = some e → Same H H1 → Tp K H1 x d → EvD K te ((wipe σ vs).set j (some x)) H1 e) : EvDL K (tLc (iList K tl) (gName j) tYes te vs) σ H es := fun H0 s Q q => h H0 s _ fun a xs H1 ha s1 ea l => by
  refine ⟨a, rfl, ⟨xs, SqL.of ea⟩, fun D hD => lc_data (K := K) es hD (by omega) (fun i H' hi s2 => ?_) (fun H' s2 => ⟨xs, SqL.of (s2 _ _ ea), by rw [l.len, hl]; exact Nat.le_refl _⟩) ?_ fun H' acc s2 e ta => q D acc H' (s1.free hD) (s1.trans s2) e ta⟩
  · have hi2 : i < xs.length := by rw [l.len]; omega
    exact ⟨xs, xs[i], SqL.of (s2 _ _ ea), List.getElem?_eq_getElem hi2⟩
  · rintro i x H' H'' R Z hi s2 ⟨rfl, y⟩ k
    have hx := y xs (SqL.of (s2 _ _ ea))
    obtain ⟨d, e1, e2⟩ := l.get' hx
    have e3 : es[i]? = some es[i] := List.getElem?_eq_getElem hi
    exact ⟨hw x, iteT (B := Z H'') (he i d _ x H'' e1 e3 ((s.trans s1).trans s2) (e2.stay (.of s2)) H'' (Same.refl _) R fun v H3 s3 tv => k v _ H3 e3 s3 tv)⟩
/-- what an inner walk gives: a tuple or a new list of data -/
inductive Wk (K : PySem.W.Frag) : TI → L2.St → Hp → List PyData → Prop
  | tup {tl : TE} {σ : L2.St} {H : Hp} {ds : List PyData} : EvD K tl σ H (.tuple ds) → Wk K (iTup K tl) σ H ds
  | lst {tl : TE} {σ : L2.St} {H : Hp} {ds : List PyData} : EvDL K tl σ H ds → Wk K (iList K tl) σ H ds
theorem yes_then {A B : Hp → Prop} {σ : L2.St} {H : Hp} (h : A H) : tYes σ H (fun b H3 => if b = true then A H3 else B H3) := iteT (B := B H) h
/-- tuples stay, and what is new in H1 -/
def Stays (H H1 H' : Hp) : Prop := TupK H1 H' ∧ ∀ b o, H b = none → H1 b = some o → H' b = some o
theorem Stays.of {H H1 H' : Hp} (s : Same H1 H') : Stays H H1 H' := ⟨.of s, fun b o _ e => s b o e⟩
theorem Wk.go {wi : TI} (h : Wk K wi σ H ds) : ∀ (R : It → Hp → Prop), (∀ J H1, Same H H1 → (∀ i H', i < ds.length → Stays H H1 H' → J.go i H') → (∀ H', Stays H H1 H' → J.stop ds.length H') →
    (∀ i x H' H'', Stays H H1 H' → J.yld i H' x H'' → H'' = H' ∧ ∀ (hi : i < ds.length), ∃ d, ds[i]? = some d ∧ Tp K H' x d) → R J H1) → wi σ H R := by
  intro R k
  cases h with
  | tup h =>
    refine h _ (Same.refl _) _ fun v H1 s1 tv => ?_
    obtain ⟨a, xs, rfl, sq, l⟩ := tv.inv
    refine ⟨a, rfl, ⟨xs, sq⟩, k _ _ s1 (fun i H' hi s2 => ?_) (fun H' s2 => ⟨xs, s2.1.seq sq, Nat.le_of_eq l.len⟩) fun i x H' H'' s2 y => ⟨y.1, fun hi => ?_⟩⟩
    · have hi2 : i < xs.length := by rw [l.len]; omega
      exact ⟨xs, xs[i], s2.1.seq sq, List.getElem?_eq_getElem hi2⟩
    · obtain ⟨d, e1, e2⟩ := l.get' (y.2 xs (s2.1.seq sq))
      exact ⟨d, e1, e2.stay s2.1⟩
  | lst h =>
    refine h _ (Same.refl _) _ fun a xs H1 ha s1 ea l => ?_
    refine ⟨a, rfl, ⟨xs, SqL.of ea⟩, k _ _ s1 (fun i H' hi s2 => ?_) (fun H' s2 => ⟨xs, SqL.of (s2.2 _ _ ha ea), Nat.le_of_eq l.len⟩) fun i x H' H'' s2 y => ⟨y.1, fun hi => ?_⟩⟩
    · have hi2 : i < xs.length := by rw [l.len]; omega
      exact ⟨xs, xs[i], SqL.of (s2.2 _ _ ha ea), List.getElem?_eq_getElem hi2⟩
    · obtain ⟨d, e1, e2⟩ := l.get' (y.2 xs (SqL.of (s2.2 _ _ ha ea)))
      exact ⟨d, e1, e2.stay s2.1⟩
/-- [e for a in xs for b in f(a)]: fs gives the inner data, hs what e makes of each -/
theorem l_lc2 {wi wi1 : TI} {j j1 : Nat} (fs : List (List PyData)) (gs : List (List PyData)) (h : ∀ H1, Same H H1 → Wk K wi σ H1 ds) (hf : fs.length = ds.length) (hg : gs.length = ds.length) (hz : gs.flatten.length ≤ 1000000)
    (hw : ∀ x, wipe ((wipe σ vs).set j (some x)) vs = wipe σ vs) (hw1 : ∀ x y, wipe ((wipe ((wipe σ vs).set j (some x)) vs1).set j1 (some y)) vs1 = wipe ((wipe σ vs).set j (some x)) vs1)
    (hi : ∀ (i : Nat) d f x H1, ds[i]? = some d → fs[i]? = some f → Same H H1 → Tp K H1 x d → Wk K wi1 ((wipe σ vs).set j (some x)) H1 f)
    (hl : ∀ (i : Nat) f g, fs[i]? = some f → gs[i]? = some g → g.length = f.length)
    (he : ∀ (i m : Nat) d f g a e x y H1, ds[i]? = some d → fs[i]? = some f → gs[i]? = some g → f[m]? = some a → g[m]? = some e → Same H H1 → Tp K H1 x d → Tp K H1 y a → EvD K te ((wipe ((wipe σ vs).set j (some x)) vs1).set j1 (some y)) H1 e) :
    EvDL K (tLc2 wi (gName j) tYes wi1 (gName j1) tYes te vs vs1) σ H gs.flatten := fun H0 s Q q => by
  refine (h H0 s).go _ fun J H1 s1 hgo hst hy Dl hD => ?_
  refine ⟨fun i m H' => m = ds.length - i ∧ i ≤ ds.length ∧ Same H1 H' ∧ ∃ acc, H' Dl = some (.lst acc) ∧ TpL K H' acc (gs.take i).flatten, ⟨ds.length, by simp, Nat.zero_le _, same_new hD, [], upd_same, by simp; exact .nil⟩, ?_⟩
  rintro i m H' ⟨rfl, hle, s2, acc, ea, ta⟩
  by_cases hlt : i < ds.length
  · refine .inr ⟨hgo i H' hlt (.of s2), fun H3 => i + 1 ≤ ds.length ∧ Same H1 H3 ∧ ∃ acc, H3 Dl = some (.lst acc) ∧ TpL K H3 acc (gs.take (i + 1)).flatten, fun H3 p => ⟨ds.length - (i + 1), by omega, rfl, p⟩, fun x H'' y => ?_⟩
    obtain ⟨rfl, hd⟩ := hy i x H' H'' (.of s2) y
    obtain ⟨d, hd1, hd2⟩ := hd hlt
    have ef : fs[i]? = some (fs[i]'(by omega)) := List.getElem?_eq_getElem (by omega)
    have eg : gs[i]? = some (gs[i]'(by omega)) := List.getElem?_eq_getElem (by omega)
    have el := hl i _ _ ef eg
    obtain ⟨f, hfe⟩ : ∃ f, fs[i]'(by omega) = f := ⟨_, rfl⟩
    obtain ⟨gg, hge⟩ : ∃ f, gs[i]'(by omega) = f := ⟨_, rfl⟩
    rw [hfe] at ef el
    rw [hge] at eg el
    have ss : Same H H'' := (s.trans s1).trans s2
    have etk : (gs.take (i + 1)).flatten = (gs.take i).flatten ++ gg := by
      rw [List.take_add_one, eg]
      simp
    have bnd : (gs.take i).flatten.length + gg.length ≤ 1000000 := by
      have e4 : gs.flatten = (gs.take (i + 1)).flatten ++ (gs.drop (i + 1)).flatten := by
        rw [← List.flatten_append, List.take_append_drop]
      rw [e4, etk, List.length_append, List.length_append] at hz
      omega
    refine ⟨hw x, yes_then ?_⟩
    refine (hi i d f x H'' hd1 ef ss hd2).go _ fun J1 H4 s4 hgo1 hst1 hy1 => ?_
    refine ⟨fun a k H5 => k = f.length - a ∧ a ≤ f.length ∧ Same H1 H5 ∧ TupK H4 H5 ∧ KeepB Dl H4 H5 ∧ ∃ acc, H5 Dl = some (.lst acc) ∧ TpL K H5 acc ((gs.take i).flatten ++ gg.take a), ⟨f.length, by simp, Nat.zero_le _, s2.trans s4, .of (Same.refl _), KeepB.refl _ _, acc, s4 _ _ ea, by simpa using ta.stay (.of s4)⟩, ?_⟩
    rintro a k H5 ⟨rfl, ale, s5, tk5, kb5, acc5, ea5, ta5⟩
    have st5 : Stays H'' H4 H5 := ⟨tk5, fun b o hb e => kb5 b o e fun z => by
      rw [z, ea] at hb
      cases hb⟩
    by_cases alt : a < f.length
    · refine .inr ⟨hgo1 a H5 alt st5, fun H6 => a + 1 ≤ f.length ∧ Same H1 H6 ∧ TupK H4 H6 ∧ KeepB Dl H4 H6 ∧ ∃ acc, H6 Dl = some (.lst acc) ∧ TpL K H6 acc ((gs.take i).flatten ++ gg.take (a + 1)), fun H6 p => ⟨f.length - (a + 1), by omega, rfl, p⟩, fun y H6 yy => ?_⟩
      obtain ⟨rfl, hd'⟩ := hy1 a y H5 H6 st5 yy
      obtain ⟨e0, he1, he2⟩ := hd' alt
      have eg2 : gg[a]? = some (gg[a]'(by omega)) := List.getElem?_eq_getElem (by omega)
      refine ⟨hw1 x y, yes_then ?_⟩
      have sx : Same H H6 := (s.trans s1).trans s5
      refine he i a d f gg e0 _ x y H6 hd1 ef eg he1 eg2 sx (hd2.stay ((TupK.of s4).trans tk5)) he2 H6 (Same.refl _) _ fun v H7 s7 tv => ?_
      have e7 := s7 _ _ ea5
      refine ⟨acc5, e7, by rw [ta5.len, List.length_append, List.length_take]; exact sz6 (by omega), alt, same_upd_new (s5.trans s7) hD, (tk5.trans (.of s7)).trans (.keep keep_upd e7), (kb5.trans (KeepB.of s7)).trans keep_upd, _, upd_same, ?_⟩
      have et : gg.take (a + 1) = gg.take a ++ [gg[a]'(by omega)] := by
        rw [List.take_add_one, eg2]
        rfl
      rw [et, ← List.append_assoc]
      exact ((ta5.stay (.of s7)).app (.one tv)).stay (.keep keep_upd e7)
    · have e : a = f.length := by omega
      subst e
      refine .inl ⟨hst1 H5 st5, hlt, s5, acc5, ea5, ?_⟩
      rw [etk]
      rw [← el, List.take_length] at ta5
      exact ta5
  · have e : i = ds.length := by omega
    subst e
    refine .inl ⟨hst H' (.of s2), q Dl acc H' (s1.free hD) (s1.trans s2) ea ?_⟩
    rw [← hg, List.take_length] at ta
    exact ta
end
end Mg

set_option Elab.async false
set_option linter.all false
set_option maxRecDepth 100000
set_option maxHeartbeats 1000000
namespace Mg
open PySem PySem.Spec PyProof.Rows L2
/-! max(xs, default=d) of a list of whole numbers -/
def maxI (d : Int) : List Int → Int
  | [] => d
  | y :: ys => ys.foldl max y
def rMaxD (K : PySem.W.Frag) : List V → List V → Hp → VK → Prop := fun vs zs H Q => ∃ (a : Addr) (ns : List Int) (d : Int), vs = [V.ref a] ∧ zs = [.int d] ∧ SqL K H a (ns.map V.int) ∧ Q (.int (maxI d ns)) H
theorem reads_ints {h : Heap} : ∀ {vs : List Value} {ns : List Int}, IntsAre vs ns → ReadsAll h vs (ns.map PyData.int) []
  | [], [], _ => .nil
  | [], _ :: _, h => by cases h
  | _ :: _, [], h => by cases h
  | v :: vs, n :: ns, h => by
    cases h with
    | cons t r => exact .cons (.int n _) (reads_ints (by assumption))
theorem depth_ints : ∀ ns : List Int, PyData.depthAll (ns.map PyData.int) = 0
  | [] => rfl
  | n :: ns => by
    show max 0 (PyData.depthAll (ns.map PyData.int)) = 0
    rw [depth_ints ns]
    rfl
theorem alike_ints (ns : List Int) : PySem.W.AlikeAll (ns.map PyData.int) := by
  refine ⟨fun x hx y hy => ?_, fun x hx => ?_⟩
  · obtain ⟨a, _, rfl⟩ := List.mem_map.mp hx
    obtain ⟨b, _, rfl⟩ := List.mem_map.mp hy
    rfl
  · obtain ⟨a, _, rfl⟩ := List.mem_map.mp hx
    intro e
    cases e
theorem cr_maxD {X : Cx} (hc : X.calm = true) (hu : X.A.units + 1 < cLine) : CallRK X (.builtin "max") [Str.ofString "default"] (rMaxD X.K) := by
  intro pins s σ H vs zs us ws Q I r rz h
  obtain ⟨a, ns, d, rfl, rfl, hs, q⟩ := h
  obtain ⟨its, rv, hl, hz⟩ := I.list hs
  obtain rfl := Vals.ref1 r
  obtain ⟨w1, rfl, t0, rfl⟩ : ∃ w1, ws = [w1] ∧ ∃ t, w1 = Value.int d t := by
    cases rz with
    | cons a b =>
      cases b
      exact ⟨_, rfl, a⟩
  have hi := rv.ints
  refine PySem.W.max_list_default (as := []) (xs := ns.map PyData.int) (I.ok.hd hc) hl.isList (by rw [List.toList_toArray]; exact reads_ints hi) (alike_ints ns) (by rw [depth_ints]; exact hu) (fun e h' tk hk => ?_) fun y ys i v h' tk bs e hv rd hk => ?_
  · have e : ns = [] := List.map_eq_nil_iff.mp e
    subst e
    exact ⟨.int _, H, I.kept hk, ⟨_, rfl⟩, q⟩
  · cases ns with
    | nil => cases e
    | cons n ns =>
      rw [List.map_cons] at e
      cases e
      rw [PySem.W.maxD_ints] at rd
      cases rd with
      | int _ t => exact ⟨.int _, H, I.kept hk, ⟨_, rfl⟩, q⟩
theorem maxI_le {d : Int} : ∀ {ns : List Int} {m : Int}, (∀ n ∈ ns, n ≤ m) → d ≤ m → maxI d ns ≤ m
  | [], m, _, h => h
  | y :: ys, m, h, _ => by
    have : ∀ (ys : List Int) (y : Int), y ≤ m → (∀ n ∈ ys, n ≤ m) → ys.foldl max y ≤ m := by
      intro ys
      induction ys with
      | nil => intro y a _; exact a
      | cons z zs ih =>
        intro y a b
        exact ih _ (by have := b z (List.mem_cons_self ..); omega) fun n hn => b n (List.mem_cons_of_mem _ hn)
    exact this ys y (h y (List.mem_cons_self ..)) fun n hn => h n (List.mem_cons_of_mem _ hn)
theorem maxI_cons (d : Int) (y : Int) (ys : List Int) (h : ∀ n ∈ y :: ys, d ≤ n) : maxI d (y :: ys) = max y (maxI d ys) := by
  have key : ∀ (ys : List Int) (a b : Int), ys.foldl max (max a b) = max a (ys.foldl max b) := by
    intro ys
    induction ys with
    | nil => intro a b; rfl
    | cons z zs ih =>
      intro a b
      rw [List.foldl_cons, List.foldl_cons, show max (max a b) z = max a (max b z) by omega]
      exact ih _ _
  cases ys with
  | nil =>
    have := h y (List.mem_cons_self ..)
    show y = max y d
    omega
  | cons z zs =>
    show (z :: zs).foldl max y = max y (zs.foldl max z)
    exact key zs y z
end Mg

set_option Elab.async false
set_option linter.all false
set_option maxRecDepth 100000
set_option maxHeartbeats 1000000
namespace Mg.Nw
open PySem PySem.Spec PyProof.Rows L2
/-! data: what values are, seen from the heap; things that are objects by what is true of them -/
abbrev AS := Addr → Prop
inductive Dt where
  | non | bl (b : Bool) | int (i : Int) | str (x : Str) | lst (ds : List Dt) | tup (ds : List Dt) | obj (P : AS → Hp → V → Prop)
/-- tuples never change -/
def stil : HO → Bool
  | .tup _ => true
  | .frz _ (.tup _) => true
  | _ => false
/-- what stands outside of S stands, and so do tuples -/
def Fr (S : AS) (H H' : Hp) : Prop := ∀ b o, H b = some o → (S b → stil o = true) → H' b = some o
theorem Fr.refl {S : AS} {H : Hp} : Fr S H H := fun _ _ h _ => h
theorem Fr.trans {S : AS} {H H1 H2 : Hp} (a : Fr S H H1) (b : Fr S H1 H2) : Fr S H H2 := fun c o h n => b c o (a c o h n) n
theorem Fr.mono {S S' : AS} {H H1 : Hp} (a : Fr S H H1) (h : ∀ x, S x → S' x) : Fr S' H H1 := fun c o e n => a c o e fun z => n (h _ z)
theorem Fr.of {S : AS} {H H1 : Hp} (a : Same H H1) : Fr S H H1 := fun c o e _ => a c o e
theorem Fr.new {S : AS} {H : Hp} {p : Addr} {o : HO} (h : H p = none) : Fr S H (upd H p o) := .of (same_new h)
theorem Fr.at {S : AS} {H : Hp} {p : Addr} {o u : HO} (h : S p) (hp : H p = some u) (hu : stil u = false) : Fr S H (upd H p o) := fun b v e n => by
  rw [upd_ne fun z => by
    rw [z] at e n
    rw [hp] at e
    cases e
    rw [n h] at hu
    cases hu]
  exact e
theorem Fr.no {S : AS} {H H1 : Hp} (a : Fr S H H1) {b : Addr} {o : HO} (h : H b = some o) (n : ¬ S b) : H1 b = some o := a b o h fun z => absurd z n
theorem Fr.sqt {K : PySem.W.Frag} {S : AS} {H H' : Hp} {a : Addr} {xs : List V} (f : Fr S H H') (h : SqT K H a xs) : SqT K H' a xs := by
  rcases h with (h | ⟨o, h⟩) | h
  · exact .inl (.inl (f _ _ h fun _ => rfl))
  · exact .inl (.inr ⟨o, f _ _ h fun _ => rfl⟩)
  · exact .inr h
/-- what is true of an object stands -/
structure Stab (P : AS → Hp → V → Prop) : Prop where
  stay : ∀ {S H H' v}, Fr S H H' → P S H v → P S H' v
  chg : ∀ {S S' : AS} {H v}, (∀ a, S' a → S a ∨ H a = none) → P S H v → P S' H v
mutual
inductive IsD (K : PySem.W.Frag) (S : AS) (H : Hp) : V → Dt → Prop
  | non : IsD K S H .non .non
  | bl (b : Bool) : IsD K S H (.bl b) (.bl b)
  | int (i : Int) : IsD K S H (.int i) (.int i)
  | str (x : Str) : IsD K S H (.str x) (.str x)
  | lst {a : Addr} {xs : List V} {ds : List Dt} : H a = some (.lst xs) → ¬ S a → IsL K S H xs ds → IsD K S H (.ref a) (.lst ds)
  | tup {a : Addr} {xs : List V} {ds : List Dt} : SqT K H a xs → IsL K S H xs ds → IsD K S H (.ref a) (.tup ds)
  | obj {v : V} {P : AS → Hp → V → Prop} : Stab P → P S H v → IsD K S H v (.obj P)
inductive IsL (K : PySem.W.Frag) (S : AS) (H : Hp) : List V → List Dt → Prop
  | nil : IsL K S H [] []
  | cons {v : V} {d : Dt} {vs : List V} {ds : List Dt} : IsD K S H v d → IsL K S H vs ds → IsL K S H (v :: vs) (d :: ds)
end
mutual
theorem IsD.stay {K : PySem.W.Frag} {S : AS} {H H' : Hp} (f : Fr S H H') : ∀ {v : V} {d : Dt}, IsD K S H v d → IsD K S H' v d
  | _, _, .non => .non
  | _, _, .bl b => .bl b
  | _, _, .int i => .int i
  | _, _, .str x => .str x
  | _, _, .lst h n l => .lst (f.no h n) n (IsL.stay f l)
  | _, _, .tup h l => .tup (f.sqt h) (IsL.stay f l)
  | _, _, .obj st h => .obj st (st.stay f h)
theorem IsL.stay {K : PySem.W.Frag} {S : AS} {H H' : Hp} (f : Fr S H H') : ∀ {vs : List V} {ds : List Dt}, IsL K S H vs ds → IsL K S H' vs ds
  | _, _, .nil => .nil
  | _, _, .cons a b => .cons (IsD.stay f a) (IsL.stay f b)
end
mutual
theorem IsD.chg {K : PySem.W.Frag} {S S' : AS} {H : Hp} (f : ∀ a, S' a → S a ∨ H a = none) : ∀ {v : V} {d : Dt}, IsD K S H v d → IsD K S' H v d
  | _, _, .non => .non
  | _, _, .bl b => .bl b
  | _, _, .int i => .int i
  | _, _, .str x => .str x
  | _, _, .lst h n l => .lst h (fun z => (f _ z).elim n fun e => by rw [h] at e; cases e) (IsL.chg f l)
  | _, _, .tup h l => .tup h (IsL.chg f l)
  | _, _, .obj st h => .obj st (st.chg f h)
theorem IsL.chg {K : PySem.W.Frag} {S S' : AS} {H : Hp} (f : ∀ a, S' a → S a ∨ H a = none) : ∀ {vs : List V} {ds : List Dt}, IsL K S H vs ds → IsL K S' H vs ds
  | _, _, .nil => .nil
  | _, _, .cons a b => .cons (IsD.chg f a) (IsL.chg f b)
end
section
variable {K : PySem.W.Frag} {S S' : AS} {H H' : Hp}
theorem IsL.len : ∀ {vs : List V} {ds : List Dt}, IsL K S H vs ds → vs.length = ds.length
  | _, _, .nil => rfl
  | _, _, .cons _ b => by rw [List.length_cons, List.length_cons, IsL.len b]
theorem IsL.get : ∀ {vs : List V} {ds : List Dt} {i : Nat} {d : Dt}, IsL K S H vs ds → ds[i]? = some d → ∃ v, vs[i]? = some v ∧ IsD K S H v d
  | _, _, _, _, .nil, e => by simp at e
  | _, _, 0, _, .cons a _, e => by
    cases Option.some.inj e
    exact ⟨_, rfl, a⟩
  | _, _, i + 1, _, .cons _ b, e => by
    obtain ⟨v, h1, h2⟩ := IsL.get (i := i) b e
    exact ⟨v, h1, h2⟩
theorem IsL.get' : ∀ {vs : List V} {ds : List Dt} {i : Nat} {v : V}, IsL K S H vs ds → vs[i]? = some v → ∃ d, ds[i]? = some d ∧ IsD K S H v d
  | _, _, _, _, .nil, e => by simp at e
  | _, _, 0, _, .cons a _, e => by
    cases Option.some.inj e
    exact ⟨_, rfl, a⟩
  | _, _, i + 1, _, .cons _ b, e => by
    obtain ⟨v, h1, h2⟩ := IsL.get' (i := i) b e
    exact ⟨v, h1, h2⟩
theorem IsL.at {vs : List V} {ds : List Dt} {i : Nat} {x : V} {d : Dt} (h : IsL K S H vs ds) (h1 : vs[i]? = some x) (h2 : ds[i]? = some d) : IsD K S H x d := by
  obtain ⟨v, a, b⟩ := h.get h2
  rw [h1] at a
  cases a
  exact b
theorem IsL.app : ∀ {vs us : List V} {ds es : List Dt}, IsL K S H vs ds → IsL K S H us es → IsL K S H (vs ++ us) (ds ++ es)
  | _, _, _, _, .nil, g => g
  | _, _, _, _, .cons a b, g => .cons a (IsL.app b g)
theorem IsL.one {v : V} {d : Dt} (h : IsD K S H v d) : IsL K S H [v] [d] := .cons h .nil
theorem IsL.drop : ∀ {vs : List V} {ds : List Dt} (n : Nat), IsL K S H vs ds → IsL K S H (vs.drop n) (ds.drop n)
  | _, _, 0, h => h
  | _, _, n + 1, .nil => .nil
  | _, _, n + 1, .cons _ b => IsL.drop n b
theorem IsL.take : ∀ {vs : List V} {ds : List Dt} (n : Nat), IsL K S H vs ds → IsL K S H (vs.take n) (ds.take n)
  | _, _, 0, h => .nil
  | _, _, n + 1, .nil => .nil
  | _, _, n + 1, .cons a b => .cons a (IsL.take n b)
theorem IsL.set : ∀ {vs : List V} {ds : List Dt} {v : V} {d : Dt} (n : Nat), IsL K S H vs ds → IsD K S H v d → IsL K S H (vs.set n v) (ds.set n d)
  | _, _, _, _, _, .nil, _ => .nil
  | _, _, _, _, 0, .cons _ b, h => .cons h b
  | _, _, _, _, n + 1, .cons a b, h => .cons a (IsL.set n b h)
theorem isd_int {v : V} {i : Int} (h : IsD K S H v (.int i)) : v = .int i := by cases h; rfl
theorem isd_str {v : V} {i : Str} (h : IsD K S H v (.str i)) : v = .str i := by cases h; rfl
theorem isd_bl {v : V} {i : Bool} (h : IsD K S H v (.bl i)) : v = .bl i := by cases h; rfl
theorem isd_non {v : V} (h : IsD K S H v .non) : v = .non := by cases h; rfl
theorem isd_tup {v : V} {ds : List Dt} (h : IsD K S H v (.tup ds)) : ∃ a xs, v = .ref a ∧ SqT K H a xs ∧ IsL K S H xs ds := by
  cases h with
  | tup t l => exact ⟨_, _, rfl, t, l⟩
theorem isd_lst {v : V} {ds : List Dt} (h : IsD K S H v (.lst ds)) : ∃ a xs, v = .ref a ∧ H a = some (.lst xs) ∧ ¬ S a ∧ IsL K S H xs ds := by
  cases h with
  | lst t n l => exact ⟨_, _, rfl, t, n, l⟩
theorem isd_obj {v : V} {P : AS → Hp → V → Prop} (h : IsD K S H v (.obj P)) : P S H v := by
  cases h with
  | obj _ h => exact h
theorem isl_ints : ∀ {vs : List V} {ns : List Int}, IsL K S H vs (ns.map Dt.int) → vs = ns.map V.int
  | vs, [], h => by cases h; rfl
  | vs, n :: ns, h => by
    cases h with
    | cons a b =>
      rw [isd_int a, isl_ints b]
      rfl
theorem isl_strs : ∀ {vs : List V} {ns : List Str}, IsL K S H vs (ns.map Dt.str) → vs = ns.map V.str
  | vs, [], h => by cases h; rfl
  | vs, n :: ns, h => by
    cases h with
    | cons a b =>
      rw [isd_str a, isl_strs b]
      rfl
theorem isl_bls : ∀ {vs : List V} {ns : List Bool}, IsL K S H vs (ns.map Dt.bl) → vs = ns.map V.bl
  | vs, [], h => by cases h; rfl
  | vs, n :: ns, h => by
    cases h with
    | cons a b =>
      rw [isd_bl a, isl_bls b]
      rfl
theorem isl_of_ints : ∀ (ns : List Int), IsL K S H (ns.map V.int) (ns.map Dt.int)
  | [] => .nil
  | n :: ns => .cons (.int n) (isl_of_ints ns)
theorem isl_of_strs : ∀ (ns : List Str), IsL K S H (ns.map V.str) (ns.map Dt.str)
  | [] => .nil
  | n :: ns => .cons (.str n) (isl_of_strs ns)
end
/-! slots -/
inductive Sl where
  | any | f (d : Dt) | o (ds : List Dt)
def own (σ : L2.St) (Γ : List Sl) : AS := fun (a : Addr) => ∃ (i : Nat) (ds : List Dt), Γ[i]? = some (Sl.o ds) ∧ σ[i]? = some (some (V.ref a))
def SlOk (K : PySem.W.Frag) (S : AS) (H : Hp) (x : Option (Option V)) : Sl → Prop
  | .any => True
  | .f d => ∃ v, x = some (some v) ∧ IsD K S H v d
  | .o ds => ∃ p xs, x = some (some (.ref p)) ∧ H p = some (.lst xs) ∧ IsL K S H xs ds
/-- what may change besides (C), what data stay away from (A), what is true of it (G) -/
structure Md where
  K : PySem.W.Frag
  C : AS
  G : AS → Hp → Prop
  gs : ∀ {S : AS} {H H' : Hp}, Fr (fun b => S b ∧ ¬ C b) H H' → G S H → G S H'
  gc : ∀ {S S' : AS} {H : Hp}, (∀ a, S' a → S a ∨ H a = none) → G S H → G S' H
def SA (A : AS) (σ : L2.St) (Γ : List Sl) : AS := fun a => A a ∨ own σ Γ a
structure En (M : Md) (A : AS) (H0 : Hp) (Γ : List Sl) (σ : L2.St) (H : Hp) : Prop where
  len : σ.length = Γ.length
  at' : ∀ (i : Nat) (s : Sl), Γ[i]? = some s → SlOk M.K (SA A σ Γ) H σ[i]? s
  inj : ∀ (i j : Nat) (ds es : List Dt) (a : Addr), Γ[i]? = some (Sl.o ds) → Γ[j]? = some (Sl.o es) → σ[i]? = some (some (V.ref a)) → σ[j]? = some (some (V.ref a)) → i = j
  fr : Fr M.C H0 H
  new : ∀ a, own σ Γ a → H0 a = none
  nA : ∀ a, own σ Γ a → ¬ A a
  av : ∀ a, A a → ∃ o, H a = some o
  inv : M.G (SA A σ Γ) H
  cA : ∀ a, M.C a → A a
/-- what an expression leaves -/
structure Nx (M : Md) (S : AS) (H H' : Hp) : Prop where
  fr : Fr M.C H H'
  al : ∀ a, M.C a → ∃ o, H' a = some o
  inv : M.G S H'
  cS : ∀ a, M.C a → S a
/-- Γ says no more than Γ' -/
inductive SlLe : Sl → Sl → Prop
  | refl {s : Sl} : SlLe s s
  | any {s : Sl} : SlLe s .any
  | frz {ds : List Dt} : SlLe (.o ds) (.f (.lst ds))
inductive Sub : List Sl → List Sl → Prop
  | nil : Sub [] []
  | cons {s t : Sl} {Γ Δ : List Sl} : SlLe s t → Sub Γ Δ → Sub (s :: Γ) (t :: Δ)
theorem Sub.refl : ∀ {Γ : List Sl}, Sub Γ Γ
  | [] => .nil
  | _ :: _ => .cons .refl Sub.refl
theorem Sub.len : ∀ {Γ Δ : List Sl}, Sub Γ Δ → Γ.length = Δ.length
  | _, _, .nil => rfl
  | _, _, .cons _ b => by rw [List.length_cons, List.length_cons, Sub.len b]
theorem Sub.at : ∀ {Γ Δ : List Sl} {i : Nat} {t : Sl}, Sub Γ Δ → Δ[i]? = some t → ∃ s, Γ[i]? = some s ∧ SlLe s t
  | _, _, _, _, .nil, e => by simp at e
  | _, _, 0, _, .cons a _, e => by
    cases Option.some.inj e
    exact ⟨_, rfl, a⟩
  | _, _, i + 1, _, .cons _ b, e => by
    obtain ⟨v, h1, h2⟩ := Sub.at (i := i) b e
    exact ⟨v, h1, h2⟩
section
variable {M : Md} {A : AS} {H0 H H1 H2 H' : Hp} {Γ Δ Γ' : List Sl} {σ σ' : L2.St} {S : AS} {d d1 d2 : Dt} {ds es : List Dt} {te ta tb tl : TE} {tas : TA} {t u : TT} {b : Bool}
theorem En.sv (e : En M A H0 Γ σ H) : ∀ a, SA A σ Γ a → ∃ o, H a = some o := fun a h => by
  rcases h with h | ⟨i, ds, h1, h2⟩
  · exact e.av a h
  · obtain ⟨p, xs, h3, h4, _⟩ := e.at' i _ h1
    rw [h2] at h3
    cases h3
    exact ⟨_, h4⟩
theorem En.fresh (e : En M A H0 Γ σ H) {p : Addr} (h : H p = none) : ¬ SA A σ Γ p := fun z => by
  obtain ⟨o, ho⟩ := e.sv p z
  rw [h] at ho
  cases ho
theorem En.ownA (e : En M A H0 Γ σ H) {p : Addr} (h : own σ Γ p) : ¬ A p := e.nA p h
theorem En.ownC (e : En M A H0 Γ σ H) {p : Addr} (h : own σ Γ p) : ¬ M.C p := fun z => e.nA p h (e.cA p z)
theorem Nx.refl (e : En M A H0 Γ σ H) : Nx M (SA A σ Γ) H H := ⟨.refl, fun a h => e.av a (e.cA a h), e.inv, fun a h => .inl (e.cA a h)⟩
theorem Nx.trans (a : Nx M S H H1) (b : Nx M S H1 H2) : Nx M S H H2 := ⟨a.fr.trans b.fr, b.al, b.inv, a.cS⟩
theorem Nx.sf (a : Nx M (SA A σ Γ) H H1) : Fr (SA A σ Γ) H H1 := a.fr.mono a.cS
theorem Nx.own (a : Nx M (SA A σ Γ) H H1) (e : En M A H0 Γ σ H) {p : Addr} {o : HO} (hp : own σ Γ p) (h : H p = some o) : H1 p = some o := a.fr.no h (e.ownC hp)
theorem En.nx (e : En M A H0 Γ σ H) (n : Nx M (SA A σ Γ) H H1) : En M A H0 Γ σ H1 where
  len := e.len
  at' := fun i s h => by
    have q := e.at' i s h
    cases s with
    | any => exact q
    | f d =>
      obtain ⟨v, h1, h2⟩ := q
      exact ⟨v, h1, h2.stay n.sf⟩
    | o ds =>
      obtain ⟨p, xs, h1, h2, h3⟩ := q
      exact ⟨p, xs, h1, n.own e ⟨i, ds, h, h1⟩ h2, h3.stay n.sf⟩
  inj := e.inj
  fr := e.fr.trans n.fr
  new := e.new
  nA := e.nA
  av := fun a h => by
    by_cases c : M.C a
    · exact n.al a c
    · obtain ⟨o, ho⟩ := e.av a h
      exact ⟨o, n.fr.no ho c⟩
  inv := n.inv
  cA := e.cA
/-- a new object -/
theorem Nx.new (e : En M A H0 Γ σ H) {p : Addr} {o : HO} (h : H p = none) : Nx M (SA A σ Γ) H (upd H p o) where
  fr := .new h
  al := fun a ha => by
    obtain ⟨o, ho⟩ := e.av a (e.cA a ha)
    exact ⟨o, same_new h _ _ ho⟩
  inv := M.gs (.new h) e.inv
  cS := fun a h => .inl (e.cA a h)
/-! what evaluates to what -/
def E (M : Md) (te : TE) (Γ : List Sl) (d : Dt) : Prop := ∀ A H0 σ H, En M A H0 Γ σ H → ∀ Q : VK, (∀ v H', Nx M (SA A σ Γ) H H' → IsD M.K (SA A σ Γ) H' v d → Q v H') → te σ H Q
/-- a list to be read -/
def ER (M : Md) (te : TE) (Γ : List Sl) (ds : List Dt) : Prop := ∀ A H0 σ H, En M A H0 Γ σ H → ∀ Q : VK, (∀ p xs H', Nx M (SA A σ Γ) H H' → H' p = some (.lst xs) → ¬ M.C p → IsL M.K (SA A σ Γ) H' xs ds → Q (.ref p) H') → te σ H Q
/-- a new list -/
def EL (M : Md) (te : TE) (Γ : List Sl) (ds : List Dt) : Prop := ∀ A H0 σ H, En M A H0 Γ σ H → ∀ Q : VK, (∀ p xs H', H p = none → Nx M (SA A σ Γ) H H' → H' p = some (.lst xs) → IsL M.K (fun a => SA A σ Γ a ∨ a = p) H' xs ds → M.G (fun a => SA A σ Γ a ∨ a = p) H' → Q (.ref p) H') → te σ H Q
def EA (M : Md) (ta : TA) (Γ : List Sl) (ds : List Dt) : Prop := ∀ A H0 σ H, En M A H0 Γ σ H → ∀ Q : List V → Hp → Prop, (∀ vs H', Nx M (SA A σ Γ) H H' → IsL M.K (SA A σ Γ) H' vs ds → Q vs H') → ta σ H Q
def ET (M : Md) (tt : TT) (Γ : List Sl) (b : Bool) : Prop := ∀ A H0 σ H, En M A H0 Γ σ H → ∀ Q : Bool → Hp → Prop, (∀ H', Nx M (SA A σ Γ) H H' → Q b H') → tt σ H Q
theorem el_e (h : EL M te Γ ds) : E M te Γ (.lst ds) := fun A H0 σ H e Q q => h A H0 σ H e Q fun p xs H' hp n hx l _ => q _ _ n (.lst hx (e.fresh hp) (l.chg fun a h => .inl (.inl h)))
theorem el_r (h : EL M te Γ ds) : ER M te Γ ds := fun A H0 σ H e Q q => h A H0 σ H e Q fun p xs H' hp n hx l _ => q _ _ _ n hx (fun z => e.fresh hp (.inl (e.cA _ z))) (l.chg fun a h => .inl (.inl h))
theorem e_r (h : E M te Γ (.lst ds)) : ER M te Γ ds := fun A H0 σ H e Q q => h A H0 σ H e Q fun v H' n hv => by
  obtain ⟨a, xs, rfl, h1, h2, h3⟩ := isd_lst hv
  exact q _ _ _ n h1 (fun z => h2 (.inl (e.cA _ z))) h3
theorem E.is (h : E M te Γ d) (e : d = d1) : E M te Γ d1 := e ▸ h
theorem ER.is (h : ER M te Γ ds) (e : ds = es) : ER M te Γ es := e ▸ h
theorem EL.is (h : EL M te Γ ds) (e : ds = es) : EL M te Γ es := e ▸ h
theorem ET.is {c : Bool} (h : ET M t Γ b) (e : b = c) : ET M t Γ c := e ▸ h
theorem x_var {i : Nat} (h : Γ[i]? = some (.f d)) : E M (tVar i) Γ d := fun A H0 σ H e Q q => by
  obtain ⟨v, h1, h2⟩ := e.at' i _ h
  exact ⟨v, h1, q v H (.refl e) h2⟩
theorem r_var {i : Nat} (h : Γ[i]? = some (.o ds)) : ER M (tVar i) Γ ds := fun A H0 σ H e Q q => by
  obtain ⟨p, xs, h1, h2, h3⟩ := e.at' i _ h
  exact ⟨_, h1, q p xs H (.refl e) h2 (e.ownC ⟨i, ds, h, h1⟩) h3⟩
theorem x_c {v : V} (h : ∀ S H, IsD M.K S H v d) : E M (tC v) Γ d := fun A H0 σ H e Q q => q v H (.refl e) (h _ _)
theorem x_int {i : Int} : E M (tC (.int i)) Γ (.int i) := x_c fun _ _ => .int i
theorem x_str {i : Str} : E M (tC (.str i)) Γ (.str i) := x_c fun _ _ => .str i
theorem x_bl {i : Bool} : E M (tC (.bl i)) Γ (.bl i) := x_c fun _ _ => .bl i
theorem x_non : E M (tC .non) Γ .non := x_c fun _ _ => .non
theorem x_tupc {a : Addr} {xs : List V} (h : ∀ H', SqT M.K H' a xs) (l : ∀ S H, IsL M.K S H xs ds) : E M (tC (.ref a)) Γ (.tup ds) := x_c fun S H => .tup (h H) (l S H)
/-- an operation of two places upon data -/
def RX (K : PySem.W.Frag) (r : R2) (d1 d2 d : Dt) : Prop := ∀ S v1 v2 H Q, IsD K S H v1 d1 → IsD K S H v2 d2 → (∀ v, IsD K S H v d → Q v H) → r v1 v2 H Q
theorem x_op {r : R2} (ha : E M ta Γ d1) (hb : E M tb Γ d2) (hr : RX M.K r d1 d2 d) : E M (tOp r ta tb) Γ d := fun A H0 σ H e Q q =>
  ha A H0 σ H e _ fun v1 H1 n1 t1 => hb A H0 σ H1 (e.nx n1) _ fun v2 H2 n2 t2 => hr _ v1 v2 H2 Q (t1.stay n2.sf) t2 fun v tv => q v H2 (n1.trans n2) tv
variable {K : PySem.W.Frag}
theorem o_I0i {f : Int → Int → Int} {i j : Int} : RX K (rI0 fun i j => .int (f i j)) (.int i) (.int j) (.int (f i j)) := fun S v1 v2 H Q t1 t2 q => by
  rw [isd_int t1, isd_int t2]
  exact ⟨i, j, rfl, rfl, q _ (.int _)⟩
theorem o_I0b {f : Int → Int → Bool} {i j : Int} : RX K (rI0 fun i j => .bl (f i j)) (.int i) (.int j) (.bl (f i j)) := fun S v1 v2 H Q t1 t2 q => by
  rw [isd_int t1, isd_int t2]
  exact ⟨i, j, rfl, rfl, q _ (.bl _)⟩
theorem o_Ii {C : Int → Int → Prop} {f : Int → Int → Int} {i j : Int} (c : C i j) : RX K (rI C fun i j => .int (f i j)) (.int i) (.int j) (.int (f i j)) := fun S v1 v2 H Q t1 t2 q => by
  rw [isd_int t1, isd_int t2]
  exact ⟨i, j, rfl, rfl, c, q _ (.int _)⟩
theorem o_eqS {x y : Str} : RX K rEq (.str x) (.str y) (.bl (decide (x = y))) := fun S v1 v2 H Q t1 t2 q => by
  rw [isd_str t1, isd_str t2]
  refine ⟨rfl, ?_⟩
  rw [show decide (V.str x = V.str y) = decide (x = y) by simp]
  exact q _ (.bl _)
theorem o_neS {x y : Str} : RX K rNe (.str x) (.str y) (.bl (!decide (x = y))) := fun S v1 v2 H Q t1 t2 q => by
  rw [isd_str t1, isd_str t2]
  refine ⟨rfl, ?_⟩
  rw [show decide (V.str x = V.str y) = decide (x = y) by simp]
  exact q _ (.bl _)
theorem o_eqI {x y : Int} : RX K rEq (.int x) (.int y) (.bl (decide (x = y))) := fun S v1 v2 H Q t1 t2 q => by
  rw [isd_int t1, isd_int t2]
  refine ⟨rfl, ?_⟩
  rw [show decide (V.int x = V.int y) = decide (x = y) by simp]
  exact q _ (.bl _)
theorem o_neI {x y : Int} : RX K rNe (.int x) (.int y) (.bl (!decide (x = y))) := fun S v1 v2 H Q t1 t2 q => by
  rw [isd_int t1, isd_int t2]
  refine ⟨rfl, ?_⟩
  rw [show decide (V.int x = V.int y) = decide (x = y) by simp]
  exact q _ (.bl _)
def Dt.isNon : Dt → Bool
  | .non => true
  | _ => false
def Dt.noObj : Dt → Bool
  | .obj _ => false
  | _ => true
theorem isd_dec {S : AS} {v : V} {d : Dt} (t : IsD K S H v d) (h : d.noObj = true) : decide (v = .non) = d.isNon := by
  cases t <;> first | (simp [Dt.isNon]; done) | cases h
theorem o_isN (h : d.noObj = true) : RX K (fun x y H Q => y = .non ∧ Q (.bl (decide (x = .non))) H) d .non (.bl d.isNon) := fun S v1 v2 H Q t1 t2 q => by
  refine ⟨isd_non t2, ?_⟩
  rw [isd_dec t1 h]
  exact q _ (.bl _)
theorem o_notN (h : d.noObj = true) : RX K (fun x y H Q => y = .non ∧ Q (.bl (!decide (x = .non))) H) d .non (.bl (!d.isNon)) := fun S v1 v2 H Q t1 t2 q => by
  refine ⟨isd_non t2, ?_⟩
  rw [isd_dec t1 h]
  exact q _ (.bl _)
theorem atI_get2 {α β : Type} {xs : List α} {ys : List β} {i : Int} {y : β} (hl : xs.length = ys.length) (h : atI ys i = some y) : ∃ n : Nat, ∃ x, atI xs i = some x ∧ xs[n]? = some x ∧ ys[n]? = some y := by
  unfold atI at h ⊢
  rw [hl]
  cases e : ixN ys.length i with
  | none =>
    rw [e] at h
    cases h
  | some n =>
    rw [e] at h
    have h : ys[n]? = some y := h
    have hn := (List.getElem?_eq_some_iff.mp h).1
    exact ⟨n, xs[n]'(by omega), List.getElem?_eq_getElem (by omega), List.getElem?_eq_getElem (by omega), h⟩
theorem o_ixT {i : Int} (h : atI ds i = some d) : RX K (rIxT K) (.tup ds) (.int i) d := fun S v1 v2 H Q t1 t2 q => by
  obtain ⟨a, xs, rfl, s, l⟩ := isd_tup t1
  rw [isd_int t2]
  obtain ⟨n, x, h1, h2, h3⟩ := atI_get2 l.len h
  exact ⟨a, xs, i, x, rfl, rfl, s, h1, q _ (l.at h2 h3)⟩
/-- an index of a list that is read -/
theorem x_ixL {i : Int} (ha : ER M ta Γ ds) (hb : E M tb Γ (.int i)) (h : atI ds i = some d) : E M (tOp (rIxL M.K) ta tb) Γ d := fun A H0 σ H e Q q =>
  ha A H0 σ H e _ fun p xs H1 n1 h1 c1 l1 => hb A H0 σ H1 (e.nx n1) _ fun v2 H2 n2 t2 => by
    rw [isd_int t2]
    have l2 := l1.stay n2.sf
    obtain ⟨n, x, e1, e2, e3⟩ := atI_get2 l2.len h
    exact ⟨p, xs, i, x, rfl, rfl, SqL.of (n2.fr.no h1 c1), e1, q _ _ (n1.trans n2) (l2.at e2 e3)⟩
theorem xa_nil : EA M tNil Γ [] := fun A H0 σ H e Q q => q _ H (.refl e) .nil
theorem xa_cons (h : E M te Γ d) (hs : EA M tas Γ ds) : EA M (tCons te tas) Γ (d :: ds) := fun A H0 σ H e Q q =>
  h A H0 σ H e _ fun v H1 n1 hd => hs A H0 σ H1 (e.nx n1) _ fun vs H2 n2 hds => q _ H2 (n1.trans n2) (.cons (hd.stay n2.sf) hds)
theorem x_tup (h : EA M tas Γ ds) (hl : ds.length ≤ 1000) : E M (tTup tas) Γ (.tup ds) := fun A H0 σ H e Q q => h A H0 σ H e _ fun vs H1 n1 l =>
  ⟨by rw [l.len]; exact sz5 (by omega), fun p hp => q _ _ (n1.trans (.new (e.nx n1) hp)) (.tup (SqT.of upd_same) (l.stay (.new hp)))⟩
theorem Nx.free (n : Nx M (SA A σ Γ) H H1) {p : Addr} (hp : H1 p = none) : H p = none := by
  cases z : H p with
  | none => rfl
  | some o =>
    by_cases c : M.C p
    · obtain ⟨o, ho⟩ := n.al p c
      rw [hp] at ho
      cases ho
    · rw [n.fr.no z c] at hp
      cases hp
/-- a new list is made -/
theorem el_new (e : En M A H0 Γ σ H) (n : Nx M (SA A σ Γ) H H1) {p : Addr} {xs : List V} {Q : VK} (hp : H1 p = none) (l : IsL M.K (SA A σ Γ) H1 xs ds)
    (q : ∀ p xs H', H p = none → Nx M (SA A σ Γ) H H' → H' p = some (.lst xs) → IsL M.K (fun a => SA A σ Γ a ∨ a = p) H' xs ds → M.G (fun a => SA A σ Γ a ∨ a = p) H' → Q (.ref p) H') : Q (.ref p) (upd H1 p (.lst xs)) :=
  have c : ∀ a, (SA A σ Γ a ∨ a = p) → SA A σ Γ a ∨ H1 a = none := fun a h => h.elim .inl fun z => .inr (by rw [z]; exact hp)
  q p xs _ (n.free hp) (n.trans (.new (e.nx n) hp)) upd_same ((l.chg c).stay (.new hp)) (M.gs (.new hp) (M.gc c n.inv))
theorem xl_lst (h : EA M tas Γ ds) (hl : ds.length ≤ 1000) : EL M (tLst tas) Γ ds := fun A H0 σ H e Q q => h A H0 σ H e _ fun vs H1 n1 l =>
  ⟨by rw [l.len]; exact sz5 (by omega), fun p hp => el_new e n1 hp l q⟩
theorem xl_cat (ha : ER M ta Γ ds) (hb : ER M tb Γ es) (hl : ds.length + es.length ≤ 1000000) : EL M (tOp rCat ta tb) Γ (ds ++ es) := fun A H0 σ H e Q q =>
  ha A H0 σ H e _ fun l xs H1 n1 e1 c1 t1 => hb A H0 σ H1 (e.nx n1) _ fun m ys H2 n2 e2 c2 t2 =>
    ⟨l, m, xs, ys, rfl, rfl, n2.fr.no e1 c1, e2, by rw [t1.len, t2.len]; exact sz5 hl, fun p hp => el_new e (n1.trans n2) hp ((t1.stay n2.sf).app t2) q⟩
theorem x_catT (ha : E M ta Γ (.tup ds)) (hb : E M tb Γ (.tup es)) (h1 : ds ≠ []) (h2 : es ≠ []) (hl : ds.length + es.length ≤ 1000000) : E M (tOp (rCatT M.K) ta tb) Γ (.tup (ds ++ es)) := fun A H0 σ H e Q q =>
  ha A H0 σ H e _ fun v1 H1 n1 t1 => hb A H0 σ H1 (e.nx n1) _ fun v2 H2 n2 t2 => by
    obtain ⟨a, xs, rfl, s1, l1⟩ := isd_tup (t1.stay n2.sf)
    obtain ⟨c, ys, rfl, s2, l2⟩ := isd_tup t2
    refine ⟨a, c, xs, ys, rfl, rfl, s1, s2, fun z => h1 (by have := l1.len; rw [z] at this; exact List.length_eq_zero_iff.mp this.symm), by rw [l1.len, l2.len]; exact sz5 hl, fun z => absurd (by have := l2.len; rw [z] at this; exact List.length_eq_zero_iff.mp this.symm) h2, fun _ p hp => q _ _ ((n1.trans n2).trans (.new ((e.nx n1).nx n2) hp)) (.tup (SqT.of upd_same) ((l1.app l2).stay (.new hp)))⟩
theorem x_if (h : ET M t Γ b) (h1 : b = true → E M ta Γ d) (h2 : b = false → E M tb Γ d) : E M (tIf t ta tb) Γ d := fun A H0 σ H e Q q => h A H0 σ H e _ fun H1 n1 => by
  cases b with
  | true => exact iteT (h1 rfl A H0 σ H1 (e.nx n1) Q fun v H2 n2 => q v H2 (n1.trans n2))
  | false => exact iteF (h2 rfl A H0 σ H1 (e.nx n1) Q fun v H2 n2 => q v H2 (n1.trans n2))
theorem xt_test (h : E M te Γ (.bl b)) : ET M (tTest te) Γ b := fun A H0 σ H e Q q => h A H0 σ H e _ fun v H1 n1 hv => ⟨b, isd_bl hv, q H1 n1⟩
theorem xt_B (h : E M te Γ (.bl b)) : ET M (tB te) Γ b := fun A H0 σ H e Q q => h A H0 σ H e _ fun v H1 n1 hv => ⟨b, isd_bl hv, q H1 n1⟩
theorem xt_not (h : ET M t Γ b) : ET M (tNot t) Γ (!b) := fun A H0 σ H e Q q => h A H0 σ H e _ fun H1 n1 => q H1 n1
theorem xt_and {c : Bool} (h : ET M t Γ b) (h2 : b = true → ET M u Γ c) : ET M (tAnd t u) Γ (b && c) := fun A H0 σ H e Q q => h A H0 σ H e _ fun H1 n1 => by
  cases b with
  | true => exact iteT (h2 rfl A H0 σ H1 (e.nx n1) Q fun H2 n2 => q H2 (n1.trans n2))
  | false => exact iteF (q H1 n1)
theorem xt_or {c : Bool} (h : ET M t Γ b) (h2 : b = false → ET M u Γ c) : ET M (tOr t u) Γ (b || c) := fun A H0 σ H e Q q => h A H0 σ H e _ fun H1 n1 => by
  cases b with
  | true => exact iteT (q H1 n1)
  | false => exact iteF (h2 rfl A H0 σ H1 (e.nx n1) Q fun H2 n2 => q H2 (n1.trans n2))
theorem x_and {c : Bool} (h : E M ta Γ (.bl b)) (h2 : b = true → E M tb Γ (.bl c)) : E M (tAndV ta tb) Γ (.bl (b && c)) := fun A H0 σ H e Q q => h A H0 σ H e _ fun v H1 n1 hv => ⟨b, isd_bl hv, by
  cases b with
  | true => exact iteT (h2 rfl A H0 σ H1 (e.nx n1) Q fun v H2 n2 => q v H2 (n1.trans n2))
  | false => exact iteF (q _ H1 n1 (.bl _))⟩
theorem x_or {c : Bool} (h : E M ta Γ (.bl b)) (h2 : b = false → E M tb Γ (.bl c)) : E M (tOrV ta tb) Γ (.bl (b || c)) := fun A H0 σ H e Q q => h A H0 σ H e _ fun v H1 n1 hv => ⟨b, isd_bl hv, by
  cases b with
  | true => exact iteT (q _ H1 n1 (.bl _))
  | false => exact iteF (h2 rfl A H0 σ H1 (e.nx n1) Q fun v H2 n2 => q v H2 (n1.trans n2))⟩
theorem x_not (h : E M ta Γ (.bl b)) : E M (tNotV ta) Γ (.bl (!b)) := fun A H0 σ H e Q q => h A H0 σ H e _ fun v H1 n1 hv => ⟨b, isd_bl hv, q _ H1 n1 (.bl _)⟩
/-- a built-in of one thing; of two -/
def RB1 (K : PySem.W.Frag) (r : List V → Hp → VK → Prop) (d1 d : Dt) : Prop := ∀ S v1 H Q, IsD K S H v1 d1 → (∀ v, IsD K S H v d → Q v H) → r [v1] H Q
def RB2 (K : PySem.W.Frag) (r : List V → Hp → VK → Prop) (d1 d2 d : Dt) : Prop := ∀ S v1 v2 H Q, IsD K S H v1 d1 → IsD K S H v2 d2 → (∀ v, IsD K S H v d → Q v H) → r [v1, v2] H Q
theorem x_b1 {r : List V → Hp → VK → Prop} (h : E M te Γ d1) (hr : RB1 M.K r d1 d) : E M (tCB r (tCons te tNil)) Γ d := fun A H0 σ H e Q q => h A H0 σ H e _ fun v H1 n1 tv => hr _ v H1 Q tv fun v tv => q v H1 n1 tv
theorem x_b2 {r : List V → Hp → VK → Prop} (h : E M te Γ d1) (h2 : E M ta Γ d2) (hr : RB2 M.K r d1 d2 d) : E M (tCB r (tCons te (tCons ta tNil))) Γ d := fun A H0 σ H e Q q => h A H0 σ H e _ fun v H1 n1 tv => h2 A H0 σ H1 (e.nx n1) _ fun v2 H2 n2 t2 => hr _ v v2 H2 Q (tv.stay n2.sf) t2 fun v tv => q v H2 (n1.trans n2) tv
/-- a built-in upon a list that is read, without a new thing -/
def RBL (K : PySem.W.Frag) (r : List V → Hp → VK → Prop) (ds : List Dt) (d : Dt) : Prop := ∀ S p xs H Q, H p = some (.lst xs) → IsL K S H xs ds → (∀ v, IsD K S H v d → Q v H) → r [.ref p] H Q
theorem x_bL {r : List V → Hp → VK → Prop} (h : ER M te Γ ds) (hr : RBL M.K r ds d) : E M (tCB r (tCons te tNil)) Γ d := fun A H0 σ H e Q q => h A H0 σ H e _ fun p xs H1 n1 h1 c1 l1 => hr _ p xs H1 Q h1 l1 fun v tv => q v H1 n1 tv
theorem b_sum {ns : List Int} : RBL K (rSum K) (ns.map Dt.int) (.int ns.sum) := fun S p xs H Q h l q => by
  rw [isl_ints l] at h
  exact ⟨p, ns, rfl, SqL.of h, q _ (.int _)⟩
theorem b_all {bs : List Bool} : RBL K (rAll K) (bs.map Dt.bl) (.bl (bs.all id)) := fun S p xs H Q h l q => by
  rw [isl_bls l] at h
  exact ⟨p, bs, rfl, SqL.of h, q _ (.bl _)⟩
theorem b_any {bs : List Bool} : RBL K (rAny K) (bs.map Dt.bl) (.bl (bs.any id)) := fun S p xs H Q h l q => by
  rw [isl_bls l] at h
  exact ⟨p, bs, rfl, SqL.of h, q _ (.bl _)⟩
/-- tuple(a list that is read) -/
theorem x_tupOf {r : List V → Hp → VK → Prop} (hr : ∀ p xs H Q, SqL M.K H p xs → (∀ l, H l = none → Q (V.ref l) (upd H l (.tup xs))) → r [.ref p] H Q) (h : ER M te Γ ds) : E M (tCB r (tCons te tNil)) Γ (.tup ds) := fun A H0 σ H e Q q => h A H0 σ H e _ fun p xs H1 n1 h1 c1 l1 =>
  hr p xs H1 Q (SqL.of h1) fun l hl => q _ _ (n1.trans (.new (e.nx n1) hl)) (.tup (SqT.of upd_same) (l1.stay (.new hl)))
theorem xl_listOf {r : List V → Hp → VK → Prop} (hr : ∀ p xs H Q, SqL M.K H p xs → (∀ l, H l = none → Q (V.ref l) (upd H l (.lst xs))) → r [.ref p] H Q) (h : ER M te Γ ds) : EL M (tCB r (tCons te tNil)) Γ ds := fun A H0 σ H e Q q => h A H0 σ H e _ fun p xs H1 n1 h1 c1 l1 =>
  hr p xs H1 Q (SqL.of h1) fun l hl => el_new e n1 hl l1 q
theorem xl_listT {r : List V → Hp → VK → Prop} (hr : ∀ p xs H Q, SqT M.K H p xs → (∀ l, H l = none → Q (V.ref l) (upd H l (.lst xs))) → r [.ref p] H Q) (h : E M te Γ (.tup ds)) : EL M (tCB r (tCons te tNil)) Γ ds := fun A H0 σ H e Q q => h A H0 σ H e _ fun v H1 n1 tv => by
  obtain ⟨a, xs, rfl, s1, l1⟩ := isd_tup tv
  exact hr a xs H1 Q s1 fun l hl => el_new e n1 hl l1 q
end
end Mg.Nw

set_option Elab.async false
set_option linter.all false
set_option maxRecDepth 100000
set_option maxHeartbeats 1000000
namespace Mg.Nw
open PySem PySem.Spec PyProof.Rows L2
/-! statements -/
structure Go (A : AS) (σ : L2.St) (Γ : List Sl) (H : Hp) (σ' : L2.St) (Γ' : List Sl) (H' : Hp) : Prop where
  fr : Fr (SA A σ Γ) H H'
  ow : ∀ a, own σ' Γ' a → own σ Γ a ∨ H a = none
  al : ∀ a, H' a = none → H a = none
structure Po where
  nx : List Sl → Prop
  rt : Dt → Prop
  bk : List Sl → Prop := fun _ => False
  ct : List Sl → Prop := fun _ => False
def W (M : Md) (ts : TS) (Γ : List Sl) (P : Po) : Prop := ∀ A H0 D σ H, En M A H0 Γ σ H →
  (∀ Γ' σ' H', P.nx Γ' → En M A H0 Γ' σ' H' → Go A σ Γ H σ' Γ' H' → D.nx σ' H') →
  (∀ Γ' σ' H', P.bk Γ' → En M A H0 Γ' σ' H' → Go A σ Γ H σ' Γ' H' → D.bk σ' H') →
  (∀ Γ' σ' H', P.ct Γ' → En M A H0 Γ' σ' H' → Go A σ Γ H σ' Γ' H' → D.ct σ' H') →
  (∀ v d H', P.rt d → Nx M A H0 H' → IsD M.K A H' v d → D.rt v H') → ts D σ H
section
variable {M : Md} {A : AS} {H0 H H1 H2 H' : Hp} {Γ Δ Γ' Γ1 : List Sl} {σ σ' σ1 : L2.St} {S : AS} {d d1 d2 : Dt} {ds es : List Dt} {te ta tb tl : TE} {tas : TA} {t u : TT} {b : Bool} {tu tw tz ts : TS} {P : Po} {g : TG}
theorem Go.refl : Go A σ Γ H σ Γ H := ⟨.refl, fun _ h => .inl h, fun _ h => h⟩
theorem Go.trans (e1 : En M A H0 Γ1 σ1 H1) (a : Go A σ Γ H σ1 Γ1 H1) (b : Go A σ1 Γ1 H1 σ' Γ' H') : Go A σ Γ H σ' Γ' H' where
  fr := fun c o h n => by
    by_cases s : stil o = true
    · exact b.fr c o (a.fr c o h fun _ => s) fun _ => s
    · have ns : ¬ SA A σ Γ c := fun z => s (n z)
      refine b.fr c o (a.fr.no h ns) fun z => absurd z fun z => ?_
      rcases z with z | z
      · exact ns (.inl z)
      · rcases a.ow c z with z | z
        · exact ns (.inr z)
        · rw [h] at z
          cases z
  ow := fun c h => (b.ow c h).elim (a.ow c) fun z => .inr (a.al c z)
  al := fun c h => a.al c (b.al c h)
theorem Nx.go (n : Nx M (SA A σ Γ) H H1) : Go A σ Γ H σ Γ H1 := ⟨n.sf, fun _ h => .inl h, fun _ h => n.free h⟩
/-- what is known is known by less -/
theorem En.sub (e : En M A H0 Γ σ H) (s : Sub Γ Δ) : En M A H0 Δ σ H := by
  have ow : ∀ {i : Nat} {ds : List Dt}, Δ[i]? = some (Sl.o ds) → Γ[i]? = some (Sl.o ds) := fun h => by
    obtain ⟨x, h1, h2⟩ := s.at h
    cases h2
    exact h1
  have so : ∀ a, own σ Δ a → own σ Γ a := fun a ⟨i, ds, h1, h2⟩ => ⟨i, ds, ow h1, h2⟩
  have ss : ∀ a, SA A σ Δ a → SA A σ Γ a := fun a h => h.elim .inl fun h => .inr (so a h)
  refine ⟨by rw [e.len, s.len], fun i x h => ?_, fun i j ds es a h1 h2 => e.inj i j ds es a (ow h1) (ow h2), e.fr, fun a h => e.new a (so a h), fun a h => e.nA a (so a h), e.av, M.gc (fun a h => .inl (ss a h)) e.inv, e.cA⟩
  obtain ⟨y, h1, h2⟩ := s.at h
  have q := e.at' i y h1
  cases h2 with
  | refl =>
    cases x with
    | any => exact q
    | f d =>
      obtain ⟨v, h3, h4⟩ := q
      exact ⟨v, h3, h4.chg fun a h => .inl (ss a h)⟩
    | o ds =>
      obtain ⟨p, xs, h3, h4, h5⟩ := q
      exact ⟨p, xs, h3, h4, h5.chg fun a h => .inl (ss a h)⟩
  | any => exact True.intro
  | frz =>
    rename_i ds
    obtain ⟨p, xs, h3, h4, h5⟩ := q
    refine ⟨_, h3, .lst h4 (fun z => ?_) (h5.chg fun a h => .inl (ss a h))⟩
    rcases z with z | ⟨j, es, z1, z2⟩
    · exact e.ownA ⟨i, ds, h1, h3⟩ z
    · have : j = i := e.inj j i es ds p (ow z1) h1 z2 h3
      subst this
      rw [h] at z1
      cases z1
theorem Go.sub (s : Sub Γ' Δ) (a : Go A σ Γ H σ' Γ' H') : Go A σ Γ H σ' Δ H' := ⟨a.fr, fun c ⟨i, ds, h1, h2⟩ => a.ow c ⟨i, ds, by
  obtain ⟨x, h3, h4⟩ := s.at h1
  cases h4
  exact h3, h2⟩, a.al⟩
theorem w_sub (s : Sub Γ Δ) (h : W M ts Δ P) : W M ts Γ P := fun A H0 D σ H e kn kb kc kr => by
  have g : Go A σ Γ H σ Δ H := Go.refl.sub s
  exact h A H0 D σ H (e.sub s) (fun Γ' σ' H' p e' g' => kn Γ' σ' H' p e' (g.trans (e.sub s) g')) (fun Γ' σ' H' p e' g' => kb Γ' σ' H' p e' (g.trans (e.sub s) g')) (fun Γ' σ' H' p e' g' => kc Γ' σ' H' p e' (g.trans (e.sub s) g')) kr
/-- a slot is set -/
theorem set_at {α : Type} {l : List α} {i j : Nat} {x y : α} (h : (l.set i x)[j]? = some y) : (j = i ∧ y = x) ∨ (j ≠ i ∧ l[j]? = some y) := by
  rw [List.getElem?_set] at h
  by_cases c : i = j
  · rw [if_pos c] at h
    split at h
    · cases h
      exact .inl ⟨c.symm, rfl⟩
    · cases h
  · rw [if_neg c] at h
    exact .inr ⟨fun z => c z.symm, h⟩
theorem set_ne {α : Type} {l : List α} {i j : Nat} {x : α} (h : j ≠ i) : (l.set i x)[j]? = l[j]? := by
  rw [List.getElem?_set, if_neg fun z => h z.symm]
theorem own_set {i : Nat} {x : Option V} {s : Sl} (ns : ∀ ds, s ≠ .o ds) : ∀ a, own (σ.set i x) (Γ.set i s) a → own σ Γ a := fun a w => by
  obtain ⟨j, ds, h1, h2⟩ := w
  rcases set_at h1 with ⟨_, h⟩ | ⟨n, h⟩
  · exact absurd h.symm (ns ds)
  · rw [set_ne n] at h2
    exact ⟨j, ds, h, h2⟩
theorem En.setf {i : Nat} {v : V} (e : En M A H0 Γ σ H) (h : IsD M.K (SA A σ Γ) H v d) : En M A H0 (Γ.set i (.f d)) (σ.set i (some v)) H := by
  have so : ∀ a, own (σ.set i (some v)) (Γ.set i (.f d)) a → own σ Γ a := own_set fun _ z => by cases z
  have ss : ∀ a, SA A (σ.set i (some v)) (Γ.set i (.f d)) a → SA A σ Γ a := fun a h => h.elim .inl fun h => .inr (so a h)
  refine ⟨by rw [List.length_set, List.length_set, e.len], fun j x hx => ?_, fun j k ds es a h1 h2 h3 h4 => ?_, e.fr, fun a h => e.new a (so a h), fun a h => e.nA a (so a h), e.av, M.gc (fun a h => .inl (ss a h)) e.inv, e.cA⟩
  · rcases set_at hx with ⟨rfl, rfl⟩ | ⟨n, hj⟩
    · refine ⟨v, ?_, h.chg fun a h => .inl (ss a h)⟩
      have : j < σ.length := by
        rw [e.len]
        have := (List.getElem?_eq_some_iff.mp hx).1
        rw [List.length_set] at this
        exact this
      rw [List.getElem?_set, if_pos rfl, if_pos this]
    · rw [set_ne n]
      have q := e.at' j x hj
      cases x with
      | any => exact q
      | f d =>
        obtain ⟨v, h3, h4⟩ := q
        exact ⟨v, h3, h4.chg fun a h => .inl (ss a h)⟩
      | o ds =>
        obtain ⟨p, xs, h3, h4, h5⟩ := q
        exact ⟨p, xs, h3, h4, h5.chg fun a h => .inl (ss a h)⟩
  · rcases set_at h1 with ⟨_, z⟩ | ⟨n1, h1⟩
    · cases z
    rcases set_at h2 with ⟨_, z⟩ | ⟨n2, h2⟩
    · cases z
    rw [set_ne n1] at h3
    rw [set_ne n2] at h4
    exact e.inj j k ds es a h1 h2 h3 h4
theorem Go.setf {i : Nat} {v : V} : Go A σ Γ H (σ.set i (some v)) (Γ.set i (.f d)) H := ⟨.refl, fun a h => .inl (own_set (fun _ z => by cases z) a h), fun _ h => h⟩
theorem En.seto {i : Nat} {p : Addr} {xs : List V} (e : En M A H0 Γ σ H) (n : Nx M (SA A σ Γ) H H1) (hi : i < Γ.length) (hf : H p = none) (hp : H1 p = some (.lst xs)) (l : IsL M.K (fun a => SA A σ Γ a ∨ a = p) H1 xs ds) (G : M.G (fun a => SA A σ Γ a ∨ a = p) H1) :
    En M A H0 (Γ.set i (.o ds)) (σ.set i (some (.ref p))) H1 := by
  have so : ∀ a, own (σ.set i (some (.ref p))) (Γ.set i (.o ds)) a → own σ Γ a ∨ a = p := fun a ⟨j, es, h1, h2⟩ => by
    rcases set_at h1 with ⟨rfl, h⟩ | ⟨n, h⟩
    · rcases set_at h2 with ⟨_, h⟩ | ⟨n, h⟩
      · cases h
        exact .inr rfl
      · exact absurd rfl n
    · rw [set_ne n] at h2
      exact .inl ⟨j, es, h, h2⟩
  have ss : ∀ a, SA A (σ.set i (some (.ref p))) (Γ.set i (.o ds)) a → SA A σ Γ a ∨ a = p := fun a h => h.elim (fun h => .inl (.inl h)) fun h => (so a h).elim (fun h => .inl (.inr h)) .inr
  have sg : ∀ a, SA A (σ.set i (some (.ref p))) (Γ.set i (.o ds)) a → (fun a => SA A σ Γ a ∨ a = p) a ∨ H1 a = none := fun a h => .inl (ss a h)
  have sf : ∀ a, SA A (σ.set i (some (.ref p))) (Γ.set i (.o ds)) a → SA A σ Γ a ∨ H a = none := fun a h => (ss a h).elim .inl fun z => .inr (by rw [z]; exact hf)
  have fS : Fr (SA A (σ.set i (some (.ref p))) (Γ.set i (.o ds))) H H1 := n.fr.mono fun a h => .inl (e.cA a h)
  have nA : ¬ SA A σ Γ p := e.fresh hf
  have e1 := e.nx n
  have h0 : H0 p = none := by
    cases z : H0 p with
    | none => rfl
    | some o =>
      by_cases c : M.C p
      · obtain ⟨o, ho⟩ := e.av p (e.cA p c)
        rw [hf] at ho
        cases ho
      · rw [e.fr.no z c] at hf
        cases hf
  refine ⟨by rw [List.length_set, List.length_set, e.len], fun j x hx => ?_, fun j k es fs a h1 h2 h3 h4 => ?_, e1.fr, fun a h => (so a h).elim (e.new a) fun z => by rw [z]; exact h0, fun a h => (so a h).elim (e.nA a) fun z => by rw [z]; exact fun y => nA (.inl y), e1.av, M.gc sg G, e.cA⟩
  · rcases set_at hx with ⟨rfl, rfl⟩ | ⟨n2, hj⟩
    · refine ⟨p, xs, ?_, hp, l.chg sg⟩
      rw [List.getElem?_set, if_pos rfl, if_pos (by rw [e.len]; exact hi)]
    · rw [set_ne n2]
      have q := e.at' j x hj
      cases x with
      | any => exact q
      | f d =>
        obtain ⟨v, h3, h4⟩ := q
        exact ⟨v, h3, (h4.chg sf).stay fS⟩
      | o es =>
        obtain ⟨q, ys, h3, h4, h5⟩ := q
        exact ⟨q, ys, h3, n.own e ⟨j, es, hj, h3⟩ h4, (h5.chg sf).stay fS⟩
  · rcases set_at h1 with ⟨rfl, z⟩ | ⟨n1, g1⟩
    · rcases set_at h2 with ⟨rfl, z⟩ | ⟨n2, h2⟩
      · rfl
      · rw [set_ne n2] at h4
        rcases set_at h3 with ⟨_, h⟩ | ⟨n, h⟩
        · cases h
          exact absurd (.inr ⟨k, fs, h2, h4⟩) nA
        · exact absurd rfl n
    · rw [set_ne n1] at h3
      rcases set_at h2 with ⟨rfl, z⟩ | ⟨n2, h2⟩
      · rcases set_at h4 with ⟨_, h⟩ | ⟨n, h⟩
        · cases h
          exact absurd (.inr ⟨j, es, g1, h3⟩) nA
        · exact absurd rfl n
      · rw [set_ne n2] at h4
        exact e.inj j k es fs a g1 h2 h3 h4
theorem Go.seto {i : Nat} {p : Addr} (n : Nx M (SA A σ Γ) H H1) (hf : H p = none) : Go A σ Γ H (σ.set i (some (.ref p))) (Γ.set i (.o ds)) H1 := ⟨n.sf, fun a ⟨j, es, h1, h2⟩ => by
  rcases set_at h1 with ⟨rfl, h⟩ | ⟨n, h⟩
  · rcases set_at h2 with ⟨_, h⟩ | ⟨n, h⟩
    · cases h
      exact .inr hf
    · exact absurd rfl n
  · rw [set_ne n] at h2
    exact .inl ⟨j, es, h, h2⟩, fun a h => n.free h⟩
theorem w_set {i : Nat} (h : E M te Γ d) (k : W M tz (Γ.set i (.f d)) P) : W M (tSeq (tAsg te (gName i)) tz) Γ P := fun A H0 D σ H e kn kb kc kr => h A H0 σ H e _ fun v H1 n1 tv => by
  have e1 := (e.nx n1).setf (i := i) tv
  have g1 : Go A σ Γ H (σ.set i (some v)) (Γ.set i (.f d)) H1 := (n1.go).trans (e.nx n1) Go.setf
  exact k A H0 D _ H1 e1 (fun Γ' σ' H' p e' g' => kn Γ' σ' H' p e' (g1.trans e1 g')) (fun Γ' σ' H' p e' g' => kb Γ' σ' H' p e' (g1.trans e1 g')) (fun Γ' σ' H' p e' g' => kc Γ' σ' H' p e' (g1.trans e1 g')) kr
theorem s_set {i : Nat} (h : E M te Γ d) (k : P.nx (Γ.set i (.f d))) : W M (tAsg te (gName i)) Γ P := fun A H0 D σ H e kn kb kc kr => h A H0 σ H e _ fun v H1 n1 tv => by
  have e1 := (e.nx n1).setf (i := i) tv
  exact kn _ _ _ k e1 ((n1.go).trans (e.nx n1) Go.setf)
end
end Mg.Nw

set_option Elab.async false
set_option linter.all false
set_option maxRecDepth 100000
set_option maxHeartbeats 1000000
namespace Mg.Nw
open PySem PySem.Spec PyProof.Rows L2
section
variable {M : Md} {A : AS} {H0 H H1 H2 H' : Hp} {Γ Δ Γ' Γ1 : List Sl} {σ σ' σ1 : L2.St} {S : AS} {d d1 d2 : Dt} {ds es fs : List Dt} {te ta tb tl : TE} {tas : TA} {t u : TT} {b : Bool} {tu tw tz ts : TS} {P : Po} {g : TG} {D : Ends}
theorem W.go (k : W M tz Γ1 P) (e1 : En M A H0 Γ1 σ1 H1) (g1 : Go A σ Γ H σ1 Γ1 H1)
    (kn : ∀ Γ' σ' H', P.nx Γ' → En M A H0 Γ' σ' H' → Go A σ Γ H σ' Γ' H' → D.nx σ' H') (kb : ∀ Γ' σ' H', P.bk Γ' → En M A H0 Γ' σ' H' → Go A σ Γ H σ' Γ' H' → D.bk σ' H')
    (kc : ∀ Γ' σ' H', P.ct Γ' → En M A H0 Γ' σ' H' → Go A σ Γ H σ' Γ' H' → D.ct σ' H') (kr : ∀ v d H', P.rt d → Nx M A H0 H' → IsD M.K A H' v d → D.rt v H') : tz D σ1 H1 :=
  k A H0 D σ1 H1 e1 (fun Γ' σ' H' p e' g' => kn Γ' σ' H' p e' (g1.trans e1 g')) (fun Γ' σ' H' p e' g' => kb Γ' σ' H' p e' (g1.trans e1 g')) (fun Γ' σ' H' p e' g' => kc Γ' σ' H' p e' (g1.trans e1 g')) kr
theorem w_seq (h : W M ts Γ { P with nx := fun Γ' => W M tz Γ' P }) : W M (tSeq ts tz) Γ P := fun A H0 D σ H e kn kb kc kr =>
  h A H0 { D with nx := tz D } σ H e (fun Γ' σ' H' p e' g' => W.go (D := D) (P := P) p e' g' kn kb kc kr) kb kc kr
theorem w_next (h : P.nx Γ) : W M tNext Γ P := fun A H0 D σ H e kn kb kc kr => kn Γ σ H h e .refl
theorem w_break (h : P.bk Γ) : W M tBreak Γ P := fun A H0 D σ H e kn kb kc kr => kb Γ σ H h e .refl
theorem w_cont (h : P.ct Γ) : W M tCont Γ P := fun A H0 D σ H e kn kb kc kr => kc Γ σ H h e .refl
theorem s_setl {i : Nat} (hi : i < Γ.length) (h : EL M te Γ ds) (k : P.nx (Γ.set i (.o ds))) : W M (tAsg te (gName i)) Γ P := fun A H0 D σ H e kn kb kc kr => h A H0 σ H e _ fun p xs H1 hf n1 hp l G =>
  kn _ _ _ k (e.seto n1 hi hf hp l G) (Go.seto n1 hf)
theorem w_setl {i : Nat} (hi : i < Γ.length) (h : EL M te Γ ds) (k : W M tz (Γ.set i (.o ds)) P) : W M (tSeq (tAsg te (gName i)) tz) Γ P := w_seq (s_setl hi h k)
theorem s_if (h : ET M t Γ b) (h1 : b = true → W M tu Γ P) (h2 : b = false → W M tw Γ P) : W M (tIfS t tu tw) Γ P := fun A H0 D σ H e kn kb kc kr => h A H0 σ H e _ fun H1 n1 => by
  cases b with
  | true => exact iteT ((h1 rfl).go (e.nx n1) n1.go kn kb kc kr)
  | false => exact iteF ((h2 rfl).go (e.nx n1) n1.go kn kb kc kr)
theorem w_if (h : ET M t Γ b) (h1 : b = true → W M tu Γ { P with nx := fun Γ' => W M tz Γ' P }) (h2 : b = false → W M tw Γ { P with nx := fun Γ' => W M tz Γ' P }) : W M (tSeq (tIfS t tu tw) tz) Γ P := w_seq (s_if h h1 h2)
theorem w_when (h : ET M t Γ b) (h1 : b = true → W M tu Γ { P with nx := fun Γ' => W M tz Γ' P }) (h2 : b = false → W M tz Γ P) : W M (tSeq (tIfS t tu tNext) tz) Γ P := w_if h h1 fun z => w_next (h2 z)
theorem En.retA (e : En M A H0 Γ σ H) (n : Nx M (SA A σ Γ) H H1) : Nx M A H0 H1 := ⟨e.fr.trans n.fr, n.al, M.gc (fun a h => .inl (.inl h)) n.inv, e.cA⟩
theorem w_ret (h : E M te Γ d) (k : P.rt d) : W M (tRet te) Γ P := fun A H0 D σ H e kn kb kc kr => h A H0 σ H e _ fun v H1 n1 tv => kr v d H1 k (e.retA n1) (tv.chg fun a h => .inl (.inl h))
theorem w_retN (k : P.rt .non) : W M tRetN Γ P := fun A H0 D σ H e kn kb kc kr => kr .non .non H k (e.retA (.refl e)) .non
theorem w_retO {i : Nat} (h : Γ[i]? = some (.o ds)) (k : P.rt (.lst ds)) : W M (tRet (tVar i)) Γ P := fun A H0 D σ H e kn kb kc kr => by
  obtain ⟨p, xs, h1, h2, h3⟩ := e.at' i _ h
  exact ⟨_, h1, kr _ _ H k (e.retA (.refl e)) (.lst h2 (e.ownA ⟨i, ds, h, h1⟩) (h3.chg fun a h => .inl (.inl h)))⟩
/-- an own list turns -/
theorem En.updo {i : Nat} {p : Addr} {xs : List V} (e : En M A H0 Γ σ H) (h : Γ[i]? = some (.o ds)) (hs : σ[i]? = some (some (.ref p))) (l : IsL M.K (SA A σ Γ) H xs es) : En M A H0 (Γ.set i (.o es)) σ (upd H p (.lst xs)) ∧ Go A σ Γ H σ (Γ.set i (.o es)) (upd H p (.lst xs)) := by
  have hi : i < Γ.length := (List.getElem?_eq_some_iff.mp h).1
  have op : own σ Γ p := ⟨i, ds, h, hs⟩
  obtain ⟨p', ys, h1, hp, _⟩ := e.at' i _ h
  rw [hs] at h1
  cases h1
  have so : ∀ a, own σ (Γ.set i (.o es)) a → own σ Γ a := fun a w => by
    obtain ⟨j, fs, h1, h2⟩ := w
    rcases set_at h1 with ⟨rfl, z⟩ | ⟨n, h⟩
    · exact ⟨j, ds, h, h2⟩
    · exact ⟨j, fs, h, h2⟩
  have ss : ∀ a, SA A σ (Γ.set i (.o es)) a → SA A σ Γ a := fun a h => h.elim .inl fun h => .inr (so a h)
  have fS : Fr (SA A σ Γ) H (upd H p (.lst xs)) := .at (.inr op) hp rfl
  have al : ∀ a, (upd H p (.lst xs)) a = none → H a = none := fun a z => by
    by_cases c : a = p
    · rw [c, upd_same] at z
      cases z
    · rw [upd_ne c] at z
      exact z
  refine ⟨⟨by rw [List.length_set, e.len], fun j x hx => ?_, fun j k es' fs a h1 h2 h3 h4 => ?_, ?_, fun a h => e.new a (so a h), fun a h => e.nA a (so a h), fun a h => ?_, ?_, e.cA⟩, fS, fun a h => .inl (so a h), al⟩
  · rcases set_at hx with ⟨rfl, rfl⟩ | ⟨n, hj⟩
    · exact ⟨p, xs, hs, upd_same, (l.stay fS).chg fun a h => .inl (ss a h)⟩
    · have q := e.at' j x hj
      cases x with
      | any => exact q
      | f d =>
        obtain ⟨v, h3, h4⟩ := q
        exact ⟨v, h3, (h4.stay fS).chg fun a h => .inl (ss a h)⟩
      | o fs =>
        obtain ⟨q, ys, h3, h4, h5⟩ := q
        have ne : q ≠ p := fun z => n (e.inj j i fs ds p hj h (by rw [h3, z]) hs)
        exact ⟨q, ys, h3, by rw [upd_ne ne]; exact h4, (h5.stay fS).chg fun a h => .inl (ss a h)⟩
  · have o1 : ∃ fs, Γ[j]? = some (Sl.o fs) := by
      rcases set_at h1 with ⟨rfl, z⟩ | ⟨n, h⟩
      · exact ⟨_, h⟩
      · exact ⟨_, h⟩
    have o2 : ∃ fs, Γ[k]? = some (Sl.o fs) := by
      rcases set_at h2 with ⟨rfl, z⟩ | ⟨n, h⟩
      · exact ⟨_, h⟩
      · exact ⟨_, h⟩
    obtain ⟨f1, o1⟩ := o1
    obtain ⟨f2, o2⟩ := o2
    exact e.inj j k f1 f2 a o1 o2 h3 h4
  · exact fun b o hb n => by
      rw [upd_ne fun z => by rw [z, e.new p op] at hb; cases hb]
      exact e.fr b o hb n
  · by_cases c : a = p
    · exact ⟨_, by rw [c]; exact upd_same⟩
    · rw [upd_ne c]
      exact e.av a h
  · exact M.gc (fun a h => .inl (ss a h)) (M.gs (.at (S := fun b => SA A σ Γ b ∧ ¬ M.C b) ⟨.inr op, e.ownC op⟩ hp rfl) e.inv)
theorem s_app {i : Nat} (hi : Γ[i]? = some (.o ds)) (h : E M te Γ d) (hz : ds.length < 1000000) (k : P.nx (Γ.set i (.o (ds ++ [d])))) : W M (tDrop (tBM M.K "list" rAppend (tVar i) (tCons te tNil))) Γ P := fun A H0 D σ H e kn kb kc kr => by
  obtain ⟨p, xs, h1, h2, h3⟩ := e.at' i _ hi
  refine ⟨_, h1, .inl ⟨rfl, _, SqL.of h2⟩, h A H0 σ H e _ fun v H1 n1 tv => ?_⟩
  have e1 := e.nx n1
  have hp := n1.own e ⟨i, ds, hi, h1⟩ h2
  obtain ⟨e2, g2⟩ := e1.updo hi h1 ((h3.stay n1.sf).app (.one tv))
  exact ⟨p, xs, v, rfl, rfl, hp, by rw [h3.len]; exact sz6 hz, kn _ _ _ k e2 (n1.go.trans e1 g2)⟩
theorem w_app {i : Nat} (hi : Γ[i]? = some (.o ds)) (h : E M te Γ d) (hz : ds.length < 1000000) (k : W M tz (Γ.set i (.o (ds ++ [d]))) P) : W M (tSeq (tDrop (tBM M.K "list" rAppend (tVar i) (tCons te tNil))) tz) Γ P := w_seq (s_app hi h hz k)
theorem s_ext {i : Nat} (hi : Γ[i]? = some (.o ds)) (h : ER M te Γ es) (hz : ds.length + es.length ≤ 1000000) (k : P.nx (Γ.set i (.o (ds ++ es)))) : W M (tDrop (tBM M.K "list" rExtend (tVar i) (tCons te tNil))) Γ P := fun A H0 D σ H e kn kb kc kr => by
  obtain ⟨p, xs, h1, h2, h3⟩ := e.at' i _ hi
  refine ⟨_, h1, .inl ⟨rfl, _, SqL.of h2⟩, h A H0 σ H e _ fun m ys H1 n1 hm cm tv => ?_⟩
  have e1 := e.nx n1
  have hp := n1.own e ⟨i, ds, hi, h1⟩ h2
  obtain ⟨e2, g2⟩ := e1.updo hi h1 ((h3.stay n1.sf).app tv)
  exact ⟨p, m, xs, ys, rfl, rfl, hp, hm, by rw [h3.len, tv.len]; exact sz5 hz, kn _ _ _ k e2 (n1.go.trans e1 g2)⟩
theorem w_ext {i : Nat} (hi : Γ[i]? = some (.o ds)) (h : ER M te Γ es) (hz : ds.length + es.length ≤ 1000000) (k : W M tz (Γ.set i (.o (ds ++ es))) P) : W M (tSeq (tDrop (tBM M.K "list" rExtend (tVar i) (tCons te tNil))) tz) Γ P := w_seq (s_ext hi h hz k)
theorem s_put {i : Nat} {n : Int} {j : Nat} (hi : Γ[i]? = some (.o ds)) (h : E M te Γ d) (hj : E M ta Γ (.int n)) (hn : ixN ds.length n = some j) (k : P.nx (Γ.set i (.o (ds.set j d)))) : W M (tAsg te (gSub (tVar i) ta rSetL)) Γ P := fun A H0 D σ H e kn kb kc kr => h A H0 σ H e _ fun v H1 n1 tv => by
  obtain ⟨p, xs, h1, h2, h3⟩ := (e.nx n1).at' i _ hi
  refine ⟨_, h1, hj A H0 σ H1 (e.nx n1) _ fun v2 H2 n2 t2 => ?_⟩
  rw [isd_int t2]
  have e2 := (e.nx n1).nx n2
  have hp := n2.own (e.nx n1) ⟨i, ds, hi, h1⟩ h2
  obtain ⟨e3, g3⟩ := e2.updo hi h1 ((h3.stay n2.sf).set j (tv.stay n2.sf))
  exact ⟨p, xs, n, j, rfl, rfl, hp, by rw [h3.len]; exact hn, kn _ _ _ k e3 ((n1.trans n2).go.trans e2 g3)⟩
theorem w_put {i : Nat} {n : Int} {j : Nat} (hi : Γ[i]? = some (.o ds)) (h : E M te Γ d) (hj : E M ta Γ (.int n)) (hn : ixN ds.length n = some j) (k : W M tz (Γ.set i (.o (ds.set j d))) P) : W M (tSeq (tAsg te (gSub (tVar i) ta rSetL)) tz) Γ P := w_seq (s_put hi h hj hn k)
theorem s_drop (h : E M te Γ d) (k : P.nx Γ) : W M (tDrop te) Γ P := fun A H0 D σ H e kn kb kc kr => h A H0 σ H e _ fun v H1 n1 tv => kn _ _ _ k (e.nx n1) n1.go
theorem w_drop (h : E M te Γ d) (k : W M tz Γ P) : W M (tSeq (tDrop te) tz) Γ P := w_seq (s_drop h k)
end
end Mg.Nw

set_option Elab.async false
set_option linter.all false
set_option maxRecDepth 100000
set_option maxHeartbeats 1000000
namespace Mg.Nw
open PySem PySem.Spec PyProof.Rows L2
section
variable {M : Md} {A : AS} {K : PySem.W.Frag} {H0 H H1 H2 H' : Hp} {Γ Δ Γ' Γ1 Γ2 : List Sl} {σ σ' σ1 : L2.St} {S : AS} {d d1 d2 : Dt} {ds es fs : List Dt} {te ta tb tl : TE} {tas : TA} {t u : TT} {b : Bool} {tu tw tz ts : TS} {P : Po} {g : TG} {gs : TGs} {D : Ends} {wi : TI} {js ks vs : List Nat}
/-! targets -/
structure Tg (A : AS) (σ : L2.St) (Γ : List Sl) (H : Hp) (σ' : L2.St) (Γ' : List Sl) (js : List Nat) : Prop where
  go : Go A σ Γ H σ' Γ' H
  wp : ∀ vs : List Nat, (∀ j ∈ js, j ∈ vs) → wipe σ' vs = wipe σ vs
  ow : ∀ (a : Addr) (i : Nat) (ds : List Dt), Γ[i]? = some (Sl.o ds) → σ[i]? = some (some (V.ref a)) → i ∉ js → Γ'[i]? = some (Sl.o ds) ∧ σ'[i]? = some (some (V.ref a))
/-- a value that is d is put into the target: Γ' behind it -/
def GT (K : PySem.W.Frag) (g : TG) (Γ : List Sl) (d : Dt) (Γ' : List Sl) (js : List Nat) : Prop := ∀ (M : Md) A H0 σ H v, M.K = K → En M A H0 Γ σ H → IsD K (SA A σ Γ) H v d → ∀ Q : L2.St → Hp → Prop, (∀ σ', En M A H0 Γ' σ' H → Tg A σ Γ H σ' Γ' js → Q σ' H) → g v σ H Q
def GTs (K : PySem.W.Frag) (g : TGs) (Γ : List Sl) (ds : List Dt) (Γ' : List Sl) (js : List Nat) : Prop := ∀ (M : Md) A H0 σ H vs, M.K = K → En M A H0 Γ σ H → IsL K (SA A σ Γ) H vs ds → ∀ Q : L2.St → Hp → Prop, (∀ σ', En M A H0 Γ' σ' H → Tg A σ Γ H σ' Γ' js → Q σ' H) → g vs σ H Q
theorem wipe_get : ∀ {vs : List Nat} {σ : L2.St} {i : Nat}, (wipe σ vs)[i]? = if i ∈ vs ∧ i < σ.length then some none else σ[i]?
  | [], σ, i => by simp [wipe]
  | v :: vs, σ, i => by
    rw [wipe, List.getElem?_set, wipe_length, wipe_get]
    by_cases c : v = i
    · subst c
      by_cases h : v < σ.length
      · simp [h]
      · simp [h]
    · rw [if_neg c]
      by_cases h : i ∈ vs ∧ i < σ.length
      · rw [if_pos h, if_pos ⟨List.mem_cons_of_mem _ h.1, h.2⟩]
      · rw [if_neg h, if_neg fun z => h ⟨(List.mem_cons.mp z.1).resolve_left fun z => c z.symm, z.2⟩]
theorem wipe_eq {σ σ' : L2.St} {vs : List Nat} (hl : σ'.length = σ.length) (h : ∀ i, i ∉ vs → σ'[i]? = σ[i]?) : wipe σ' vs = wipe σ vs := by
  apply List.ext_getElem?
  intro i
  rw [wipe_get, wipe_get, hl]
  by_cases c : i ∈ vs
  · by_cases l : i < σ.length
    · rw [if_pos ⟨c, l⟩, if_pos ⟨c, l⟩]
    · rw [if_neg fun z => l z.2, if_neg fun z => l z.2, List.getElem?_eq_none (by omega), List.getElem?_eq_none (by omega)]
  · rw [if_neg fun z => c z.1, if_neg fun z => c z.1, h i c]
theorem gt_name {j : Nat} : GT K (gName j) Γ d (Γ.set j (.f d)) [j] := fun M A H0 σ H v hk e hv Q q => by
  subst hk
  refine q _ (e.setf hv) ⟨Go.setf, fun vs hj => ?_, fun a i ds h1 h2 h3 => ?_⟩
  · exact wipe_eq (by rw [List.length_set]) fun i hi => set_ne fun z => hi (by rw [z]; exact hj j (List.mem_singleton.mpr rfl))
  · have n : i ≠ j := fun z => h3 (List.mem_singleton.mpr z)
    rw [set_ne n, set_ne n]
    exact ⟨h1, h2⟩
theorem gt_any {j : Nat} : GT K (gName j) Γ d (Γ.set j .any) [j] := fun M A H0 σ H v hk e hv Q q => by
  refine gt_name M A H0 σ H v hk e hv Q fun σ' e' t => q σ' ?_ ?_
  · refine e'.sub ?_
    have : ∀ (Γ : List Sl) (j : Nat), Sub (Γ.set j (.f d)) (Γ.set j .any) := by
      intro Γ
      induction Γ with
      | nil => intro j; exact .nil
      | cons s Γ ih =>
        intro j
        cases j with
        | zero => exact .cons .any Sub.refl
        | succ j => exact .cons .refl (ih j)
    exact this Γ j
  · refine ⟨t.go.sub ?_, t.wp, fun a i ds h1 h2 h3 => ?_⟩
    · have : ∀ (Γ : List Sl) (j : Nat), Sub (Γ.set j (.f d)) (Γ.set j .any) := by
        intro Γ
        induction Γ with
        | nil => intro j; exact .nil
        | cons s Γ ih =>
          intro j
          cases j with
          | zero => exact .cons .any Sub.refl
          | succ j => exact .cons .refl (ih j)
      exact this Γ j
    · have n : i ≠ j := fun z => h3 (List.mem_singleton.mpr z)
      have := t.ow a i ds h1 h2 h3
      rw [set_ne n] at this ⊢
      exact this
theorem gts_nil : GTs K gNil Γ [] Γ [] := fun M A H0 σ H vs hk e hv Q q => by
  cases hv
  exact ⟨rfl, q _ e ⟨.refl, fun _ _ => rfl, fun a i ds h1 h2 _ => ⟨h1, h2⟩⟩⟩
theorem gts_cons (h : GT K g Γ d Γ1 js) (hs : GTs K gs Γ1 ds Γ' ks) : GTs K (gCons g gs) Γ (d :: ds) Γ' (js ++ ks) := fun M A H0 σ H vs hk e hv Q q => by
  cases hv with
  | cons h1 h2 =>
    refine ⟨_, _, rfl, h M A H0 σ H _ hk e h1 _ fun σ1 e1 t1 => ?_⟩
    have ss : ∀ a, SA A σ1 Γ1 a → SA A σ Γ a ∨ H a = none := fun a h => h.elim (fun h => .inl (.inl h)) fun h => (t1.go.ow a h).elim (fun h => .inl (.inr h)) .inr
    refine hs M A H0 σ1 H _ hk e1 (h2.chg ss) Q fun σ2 e2 t2 => q σ2 e2 ⟨t1.go.trans e1 t2.go, fun vs hj => ?_, fun a i ds g1 g2 g3 => ?_⟩
    · rw [t2.wp vs fun j hh => hj j (List.mem_append_right _ hh), t1.wp vs fun j hh => hj j (List.mem_append_left _ hh)]
    · have q1 := t1.ow a i ds g1 g2 fun z => g3 (List.mem_append_left _ z)
      exact t2.ow a i ds q1.1 q1.2 fun z => g3 (List.mem_append_right _ z)
theorem gt_tup {n : Nat} (h : GTs K gs Γ ds Γ' js) (hn : ds.length = n) : GT K (gTup K n gs) Γ (.tup ds) Γ' js := fun M A H0 σ H v hk e hv Q q => by
  obtain ⟨a, xs, rfl, s, l⟩ := isd_tup hv
  exact ⟨a, xs, rfl, s, by rw [l.len, hn], h M A H0 σ H xs hk e l Q q⟩
theorem s_asg (h : E M te Γ d) (hg : GT M.K g Γ d Γ' js) (k : P.nx Γ') : W M (tAsg te g) Γ P := fun A H0 D σ H e kn kb kc kr => h A H0 σ H e _ fun v H1 n1 tv =>
  hg M A H0 σ H1 v rfl (e.nx n1) tv _ fun σ' e' t => kn _ _ _ k e' (n1.go.trans (e.nx n1) t.go)
theorem w_asg (h : E M te Γ d) (hg : GT M.K g Γ d Γ' js) (k : W M tz Γ' P) : W M (tSeq (tAsg te g) tz) Γ P := w_seq (s_asg h hg k)
/-! what is walked -/
def ItOk (K : PySem.W.Frag) (S : AS) (H1 : Hp) (J : It) (ds : List Dt) : Prop := ∀ H2, Fr S H1 H2 → (∀ a, H2 a = none → H1 a = none) → (∀ i, i < ds.length → J.go i H2) ∧ J.stop ds.length H2 ∧ ∀ i x H3, J.yld i H2 x H3 → Same H2 H3 ∧ (∀ a, H3 a = none → H2 a = none) ∧
  ∀ d, ds[i]? = some d → ∀ S' : AS, (∀ a, S' a → S a ∨ H1 a = none) → (∀ a, S' a → ∃ o, H2 a = some o) → IsD K S' H3 x d
def IT (M : Md) (wi : TI) (Γ : List Sl) (ds : List Dt) : Prop := ∀ A H0 σ H, En M A H0 Γ σ H → ∀ R : It → Hp → Prop, (∀ J H1, Nx M (SA A σ Γ) H H1 → ItOk M.K (SA A σ Γ) H1 J ds → R J H1) → wi σ H R
theorem IT.is (h : IT M wi Γ ds) (e : ds = es) : IT M wi Γ es := e ▸ h
theorem isl_turn {S' : AS} {v : V} (h : IsD K S H1 v d) (f : Fr S H1 H2) (h1 : ∀ a, S' a → S a ∨ H1 a = none) : IsD K S' H2 v d :=
  ((h.chg (S' := fun a => S a ∨ S' a) fun a z => z.elim .inl (h1 a)).stay (f.mono fun a z => .inl z)).chg fun a z => .inl (.inr z)
theorem it_tup (h : E M tl Γ (.tup ds)) : IT M (iTup M.K tl) Γ ds := fun A H0 σ H e R r => h A H0 σ H e _ fun v H1 n1 tv => by
  obtain ⟨a, xs, rfl, s, l⟩ := isd_tup tv
  refine ⟨a, rfl, ⟨xs, s⟩, r _ _ n1 fun H2 f al => ⟨fun i hi => ?_, ⟨xs, f.sqt s, Nat.le_of_eq l.len⟩, fun i x H3 y => ?_⟩⟩
  · exact ⟨xs, xs[i]'(by rw [l.len]; exact hi), f.sqt s, List.getElem?_eq_getElem _⟩
  · obtain ⟨rfl, y⟩ := y
    exact ⟨.refl _, fun _ h => h, fun d hd S' h1 h2 => isl_turn (l.at (y xs (f.sqt s)) hd) f h1⟩
theorem it_lst (h : E M tl Γ (.lst ds)) : IT M (iList M.K tl) Γ ds := fun A H0 σ H e R r => h A H0 σ H e _ fun v H1 n1 tv => by
  obtain ⟨a, xs, rfl, s, na, l⟩ := isd_lst tv
  refine ⟨a, rfl, ⟨xs, SqL.of s⟩, r _ _ n1 fun H2 f al => ?_⟩
  have s2 : SqL M.K H2 a xs := SqL.of (f.no s na)
  refine ⟨fun i hi => ?_, ⟨xs, s2, Nat.le_of_eq l.len⟩, fun i x H3 y => ?_⟩
  · exact ⟨xs, xs[i]'(by rw [l.len]; exact hi), s2, List.getElem?_eq_getElem _⟩
  · obtain ⟨rfl, y⟩ := y
    exact ⟨.refl _, fun _ h => h, fun d hd S' h1 h2 => isl_turn (l.at (y xs s2) hd) f h1⟩
theorem it_rng1 {n : Nat} (h : E M te Γ (.int (n : Int))) (hn : n ≤ 1000000) : IT M (iRng1 (tCons te tNil)) Γ ((List.range n).map fun i : Nat => Dt.int (i : Int)) := fun A H0 σ H e R r => h A H0 σ H e _ fun v H1 n1 tv => by
  rw [isd_int tv]
  refine ⟨_, rfl, by omega, by omega, r _ _ n1 fun H2 f al => ⟨fun i hi => ?_, ?_, fun i x H3 y => ?_⟩⟩
  · rw [List.length_map, List.length_range] at hi
    show i < (n : Int).toNat
    omega
  · rw [List.length_map, List.length_range]
    show (n : Int).toNat ≤ n
    omega
  · obtain ⟨rfl, rfl⟩ := y
    refine ⟨.refl _, fun _ h => h, fun d hd S' h1 h2 => ?_⟩
    rw [List.getElem?_map] at hd
    by_cases c : i < n
    · rw [List.getElem?_range c] at hd
      cases hd
      rw [Int.zero_add]
      exact .int _
    · rw [List.getElem?_eq_none (by rw [List.length_range]; omega)] at hd
      cases hd
theorem it_rng2 {a c : Int} (h : E M te Γ (.int a)) (h2 : E M ta Γ (.int c)) (h3 : -1000000 ≤ a ∧ a ≤ 1000000 ∧ -1000000 ≤ c ∧ c ≤ 1000000) : IT M (iRng2 (tCons te (tCons ta tNil))) Γ ((List.range (c - a).toNat).map fun i : Nat => Dt.int (a + (i : Int))) := fun A H0 σ H e R r => h A H0 σ H e _ fun v H1 n1 tv => h2 A H0 σ H1 (e.nx n1) _ fun v2 H2 n2 t2 => by
  rw [isd_int tv, isd_int t2]
  refine ⟨_, _, rfl, by omega, r _ _ (n1.trans n2) fun H2 f al => ⟨fun i hi => ?_, ?_, fun i x H3 y => ?_⟩⟩
  · rw [List.length_map, List.length_range] at hi
    exact hi
  · rw [List.length_map, List.length_range]
    exact Nat.le_refl _
  · obtain ⟨rfl, rfl⟩ := y
    refine ⟨.refl _, fun _ h => h, fun d hd S' h1 h2 => ?_⟩
    rw [List.getElem?_map] at hd
    by_cases c : i < (c - a).toNat
    · rw [List.getElem?_range c] at hd
      cases hd
      exact .int _
    · rw [List.getElem?_eq_none (by rw [List.length_range]; omega)] at hd
      cases hd
theorem new_tup {T : Addr} {xs : List V} (hT : H T = none) (l : IsL K S H xs ds) : IsD K S (upd H T (.tup xs)) (.ref T) (.tup ds) := .tup (SqT.of upd_same) (l.stay (.new hT))
theorem upd_al {T : Addr} {o : HO} : ∀ a, (upd H T o) a = none → H a = none := fun a h => by
  by_cases c : a = T
  · rw [c, upd_same] at h
    cases h
  · rw [upd_ne c] at h
    exact h
def enumD (ds : List Dt) : List Dt := ds.mapIdx fun i d => .tup [.int (i : Nat), d]
theorem it_enum (h : E M te Γ (.lst ds)) : IT M (iEnum M.K (tCons te tNil)) Γ (enumD ds) := fun A H0 σ H e R r => h A H0 σ H e _ fun v H1 n1 tv => by
  obtain ⟨a, xs, rfl, s, na, l⟩ := isd_lst tv
  refine ⟨a, xs, rfl, SqL.of s, r _ _ n1 fun H2 f al => ?_⟩
  have s2 : SqL M.K H2 a xs := SqL.of (f.no s na)
  have el : (enumD ds).length = ds.length := by unfold enumD; rw [List.length_mapIdx]
  refine ⟨fun i hi => ?_, ⟨xs, s2, by rw [el]; exact Nat.le_of_eq l.len⟩, fun i x H3 y => ?_⟩
  · exact ⟨xs, xs[i]'(by rw [l.len, ← el]; exact hi), s2, List.getElem?_eq_getElem _⟩
  · obtain ⟨T, z, rfl, hT, rfl, y⟩ := y
    refine ⟨same_new hT, upd_al, fun d hd S' h1 h2 => ?_⟩
    unfold enumD at hd
    rw [List.getElem?_mapIdx] at hd
    cases e : ds[i]? with
    | none => rw [e] at hd; cases hd
    | some d0 =>
      rw [e] at hd
      cases hd
      exact new_tup hT (.cons (.int _) (.one (isl_turn (l.at (y xs s2) e) f h1)))
def zipD (ds es : List Dt) : List Dt := List.zipWith (fun d e => Dt.tup [d, e]) ds es
theorem zipD_at {i : Nat} (h : (zipD ds es)[i]? = some d) : ∃ a b, ds[i]? = some a ∧ es[i]? = some b ∧ d = .tup [a, b] := by
  unfold zipD at h
  rw [List.getElem?_zipWith] at h
  cases e1 : ds[i]? with
  | none => rw [e1] at h; cases h
  | some a => cases e2 : es[i]? with
    | none => rw [e1, e2] at h; cases h
    | some b =>
      rw [e1, e2] at h
      cases h
      exact ⟨a, b, rfl, rfl, rfl⟩
theorem it_zip (h : E M te Γ (.lst ds)) (h2 : E M ta Γ (.lst es)) : IT M (RZ.iZipA M.K (tCons te (tCons ta tNil))) Γ (zipD ds es) := fun A H0 σ H e R r => h A H0 σ H e _ fun v H1 n1 tv => h2 A H0 σ H1 (e.nx n1) _ fun v2 H2 n2 t2 => by
  obtain ⟨a, xs, rfl, s, na, l⟩ := isd_lst (tv.stay n2.sf)
  obtain ⟨c, ys, rfl, s', nc, l'⟩ := isd_lst t2
  refine ⟨a, c, xs, ys, rfl, .inl ⟨SqL.of s, SqL.of s', r _ _ (n1.trans n2) fun H2 f al => ?_⟩⟩
  have s2 : SqL M.K H2 a xs := SqL.of (f.no s na)
  have s3 : SqL M.K H2 c ys := SqL.of (f.no s' nc)
  have el : (zipD ds es).length = min xs.length ys.length := by unfold zipD; rw [List.length_zipWith, l.len, l'.len]
  refine ⟨fun i hi => ?_, ⟨xs, ys, s2, s3, by omega⟩, fun i x H3 y => ?_⟩
  · exact ⟨xs, ys, xs[i]'(by omega), ys[i]'(by omega), s2, s3, List.getElem?_eq_getElem _, List.getElem?_eq_getElem _⟩
  · obtain ⟨T, x1, y1, rfl, hT, rfl, g1, g2⟩ := y
    refine ⟨same_new hT, upd_al, fun d hd S' h1 h2 => ?_⟩
    obtain ⟨a1, b1, z1, z2, rfl⟩ := zipD_at hd
    exact new_tup hT (.cons (isl_turn (l.at (g1 xs s2) z1) f h1) (.one (isl_turn (l'.at (g2 ys s3) z2) f h1)))
theorem it_zipT (h : E M te Γ (.tup ds)) (h2 : E M ta Γ (.tup es)) : IT M (RZ.iZipA M.K (tCons te (tCons ta tNil))) Γ (zipD ds es) := fun A H0 σ H e R r => h A H0 σ H e _ fun v H1 n1 tv => h2 A H0 σ H1 (e.nx n1) _ fun v2 H2 n2 t2 => by
  obtain ⟨a, xs, rfl, s, l⟩ := isd_tup (tv.stay n2.sf)
  obtain ⟨c, ys, rfl, s', l'⟩ := isd_tup t2
  refine ⟨a, c, xs, ys, rfl, .inr ⟨s, s', r _ _ (n1.trans n2) fun H2 f al => ?_⟩⟩
  have s2 : SqT M.K H2 a xs := f.sqt s
  have s3 : SqT M.K H2 c ys := f.sqt s'
  have el : (zipD ds es).length = min xs.length ys.length := by unfold zipD; rw [List.length_zipWith, l.len, l'.len]
  refine ⟨fun i hi => ?_, ⟨xs, ys, s2, s3, by omega⟩, fun i x H3 y => ?_⟩
  · exact ⟨xs, ys, xs[i]'(by omega), ys[i]'(by omega), s2, s3, List.getElem?_eq_getElem _, List.getElem?_eq_getElem _⟩
  · obtain ⟨T, x1, y1, rfl, hT, rfl, g1, g2⟩ := y
    refine ⟨same_new hT, upd_al, fun d hd S' h1 h2 => ?_⟩
    obtain ⟨a1, b1, z1, z2, rfl⟩ := zipD_at hd
    exact new_tup hT (.cons (isl_turn (l.at (g1 xs s2) z1) f h1) (.one (isl_turn (l'.at (g2 ys s3) z2) f h1)))
theorem rev_at {α : Type} {l : List α} {i : Nat} {x : α} (h : l.reverse[i]? = some x) : l[l.length - 1 - i]? = some x := by
  have hi : i < l.length := by
    have := (List.getElem?_eq_some_iff.mp h).1
    rw [List.length_reverse] at this
    exact this
  rw [List.getElem?_reverse hi] at h
  exact h
theorem it_rev (h : E M te Γ (.lst ds)) : IT M (RT.iRevA M.K te) Γ ds.reverse := fun A H0 σ H e R r => h A H0 σ H e _ fun v H1 n1 tv => by
  obtain ⟨a, xs, rfl, s, na, l⟩ := isd_lst tv
  refine ⟨a, xs, rfl, .inl ⟨SqL.of s, r _ _ n1 fun H2 f al => ?_⟩⟩
  have s2 : SqL M.K H2 a xs := SqL.of (f.no s na)
  refine ⟨fun i hi => ⟨by rw [List.length_reverse] at hi; rw [l.len]; exact hi, xs, xs[xs.length - 1 - i]'(by rw [List.length_reverse] at hi; rw [l.len]; omega), s2, List.getElem?_eq_getElem _⟩, by rw [List.length_reverse]; exact Nat.le_of_eq l.len, fun i x H3 y => ?_⟩
  obtain ⟨rfl, y⟩ := y
  refine ⟨.refl _, fun _ h => h, fun d hd S' h1 h2 => ?_⟩
  have q := y xs s2
  rw [l.len] at q
  exact isl_turn (l.at q (rev_at hd)) f h1
/-! for -/
theorem En.same (e : En M A H0 Γ σ H) (s : Same H H1) (al : ∀ a, H1 a = none → H a = none) : Nx M (SA A σ Γ) H H1 where
  fr := .of s
  al := fun a ha => by
    obtain ⟨o, ho⟩ := e.av a (e.cA a ha)
    exact ⟨o, s _ _ ho⟩
  inv := M.gs (.of s) e.inv
  cS := fun a h => .inl (e.cA a h)
theorem s_forI (h : IT M wi Γ ds) (I : Nat → List Sl → Prop) (h0 : I 0 Γ) (hs : ∀ i Γi d, I i Γi → ds[i]? = some d → ∃ Δ Γ1 js, Sub Γi Δ ∧ GT M.K g Δ d Γ1 js ∧ W M tu Γ1 { nx := I (i + 1), ct := I (i + 1), bk := P.nx, rt := P.rt }) (hd : ∀ Γn, I ds.length Γn → P.nx Γn) : W M (tFor wi g tu) Γ P := fun A H0 D σ H e kn kb kc kr =>
  h A H0 σ H e _ fun J H1 n1 ok => by
    have e1 := e.nx n1
    refine Mg.for_word (n := ds.length) (fun i σ' H' => ∃ Γi, I i Γi ∧ En M A H0 Γi σ' H' ∧ Go A σ Γ H1 σ' Γi H') ⟨Γ, h0, e1, .refl⟩ (fun i σ' H' hi ⟨Γi, _, q⟩ => (ok H' q.2.fr q.2.al).1 i hi) (fun σ' H' ⟨Γi, _, q⟩ => (ok H' q.2.fr q.2.al).2.1) (fun i x σ' H' H'' hi q y => ?_) (fun σ' H' ⟨Γi, p, q⟩ => kn _ _ _ (hd _ p) q.1 (n1.go.trans e1 q.2))
    obtain ⟨Γi, pi, e2, g2⟩ := q
    obtain ⟨sm, al, dat⟩ := (ok H' g2.fr g2.al).2.2 i x H'' y
    obtain ⟨Δ, Γ1, js, sb, tg, body⟩ := hs i Γi _ pi (List.getElem?_eq_getElem hi)
    have g2 := g2.sub sb
    have e2 := e2.sub sb
    have n3 := e2.same sm al
    have dx := dat _ (List.getElem?_eq_getElem hi) (SA A σ' Δ) (fun a z => z.elim (fun z => .inl (.inl z)) fun z => (g2.ow a z).elim (fun z => .inl (.inr z)) .inr) e2.sv
    refine tg M A H0 σ' H'' x rfl (e2.nx n3) dx _ fun σ3 e3 t3 => ?_
    have g3 : Go A σ Γ H1 σ3 Γ1 H'' := (g2.trans e2 n3.go).trans (e2.nx n3) t3.go
    refine body A H0 _ σ3 H'' e3 (fun Γ' σ4 H4 p e4 g4 => ⟨Γ', p, e4, g3.trans e3 g4⟩) (fun Γ' σ4 H4 p e4 g4 => kn _ _ _ p e4 (n1.go.trans e1 (g3.trans e3 g4))) (fun Γ' σ4 H4 p e4 g4 => ⟨Γ', p, e4, g3.trans e3 g4⟩) kr
theorem W.post {Q : Po} (h : W M ts Γ Q) (hn : ∀ Γ, Q.nx Γ → P.nx Γ) (hr : ∀ d, Q.rt d → P.rt d) (hb : ∀ Γ, Q.bk Γ → P.bk Γ) (hc : ∀ Γ, Q.ct Γ → P.ct Γ) : W M ts Γ P := fun A H0 D σ H e kn kb kc kr =>
  h A H0 D σ H e (fun Γ' σ' H' p => kn Γ' σ' H' (hn _ p)) (fun Γ' σ' H' p => kb Γ' σ' H' (hb _ p)) (fun Γ' σ' H' p => kc Γ' σ' H' (hc _ p)) (fun v d H' p => kr v d H' (hr _ p))
theorem w_forI (h : IT M wi Γ ds) (I : Nat → List Sl → Prop) (h0 : I 0 Γ) (hs : ∀ i Γi d, I i Γi → ds[i]? = some d → ∃ Δ Γ1 js, Sub Γi Δ ∧ GT M.K g Δ d Γ1 js ∧ W M tu Γ1 { nx := I (i + 1), ct := I (i + 1), bk := fun Γ' => W M tz Γ' P, rt := P.rt }) (hd : ∀ Γn, I ds.length Γn → W M tz Γn P) : W M (tSeq (tFor wi g tu) tz) Γ P :=
  w_seq (s_forI h I h0 hs hd)
theorem s_for (h : IT M wi Γ ds) (I : Nat → List Sl) (h0 : Sub Γ (I 0)) (hs : ∀ i d, ds[i]? = some d → ∃ Γ1 js, GT M.K g (I i) d Γ1 js ∧ W M tu Γ1 { nx := fun Γ' => Sub Γ' (I (i + 1)), ct := fun Γ' => Sub Γ' (I (i + 1)), bk := P.nx, rt := P.rt }) (hd : P.nx (I ds.length)) : W M (tFor wi g tu) Γ P := fun A H0 D σ H e kn kb kc kr =>
  h A H0 σ H e _ fun J H1 n1 ok => by
    have e1 := e.nx n1
    refine Mg.for_word (n := ds.length) (fun i σ' H' => En M A H0 (I i) σ' H' ∧ Go A σ Γ H1 σ' (I i) H') ⟨e1.sub h0, Go.refl.sub h0⟩ (fun i σ' H' hi q => (ok H' q.2.fr q.2.al).1 i hi) (fun σ' H' q => (ok H' q.2.fr q.2.al).2.1) (fun i x σ' H' H'' hi q y => ?_) (fun σ' H' q => kn _ _ _ hd q.1 (n1.go.trans e1 q.2))
    obtain ⟨e2, g2⟩ := q
    obtain ⟨sm, al, dat⟩ := (ok H' g2.fr g2.al).2.2 i x H'' y
    obtain ⟨Γ1, js, tg, body⟩ := hs i _ (List.getElem?_eq_getElem hi)
    have n3 := e2.same sm al
    have dx := dat _ (List.getElem?_eq_getElem hi) (SA A σ' (I i)) (fun a z => z.elim (fun z => .inl (.inl z)) fun z => (g2.ow a z).elim (fun z => .inl (.inr z)) .inr) e2.sv
    refine tg M A H0 σ' H'' x rfl (e2.nx n3) dx _ fun σ3 e3 t3 => ?_
    have g3 : Go A σ Γ H1 σ3 Γ1 H'' := (g2.trans e2 n3.go).trans (e2.nx n3) t3.go
    refine body A H0 _ σ3 H'' e3 (fun Γ' σ4 H4 p e4 g4 => ⟨e4.sub p, (g3.trans e3 g4).sub p⟩) (fun Γ' σ4 H4 p e4 g4 => kn _ _ _ p e4 (n1.go.trans e1 (g3.trans e3 g4))) (fun Γ' σ4 H4 p e4 g4 => ⟨e4.sub p, (g3.trans e3 g4).sub p⟩) kr
theorem w_for (h : IT M wi Γ ds) (I : Nat → List Sl) (h0 : Sub Γ (I 0)) (hs : ∀ i d, ds[i]? = some d → ∃ Γ1 js, GT M.K g (I i) d Γ1 js ∧ W M tu Γ1 { nx := fun Γ' => Sub Γ' (I (i + 1)), ct := fun Γ' => Sub Γ' (I (i + 1)), bk := fun Γ' => W M tz Γ' P, rt := P.rt }) (hd : W M tz (I ds.length) P) : W M (tSeq (tFor wi g tu) tz) Γ P :=
  w_seq (s_for h I h0 hs hd)
theorem s_while {c : TT} (I : Nat → List Sl → Prop) (h0 : ∃ m, I m Γ) (hs : ∀ m Γi, I m Γi → ∃ Δ b, Sub Γi Δ ∧ ET M c Δ b ∧ (b = true → W M tu Δ { nx := fun Γ' => ∃ m', m' < m ∧ I m' Γ', ct := fun Γ' => ∃ m', m' < m ∧ I m' Γ', bk := P.nx, rt := P.rt }) ∧ (b = false → P.nx Δ)) : W M (tWhile c tu) Γ P := fun A H0 D σ H e kn kb kc kr => by
  refine ⟨fun m σ' H' => ∃ Γi, I m Γi ∧ En M A H0 Γi σ' H' ∧ Go A σ Γ H σ' Γi H', ?_, ?_⟩
  · obtain ⟨m, h0⟩ := h0
    exact ⟨m, Γ, h0, e, .refl⟩
  · rintro m σ' H' ⟨Γi, pi, e1, g1⟩
    obtain ⟨Δ, b, sb, tc, h1, h2⟩ := hs m Γi pi
    have g1 := g1.sub sb
    have e1 := e1.sub sb
    refine tc A H0 σ' H' e1 _ fun H1 n1 => ?_
    cases b with
    | true =>
      refine iteT ⟨fun σ4 H4 => ∃ m', m' < m ∧ ∃ Γi, I m' Γi ∧ En M A H0 Γi σ4 H4 ∧ Go A σ Γ H σ4 Γi H4, fun σ4 H4 q => q, ?_⟩
      have g2 := (g1.trans e1 n1.go)
      exact h1 rfl A H0 _ σ' H1 (e1.nx n1) (fun Γ' σ4 H4 ⟨m', lt, p⟩ e4 g4 => ⟨m', lt, Γ', p, e4, g2.trans (e1.nx n1) g4⟩) (fun Γ' σ4 H4 p e4 g4 => kn _ _ _ p e4 (g2.trans (e1.nx n1) g4)) (fun Γ' σ4 H4 ⟨m', lt, p⟩ e4 g4 => ⟨m', lt, Γ', p, e4, g2.trans (e1.nx n1) g4⟩) kr
    | false => exact iteF (kn _ _ _ (h2 rfl) (e1.nx n1) (g1.trans e1 n1.go))
theorem w_while {c : TT} (I : Nat → List Sl → Prop) (h0 : ∃ m, I m Γ) (hs : ∀ m Γi, I m Γi → ∃ Δ b, Sub Γi Δ ∧ ET M c Δ b ∧ (b = true → W M tu Δ { nx := fun Γ' => ∃ m', m' < m ∧ I m' Γ', ct := fun Γ' => ∃ m', m' < m ∧ I m' Γ', bk := fun Γ' => W M tz Γ' P, rt := P.rt }) ∧ (b = false → W M tz Δ P)) : W M (tSeq (tWhile c tu) tz) Γ P := w_seq (s_while I h0 hs)
theorem w_seqE (Δ : List Sl) (h : W M ts Γ { P with nx := fun Γ' => Γ' = Δ }) (k : W M tz Δ P) : W M (tSeq ts tz) Γ P := w_seq (h.post (fun Γ' e => by
  show W M tz Γ' P
  rw [e]
  exact k) (fun _ z => z) (fun _ z => z) (fun _ z => z))
end
end Mg.Nw

set_option Elab.async false
set_option linter.all false
set_option maxRecDepth 100000
set_option maxHeartbeats 1000000
namespace Mg.Nw
open PySem PySem.Spec PyProof.Rows L2
section
variable {M : Md} {A : AS} {K : PySem.W.Frag} {H0 H H1 H2 H' : Hp} {Γ Δ Γ' Γ1 Γ2 : List Sl} {σ σ' σ1 : L2.St} {S : AS} {d d1 d2 : Dt} {ds es fs : List Dt} {te ta tb tl : TE} {tas : TA} {t u tt : TT} {b : Bool} {tu tw tz ts : TS} {P : Po} {g : TG} {gs : TGs} {D : Ends} {wi : TI} {js ks vs : List Nat}
/-! comprehensions -/
def wipeS (Γ : List Sl) : List Nat → List Sl
  | [] => Γ
  | v :: vs => (wipeS Γ vs).set v .any
def noOwn (Γ : List Sl) (vs : List Nat) : Bool := vs.all fun j => match Γ[j]? with
  | some (.o _) => false
  | _ => true
theorem wipeS_len : ∀ {vs : List Nat}, (wipeS Γ vs).length = Γ.length
  | [] => rfl
  | v :: vs => by rw [wipeS, List.length_set, wipeS_len]
theorem wipeS_at : ∀ {vs : List Nat} {i : Nat} {s : Sl}, (wipeS Γ vs)[i]? = some s → (i ∈ vs ∧ s = .any) ∨ (i ∉ vs ∧ Γ[i]? = some s)
  | [], i, s, h => .inr ⟨by simp, h⟩
  | v :: vs, i, s, h => by
    rcases set_at h with ⟨rfl, rfl⟩ | ⟨n, h⟩
    · exact .inl ⟨List.mem_cons_self, rfl⟩
    · rcases wipeS_at h with ⟨h1, h2⟩ | ⟨h1, h2⟩
      · exact .inl ⟨List.mem_cons_of_mem _ h1, h2⟩
      · exact .inr ⟨fun z => (List.mem_cons.mp z).elim n h1, h2⟩
theorem wipeS_out : ∀ {vs : List Nat} {i : Nat}, i ∉ vs → (wipeS Γ vs)[i]? = Γ[i]?
  | [], i, h => rfl
  | v :: vs, i, h => by
    rw [wipeS, set_ne fun z => h (by rw [z]; exact List.mem_cons_self)]
    exact wipeS_out fun z => h (List.mem_cons_of_mem _ z)
theorem En.wipe (e : En M A H0 Γ σ H) (no : noOwn Γ vs = true) : En M A H0 (wipeS Γ vs) (wipe σ vs) H ∧ (∀ a, own σ Γ a → ∃ i ds, i ∉ vs ∧ (wipeS Γ vs)[i]? = some (Sl.o ds) ∧ (wipe σ vs)[i]? = some (some (V.ref a))) := by
  have out : ∀ {i : Nat}, i ∉ vs → (L2.wipe σ vs)[i]? = σ[i]? := fun h => by rw [wipe_get, if_neg fun z => h z.1]
  have back : ∀ {i : Nat} {ds : List Dt}, (wipeS Γ vs)[i]? = some (Sl.o ds) → i ∉ vs ∧ Γ[i]? = some (Sl.o ds) := fun h => by
    rcases wipeS_at h with ⟨_, h⟩ | h
    · cases h
    · exact h
  have so : ∀ a, own (L2.wipe σ vs) (wipeS Γ vs) a → own σ Γ a := fun a ⟨i, ds, h1, h2⟩ => by
    obtain ⟨n, h⟩ := back h1
    rw [out n] at h2
    exact ⟨i, ds, h, h2⟩
  have ss : ∀ a, SA A (L2.wipe σ vs) (wipeS Γ vs) a → SA A σ Γ a := fun a h => h.elim .inl fun h => .inr (so a h)
  refine ⟨⟨by rw [wipe_length, wipeS_len, e.len], fun i x h => ?_, fun i j ds es a h1 h2 h3 h4 => ?_, e.fr, fun a h => e.new a (so a h), fun a h => e.nA a (so a h), e.av, M.gc (fun a h => .inl (ss a h)) e.inv, e.cA⟩, fun a ⟨i, ds, h1, h2⟩ => ?_⟩
  · rcases wipeS_at h with ⟨h1, rfl⟩ | ⟨h1, h2⟩
    · exact True.intro
    · rw [out h1]
      have q := e.at' i x h2
      cases x with
      | any => exact q
      | f d =>
        obtain ⟨v, h3, h4⟩ := q
        exact ⟨v, h3, h4.chg fun a h => .inl (ss a h)⟩
      | o ds =>
        obtain ⟨p, xs, h3, h4, h5⟩ := q
        exact ⟨p, xs, h3, h4, h5.chg fun a h => .inl (ss a h)⟩
  · obtain ⟨n1, h1⟩ := back h1
    obtain ⟨n2, h2⟩ := back h2
    rw [out n1] at h3
    rw [out n2] at h4
    exact e.inj i j ds es a h1 h2 h3 h4
  · have n : i ∉ vs := fun z => by
      have q := List.all_eq_true.mp no i z
      rw [h1] at q
      cases q
    exact ⟨i, ds, n, by rw [wipeS_out n]; exact h1, by rw [out n]; exact h2⟩
theorem wipe_wipe : L2.wipe (L2.wipe σ vs) vs = L2.wipe σ vs := wipe_eq (wipe_length ..) fun i h => by rw [wipe_get, if_neg fun z => h z.1]
/-- a new object to be kept away from -/
theorem En.avoid {D : Addr} {o : HO} (e : En M A H0 Γ σ H) (hD : H D = none) (n : Nx M (SA A σ Γ) H H1) (h1 : H1 D = some o) (G : M.G (fun a => SA A σ Γ a ∨ a = D) H1) : En M (fun a => A a ∨ a = D) H0 Γ σ H1 := by
  have sf : ∀ a, SA (fun a => A a ∨ a = D) σ Γ a → SA A σ Γ a ∨ H a = none := fun a h => h.elim (fun h => h.elim (fun h => .inl (.inl h)) fun z => .inr (by rw [z]; exact hD)) fun h => .inl (.inr h)
  have f : Fr (SA (fun a => A a ∨ a = D) σ Γ) H H1 := n.fr.mono fun a h => .inl (.inl (e.cA a h))
  have e1 := e.nx n
  refine ⟨e.len, fun i x h => ?_, e.inj, e1.fr, e.new, fun a h z => ?_, fun a h => h.elim (e1.av a) fun z => by rw [z]; exact ⟨o, h1⟩, M.gc (fun a h => .inl ?_) G, fun a h => .inl (e.cA a h)⟩
  · have q := e.at' i x h
    cases x with
    | any => exact q
    | f d =>
      obtain ⟨v, h3, h4⟩ := q
      exact ⟨v, h3, (h4.chg sf).stay f⟩
    | o ds =>
      obtain ⟨p, xs, h3, h4, h5⟩ := q
      exact ⟨p, xs, h3, n.own e ⟨i, ds, h, h3⟩ h4, (h5.chg sf).stay f⟩
  · rcases z with z | z
    · exact e.nA a h z
    · obtain ⟨o, ho⟩ := e.sv a (.inr h)
      rw [z, hD] at ho
      cases ho
  · rcases h with (h | h) | h
    · exact .inl (.inl h)
    · exact .inr h
    · exact .inl (.inr h)
/-- [e for .. in wi if ..] over things a of L -/
theorem xl_lcG {α : Type} (L : List α) (f : α → Dt) (p : α → Bool) (q : α → Dt) (h : IT M wi Γ (L.map f)) (hz : L.length ≤ 1000000) (no : noOwn Γ vs = true)
    (hb : ∀ a ∈ L, ∃ Γ1 js, GT M.K g (wipeS Γ vs) (f a) Γ1 js ∧ (js.all fun j => vs.contains j) = true ∧ ET M tt Γ1 (p a) ∧ (p a = true → E M te Γ1 (q a))) : EL M (tLc wi g tt te vs) Γ ((L.filter p).map q) := fun A H0 σ H e Q k => h A H0 σ H e _ fun J H1 n1 ok Dl hD => by
  have e1 := e.nx n1
  have cD : ∀ a, (SA A σ Γ a ∨ a = Dl) → SA A σ Γ a ∨ H1 a = none := fun a h => h.elim .inl fun z => .inr (by rw [z]; exact hD)
  have nC : ¬ M.C Dl := fun z => by
    obtain ⟨o, ho⟩ := e1.av _ (e.cA _ z)
    rw [hD] at ho
    cases ho
  refine ⟨fun i m H' => m = L.length - i ∧ i ≤ L.length ∧ Nx M (SA A σ Γ) H1 H' ∧ M.G (fun a => SA A σ Γ a ∨ a = Dl) H' ∧ ∃ acc, H' Dl = some (.lst acc) ∧ IsL M.K (fun a => SA A σ Γ a ∨ a = Dl) H' acc (((L.take i).filter p).map q), ⟨L.length, by simp, Nat.zero_le _, .new e1 hD, M.gs (.new hD) (M.gc cD n1.inv), [], upd_same, by simp; exact .nil⟩, ?_⟩
  rintro i m H' ⟨rfl, hi, n2, G2, acc, ea, la⟩
  obtain ⟨go, stop, yld⟩ := ok H' n2.sf fun a z => n2.free z
  rw [List.length_map] at go stop
  by_cases hlt : i < L.length
  · refine .inr ⟨go i hlt, fun H3 => i + 1 ≤ L.length ∧ Nx M (SA A σ Γ) H1 H3 ∧ M.G (fun a => SA A σ Γ a ∨ a = Dl) H3 ∧ ∃ acc, H3 Dl = some (.lst acc) ∧ IsL M.K (fun a => SA A σ Γ a ∨ a = Dl) H3 acc (((L.take (i + 1)).filter p).map q), fun H3 h3 => ⟨L.length - (i + 1), by omega, rfl, h3⟩, fun x H'' y => ?_⟩
    obtain ⟨sm, al, dat⟩ := yld i x H'' y
    have n3 := n2.trans ((e1.nx n2).same sm al)
    have ea3 := sm _ _ ea
    obtain ⟨a, ha⟩ : ∃ a, L[i]? = some a := ⟨_, List.getElem?_eq_getElem hlt⟩
    obtain ⟨Γ1, js, tg, jv, tp, bd⟩ := hb a (List.mem_of_getElem? ha)
    have eD : En M (fun a => A a ∨ a = Dl) H0 Γ σ H'' := e1.avoid hD n3 ea3 (M.gs (.of sm) G2)
    obtain ⟨eW, oW⟩ := eD.wipe no
    have sW : ∀ a, SA (fun a => A a ∨ a = Dl) (L2.wipe σ vs) (wipeS Γ vs) a → SA A σ Γ a ∨ a = Dl := fun a z => by
      rcases z with (z | z) | ⟨i, ds, z1, z2⟩
      · exact .inl (.inl z)
      · exact .inr z
      · rcases wipeS_at z1 with ⟨_, z⟩ | ⟨z3, z4⟩
        · cases z
        · rw [wipe_get, if_neg fun z => z3 z.1] at z2
          exact .inl (.inr ⟨i, ds, z4, z2⟩)
    have dx := dat _ (by rw [List.getElem?_map, ha]; rfl) (SA (fun a => A a ∨ a = Dl) (L2.wipe σ vs) (wipeS Γ vs)) (fun a z => cD a (sW a z)) (fun a z => (sW a z).elim ((e1.nx n2).sv a) fun y => by rw [y]; exact ⟨_, ea⟩)
    refine tg M _ H0 _ H'' x rfl eW dx _ fun σ3 e3 t3 => ?_
    have jin : ∀ j ∈ js, j ∈ vs := fun j hj => by
      have := List.all_eq_true.mp jv j hj
      exact List.contains_iff_mem.mp this
    have s3 : ∀ a, (SA A σ Γ a ∨ a = Dl) → SA (fun a => A a ∨ a = Dl) σ3 Γ1 a := fun a z => by
      rcases z with (z | z) | z
      · exact .inl (.inl z)
      · obtain ⟨i, ds, z1, z2, z3⟩ := oW a z
        have := t3.ow a i ds z2 z3 fun y => z1 (jin i y)
        exact .inr ⟨i, ds, this⟩
      · exact .inl (.inr z)
    refine ⟨by rw [t3.wp vs jin]; exact wipe_wipe, tp _ H0 σ3 H'' e3 _ fun H4 n4 => ?_⟩
    have e4 := e3.nx n4
    have n34 : Nx M (SA A σ Γ) H1 H4 := ⟨n3.fr.trans n4.fr, n4.al, M.gc (fun a z => .inl (s3 a (.inl z))) n4.inv, n3.cS⟩
    have tk : L.take (i + 1) = L.take i ++ [a] := by
      rw [List.take_add_one, ha]
      rfl
    have fD : ∀ {H5 H6 : Hp}, Fr M.C H5 H6 → Fr (fun a => SA A σ Γ a ∨ a = Dl) H5 H6 := fun f => f.mono fun a z => .inl (n3.cS a z)
    cases hp : p a with
    | true =>
      refine iteT (B := _ ∧ _) ?_
      refine bd hp _ H0 σ3 H4 e4 _ fun v H5 n5 tv => ?_
      have ea5 := n5.fr.no (n4.fr.no ea3 nC) nC
      have n35 : Nx M (SA A σ Γ) H1 H5 := ⟨n34.fr.trans n5.fr, n5.al, M.gc (fun a z => .inl (s3 a (.inl z))) n5.inv, n3.cS⟩
      have up : Fr (fun a => SA A σ Γ a ∨ a = Dl) H5 (upd H5 Dl (.lst (acc ++ [v]))) := .at (.inr rfl) ea5 rfl
      have G6 : M.G (fun a => SA A σ Γ a ∨ a = Dl) (upd H5 Dl (.lst (acc ++ [v]))) := M.gs (.at (S := fun b => (SA A σ Γ b ∨ b = Dl) ∧ ¬ M.C b) ⟨.inr rfl, nC⟩ ea5 rfl) (M.gc (fun a z => .inl (s3 a z)) n5.inv)
      refine ⟨acc, ea5, ?_, hlt, ⟨fun b o hb hs => ?_, fun b hb => ?_, M.gc (fun a z => .inl (.inl z)) G6, n3.cS⟩, G6, _, upd_same, ?_⟩
      · rw [la.len, List.length_map]
        have h1 := List.length_filter_le p (L.take i)
        rw [List.length_take] at h1
        exact sz6 (by omega)
      · rw [upd_ne (ne_of_none hb hD)]
        exact n35.fr b o hb hs
      · obtain ⟨o, ho⟩ := n35.al b hb
        rw [upd_ne fun z => nC (by rw [← z]; exact hb)]
        exact ⟨o, ho⟩
      · rw [tk, List.filter_append, List.map_append, List.filter_cons, if_pos hp]
        exact (((la.stay (Fr.of sm)).stay (fD (n4.fr.trans n5.fr))).app (.one (tv.chg fun a z => .inl (s3 a z)))).stay up
    | false =>
      refine iteF ?_
      have ea4 := n4.fr.no ea3 nC
      refine ⟨hlt, n34, M.gc (fun a z => .inl (s3 a z)) n4.inv, acc, ea4, ?_⟩
      rw [tk, List.filter_append, List.map_append, List.filter_cons, if_neg (by rw [hp]; exact Bool.false_ne_true)]
      simpa using (la.stay (Fr.of sm)).stay (fD n4.fr)
  · have e0 : i = L.length := by omega
    subst e0
    rw [List.take_length] at la
    exact .inl ⟨stop, k Dl acc H' (n1.free hD) (n1.trans n2) ea la G2⟩
theorem xt_yes : ET M tYes Γ true := fun A H0 σ H e Q q => q H (.refl e)
/-- .. without if -/
theorem xl_lc {α : Type} (L : List α) (f : α → Dt) (q : α → Dt) (h : IT M wi Γ (L.map f)) (hz : L.length ≤ 1000000) (no : noOwn Γ vs = true)
    (hb : ∀ a ∈ L, ∃ Γ1 js, GT M.K g (wipeS Γ vs) (f a) Γ1 js ∧ (js.all fun j => vs.contains j) = true ∧ E M te Γ1 (q a)) : EL M (tLc wi g tYes te vs) Γ (L.map q) :=
  (xl_lcG L f (fun _ => true) q h hz no fun a ha => by
    obtain ⟨Γ1, js, h1, h2, h3⟩ := hb a ha
    exact ⟨Γ1, js, h1, h2, xt_yes, fun _ => h3⟩).is (by rw [List.filter_eq_self.mpr fun _ _ => rfl])
/-! calls -/
/-- a promise of data: nothing is changed -/
def spX (K : PySem.W.Frag) (R : List Dt → Dt → Prop) : Sp := fun vs H Q _ => ∃ (A : AS) (ds : List Dt) (d : Dt), (∀ a, A a → ∃ o, H a = some o) ∧ IsL K A H vs ds ∧ R ds d ∧ ∀ v H', Same H H' → (∀ a, H' a = none → H a = none) → IsD K A H' v d → Q v H'
theorem x_call {R : List Dt → Dt → Prop} {X : XK} (h : EA M tas Γ ds) (r : R ds d) : E M (tCall (spX M.K R) [] X tas) Γ d := fun A H0 σ H e Q q => h A H0 σ H e _ fun vs H1 n1 l => by
  rw [List.append_nil]
  have e1 := e.nx n1
  exact ⟨SA A σ Γ, ds, d, e1.sv, l, r, fun v H2 sm al hv => q v H2 (n1.trans (e1.same sm al)) hv⟩
/-- the world of a def that changes nothing -/
abbrev pure0 (K : PySem.W.Frag) : Md where
  K := K
  C := fun _ => False
  G := fun _ _ => True
  gs := fun _ _ => True.intro
  gc := fun _ _ => True.intro
def st0 (N : List Str) (ds : List Dt) : List Sl := ds.map Sl.f ++ List.replicate (N.length - ds.length) .any
theorem own_f : ∀ (ds : List Dt) (n : Nat) (σ : L2.St) (a : Addr), ¬ own σ (ds.map Sl.f ++ List.replicate n .any) a := fun ds n σ a ⟨i, es, h1, h2⟩ => by
  rw [List.getElem?_append] at h1
  split at h1
  · rw [List.getElem?_map] at h1
    cases e : ds[i]? with
    | none => rw [e] at h1; cases h1
    | some d => rw [e] at h1; cases h1
  · rw [List.getElem?_replicate] at h1
    split at h1
    · cases h1
    · cases h1
theorem En.init {N : List Str} {vs : List V} {ds : List Dt} (av : ∀ a, A a → ∃ o, H a = some o) (l : IsL K A H vs ds) : En (pure0 K) A H (st0 N ds) (L2.start N vs) H where
  len := by
    unfold L2.start st0
    simp [l.len]
  at' := fun i s h => by
    have so : ∀ a, SA A (L2.start N vs) (st0 N ds) a → A a := fun a z => z.elim id fun z => absurd z (own_f _ _ _ _)
    unfold st0 at h
    rw [List.getElem?_append] at h
    split at h
    · rename_i c
      rw [List.length_map] at c
      rw [List.getElem?_map] at h
      cases e : ds[i]? with
      | none => rw [e] at h; cases h
      | some d =>
        rw [e] at h
        cases h
        obtain ⟨v, h1, h2⟩ := l.get e
        refine ⟨v, ?_, h2.chg fun a z => .inl (so a z)⟩
        unfold L2.start
        rw [List.getElem?_append, if_pos (by rw [List.length_map, l.len]; exact c), List.getElem?_map, h1]
        rfl
    · rw [List.getElem?_replicate] at h
      split at h
      · cases h
        exact True.intro
      · cases h
  inj := fun i j ds' es a h1 _ h3 _ => absurd ⟨i, ds', h1, h3⟩ (own_f _ _ (L2.start N vs) a)
  fr := .refl
  new := fun a h => absurd h (own_f _ _ _ _)
  nA := fun a h => absurd h (own_f _ _ _ _)
  av := av
  inv := True.intro
  cA := fun _ z => z.elim
/-- a def's body keeps its promise -/
theorem body_ok {N : List Str} {vs : List V} {ds : List Dt} {ts : TS} {Q : VK} (av : ∀ a, A a → ∃ o, H a = some o) (l : IsL K A H vs ds) (q : ∀ v H', Same H H' → (∀ a, H' a = none → H a = none) → IsD K A H' v d → Q v H')
    (w : W (pure0 K) ts (st0 N ds) { nx := fun _ => d = .non, rt := fun x => x = d }) : ts { nx := fun _ H' => Q .non H', rt := Q } (L2.start N vs) H := by
  have e := En.init (N := N) av l
  have sm : ∀ {H'}, Nx (pure0 K) A H H' → Same H H' ∧ ∀ a, H' a = none → H a = none := fun n => by
    have s : Same H _ := fun b o hb => n.fr.no hb fun z => z
    exact ⟨s, fun a h => s.free h⟩
  refine w A H _ _ H e (fun Γ' σ' H' p e' g' => ?_) (fun _ _ _ p _ _ => p.elim) (fun _ _ _ p _ _ => p.elim) fun v x H' p n hv => ?_
  · have s : Same H H' := fun b o hb => e'.fr.no hb fun z => z
    exact q _ _ s (fun a h => s.free h) (by rw [p]; exact .non)
  · cases p
    exact q v H' (sm n).1 (sm n).2 hv
end
end Mg.Nw

set_option Elab.async false
set_option linter.all false
set_option maxRecDepth 100000
set_option maxHeartbeats 400000
namespace Mg
open PySem L2
/-! formulas as they are meant; as data; what the program's walks find in them -/
mutual
inductive FRow where
  | nil | cons (i : FItem) (r : FRow)
inductive FItem where
  | mk (n : FNuc) (b a : FScr)
inductive FScr where
  | no | yes (r : FRow)
inductive FNuc where
  | sym (x : Str) | group (r : FRow) | frac (o u : FRow) | root (r : FRow) | fence (o c : Option Str) (r : FRow) | grid (g : FGrid)
inductive FGrid where
  | nil | cons (c : FCells) (g : FGrid)
inductive FCells where
  | nil | cons (r : FRow) (c : FCells)
end
def optD : Option Str → PyData
  | none => .none
  | some x => .str x
mutual
def FRow.ds : FRow → List PyData
  | .nil => []
  | .cons i r => i.d :: r.ds
def FItem.d : FItem → PyData
  | .mk n b a => .tuple [n.d, b.d, a.d]
def FScr.d : FScr → PyData
  | .no => .none
  | .yes r => .tuple r.ds
def FNuc.d : FNuc → PyData
  | .sym x => .tuple [.str "symbol", .str x]
  | .group r => .tuple [.str "group", .tuple r.ds]
  | .frac o u => .tuple [.str "frac", .tuple o.ds, .tuple u.ds]
  | .root r => .tuple [.str "root", .tuple r.ds]
  | .fence o c r => .tuple [.str "fence", optD o, optD c, .tuple r.ds]
  | .grid g => .tuple [.str "grid", .tuple g.ds]
def FGrid.ds : FGrid → List PyData
  | .nil => []
  | .cons c g => .tuple c.ds :: g.ds
def FCells.ds : FCells → List PyData
  | .nil => []
  | .cons r c => .tuple r.ds :: c.ds
end
def FRow.d (r : FRow) : PyData := .tuple r.ds
def FCells.d (c : FCells) : PyData := .tuple c.ds
/-! as lists -/
def FRow.items : FRow → List FItem
  | .nil => []
  | .cons i r => i :: r.items
def FRow.of : List FItem → FRow
  | [] => .nil
  | i :: r => .cons i (FRow.of r)
def FGrid.lines : FGrid → List FCells
  | .nil => []
  | .cons c g => c :: g.lines
def FGrid.of : List FCells → FGrid
  | [] => .nil
  | c :: g => .cons c (FGrid.of g)
def FCells.rows : FCells → List FRow
  | .nil => []
  | .cons r c => r :: c.rows
def FCells.of : List FRow → FCells
  | [] => .nil
  | r :: c => .cons r (FCells.of c)
theorem FRow.ds_eq : ∀ r : FRow, r.ds = r.items.map FItem.d
  | .nil => rfl
  | .cons i r => by rw [FRow.ds, FRow.items, List.map_cons, FRow.ds_eq r]
theorem FGrid.ds_eq : ∀ g : FGrid, g.ds = g.lines.map FCells.d
  | .nil => rfl
  | .cons c g => by rw [FGrid.ds, FGrid.lines, List.map_cons, FGrid.ds_eq g, FCells.d]
theorem FCells.ds_eq : ∀ c : FCells, c.ds = c.rows.map FRow.d
  | .nil => rfl
  | .cons r c => by rw [FCells.ds, FCells.rows, List.map_cons, FCells.ds_eq c, FRow.d]
theorem FRow.items_of : ∀ l : List FItem, (FRow.of l).items = l
  | [] => rfl
  | i :: l => by rw [FRow.of, FRow.items, FRow.items_of l]
theorem FGrid.lines_of : ∀ l : List FCells, (FGrid.of l).lines = l
  | [] => rfl
  | i :: l => by rw [FGrid.of, FGrid.lines, FGrid.lines_of l]
theorem FCells.rows_of : ∀ l : List FRow, (FCells.of l).rows = l
  | [] => rfl
  | i :: l => by rw [FCells.of, FCells.rows, FCells.rows_of l]
theorem FRow.of_items : ∀ r : FRow, FRow.of r.items = r
  | .nil => rfl
  | .cons i r => by rw [FRow.items, FRow.of, FRow.of_items r]
/-! the rows directly in -/
def FScr.rows : FScr → List FRow
  | .no => []
  | .yes r => [r]
def FGrid.all : FGrid → List FRow
  | .nil => []
  | .cons c g => c.rows ++ g.all
def FNuc.rows : FNuc → List FRow
  | .sym _ => []
  | .group r => [r]
  | .frac o u => [o, u]
  | .root r => [r]
  | .fence _ _ r => [r]
  | .grid g => g.all
def FItem.nuc : FItem → FNuc
  | .mk n _ _ => n
def FItem.bel : FItem → FScr
  | .mk _ b _ => b
def FItem.abv : FItem → FScr
  | .mk _ _ a => a
def FItem.rows : FItem → List FRow
  | .mk n b a => n.rows ++ (b.rows ++ a.rows)
theorem FGrid.all_eq : ∀ g : FGrid, g.all = g.lines.flatMap FCells.rows
  | .nil => rfl
  | .cons c g => by rw [FGrid.all, FGrid.lines, List.flatMap_cons, FGrid.all_eq g]
/-! all rows within, in preorder -/
mutual
def FRow.inn : FRow → List FRow
  | .nil => []
  | .cons i r => i.inn ++ r.inn
def FItem.inn : FItem → List FRow
  | .mk n b a => n.inn ++ (b.inn ++ a.inn)
def FScr.inn : FScr → List FRow
  | .no => []
  | .yes r => r :: r.inn
def FNuc.inn : FNuc → List FRow
  | .sym _ => []
  | .group r => r :: r.inn
  | .frac o u => (o :: o.inn) ++ (u :: u.inn)
  | .root r => r :: r.inn
  | .fence _ _ r => r :: r.inn
  | .grid g => g.inn
def FGrid.inn : FGrid → List FRow
  | .nil => []
  | .cons c g => c.inn ++ g.inn
def FCells.inn : FCells → List FRow
  | .nil => []
  | .cons r c => (r :: r.inn) ++ c.inn
end
def FRow.pre (r : FRow) : List FRow := r :: r.inn
theorem FRow.inn_eq : ∀ r : FRow, r.inn = r.items.flatMap FItem.inn
  | .nil => rfl
  | .cons i r => by rw [FRow.inn, FRow.items, List.flatMap_cons, FRow.inn_eq r]
theorem FCells.inn_eq : ∀ c : FCells, c.inn = c.rows.flatMap FRow.pre
  | .nil => rfl
  | .cons r c => by rw [FCells.inn, FCells.rows, List.flatMap_cons, FCells.inn_eq c, FRow.pre]
theorem FGrid.inn_eq : ∀ g : FGrid, g.inn = g.all.flatMap FRow.pre
  | .nil => rfl
  | .cons c g => by rw [FGrid.inn, FGrid.all, List.flatMap_append, FGrid.inn_eq g, FCells.inn_eq]
theorem FScr.inn_eq (s : FScr) : s.inn = s.rows.flatMap FRow.pre := by
  cases s <;> simp [FScr.inn, FScr.rows, FRow.pre]
theorem FNuc.inn_eq (n : FNuc) : n.inn = n.rows.flatMap FRow.pre := by
  cases n <;> simp [FNuc.inn, FNuc.rows, FRow.pre, FGrid.inn_eq]
theorem FItem.inn_eq (i : FItem) : i.inn = i.rows.flatMap FRow.pre := by
  cases i with
  | mk n b a => rw [FItem.inn, FItem.rows, FNuc.inn_eq, FScr.inn_eq, FScr.inn_eq, List.flatMap_append, List.flatMap_append]
/-! how deep -/
mutual
def FRow.dep : FRow → Nat
  | .nil => 0
  | .cons i r => max i.dep r.dep
def FItem.dep : FItem → Nat
  | .mk n b a => max n.dep (max b.dep a.dep)
def FScr.dep : FScr → Nat
  | .no => 0
  | .yes r => r.dep + 1
def FNuc.dep : FNuc → Nat
  | .sym _ => 0
  | .group r => r.dep + 1
  | .frac o u => max (o.dep + 1) (u.dep + 1)
  | .root r => r.dep + 1
  | .fence _ _ r => r.dep + 1
  | .grid g => g.dep
def FGrid.dep : FGrid → Nat
  | .nil => 0
  | .cons c g => max c.dep g.dep
def FCells.dep : FCells → Nat
  | .nil => 0
  | .cons r c => max (r.dep + 1) c.dep
end
theorem FRow.dep_le {n : Nat} : ∀ {r : FRow}, r.dep ≤ n ↔ ∀ i ∈ r.items, i.dep ≤ n
  | .nil => by simp [FRow.dep, FRow.items]
  | .cons i r => by
    rw [FRow.dep, FRow.items, List.forall_mem_cons, ← FRow.dep_le (r := r)]
    omega
theorem FCells.dep_le {n : Nat} : ∀ {c : FCells}, c.dep ≤ n ↔ ∀ r ∈ c.rows, r.dep + 1 ≤ n
  | .nil => by simp [FCells.dep, FCells.rows]
  | .cons r c => by
    rw [FCells.dep, FCells.rows, List.forall_mem_cons, ← FCells.dep_le (c := c)]
    omega
theorem FGrid.dep_le {n : Nat} : ∀ {g : FGrid}, g.dep ≤ n ↔ ∀ r ∈ g.all, r.dep + 1 ≤ n
  | .nil => by simp [FGrid.dep, FGrid.all]
  | .cons c g => by
    rw [FGrid.dep, FGrid.all, List.forall_mem_append, ← FGrid.dep_le (g := g), ← FCells.dep_le]
    omega
theorem FScr.dep_le {n : Nat} {s : FScr} : s.dep ≤ n ↔ ∀ r ∈ s.rows, r.dep + 1 ≤ n := by
  cases s <;> simp [FScr.dep, FScr.rows]
theorem FNuc.dep_le {n : Nat} {s : FNuc} : s.dep ≤ n ↔ ∀ r ∈ s.rows, r.dep + 1 ≤ n := by
  cases s with
  | grid g => exact FGrid.dep_le
  | frac o u => simp [FNuc.dep, FNuc.rows]; omega
  | _ => simp [FNuc.dep, FNuc.rows]
theorem FItem.dep_le {n : Nat} {i : FItem} : i.dep ≤ n ↔ ∀ r ∈ i.rows, r.dep + 1 ≤ n := by
  cases i with
  | mk m b a =>
    rw [FItem.dep, FItem.rows, List.forall_mem_append, List.forall_mem_append, ← FNuc.dep_le, ← FScr.dep_le, ← FScr.dep_le]
    omega
/-! the words of the normal text -/
def delimW : Option Str → Str
  | none => "."
  | some x => x
mutual
def FRow.words : FRow → List Str
  | .nil => []
  | .cons i r => i.words ++ r.words
def FItem.words : FItem → List Str
  | .mk n b a => n.words ++ (b.words "_" ++ a.words "^")
def FScr.words (s : Str) : FScr → List Str
  | .no => []
  | .yes r => s :: "{" :: (r.words ++ [("}" : Str)])
def FNuc.words : FNuc → List Str
  | .sym x => [x]
  | .group r => "{" :: (r.words ++ [("}" : Str)])
  | .frac o u => "@frac" :: "{" :: (o.words ++ (("}" : Str) :: "{" :: (u.words ++ [("}" : Str)])))
  | .root r => "@root" :: "{" :: (r.words ++ [("}" : Str)])
  | .fence o c r => "@left" :: delimW o :: (r.words ++ [("@right" : Str), delimW c])
  | .grid g => "@grid" :: (g.words "{" ++ [("}" : Str)])
def FGrid.words (s : Str) : FGrid → List Str
  | .nil => []
  | .cons c g => c.words s ++ g.words "~"
def FCells.words (s : Str) : FCells → List Str
  | .nil => []
  | .cons r c => s :: (r.words ++ c.words "&")
end
theorem FRow.words_eq : ∀ r : FRow, r.words = r.items.flatMap FItem.words
  | .nil => rfl
  | .cons i r => by rw [FRow.words, FRow.items, List.flatMap_cons, FRow.words_eq r]
def braceW (r : FRow) : List Str := "{" :: (r.words ++ [("}" : Str)])
/-! sizes: the number of words -/
theorem words_item : ∀ {r : FRow} {i : FItem}, i ∈ r.items → i.words.length ≤ r.words.length
  | .nil, _, h => nomatch h
  | .cons q r, i, h => by
    rw [FRow.words, List.length_append]
    rcases List.mem_cons.mp h with rfl | h
    · omega
    · have := words_item h
      omega
theorem words_cells : ∀ {c : FCells} {r : FRow} {s : Str}, r ∈ c.rows → r.words.length < (c.words s).length
  | .nil, _, _, h => nomatch h
  | .cons q c, r, s, h => by
    rw [FCells.words, List.length_cons, List.length_append]
    rcases List.mem_cons.mp h with rfl | h
    · omega
    · have := words_cells (s := "&") h
      omega
theorem words_grid : ∀ {g : FGrid} {r : FRow} {s : Str}, r ∈ g.all → r.words.length < (g.words s).length
  | .nil, _, _, h => nomatch h
  | .cons q c, r, s, h => by
    rw [FGrid.words, List.length_append]
    rcases List.mem_append.mp h with h | h
    · have := words_cells (s := s) h
      omega
    · have := words_grid (s := "~") h
      omega
theorem words_nuc {n : FNuc} {r : FRow} (h : r ∈ n.rows) : r.words.length < n.words.length := by
  cases n with
  | sym x => cases h
  | group q => cases List.mem_singleton.mp h; simp [FNuc.words]; omega
  | root q => cases List.mem_singleton.mp h; simp [FNuc.words]; omega
  | fence o c q => cases List.mem_singleton.mp h; simp [FNuc.words]; omega
  | frac o u =>
    rcases List.mem_cons.mp h with rfl | h
    · simp [FNuc.words]; omega
    · cases List.mem_singleton.mp h; simp [FNuc.words]; omega
  | grid g =>
    have := words_grid (s := "{") h
    simp [FNuc.words]; omega
theorem words_scr {n : FScr} {r : FRow} {s : Str} (h : r ∈ n.rows) : r.words.length < (n.words s).length := by
  cases n with
  | no => cases h
  | yes q => cases List.mem_singleton.mp h; simp [FScr.words]; omega
theorem words_rows {i : FItem} {r : FRow} (h : r ∈ i.rows) : r.words.length < i.words.length := by
  cases i with
  | mk n b a =>
    rw [FItem.words, List.length_append, List.length_append]
    rcases List.mem_append.mp h with h | h
    · have := words_nuc h
      omega
    rcases List.mem_append.mp h with h | h
    · have := words_scr (s := "_") h
      omega
    · have := words_scr (s := "^") h
      omega
end Mg

set_option Elab.async false
set_option linter.all false
set_option maxRecDepth 100000
set_option maxHeartbeats 1000000
namespace Mg
open PySem PySem.Spec PyProof.Rows L2
/-! more of the calculus: short words for bodies -/
def rLenQ (K : PySem.W.Frag) : List V → Hp → VK → Prop := fun xs H Q => ∃ p ys, xs = [.ref p] ∧ (SqL K H p ys ∨ SqT K H p ys) ∧ (ys.length ≤ sizeLine → Q (.int ys.length) H)
theorem call_lenK {X : Cx} : CallR X (.builtin "len") (rLenQ X.K) := call_len_sq
theorem FnOk.vac {P : Program} {w : World} {K : PySem.W.Frag} {mg : Str → Option Value} {base : Heap} {CX : CXT} {k : Nat} {f : Addr} {fd : FuncData} {ps : List Str} {sp : Sp} (h : ∀ vs H Q E, ¬ sp vs H Q E) : FnOk P w K mg base CX k f fd ps sp :=
  ⟨fun _ _ _ _ z => (h _ _ _ _ z).elim, fun _ _ _ _ _ _ _ _ _ _ _ _ _ z => (h _ _ _ _ z).elim⟩
section
variable {K : PySem.W.Frag} {σ : L2.St} {H0 H H1 H' : Hp} {p : Addr} {as ds es : List PyData} {d : PyData} {ta tb te tl : TE} {tu tw tz : TS} {g : TG} {D : Ends} {t : TT} {b : Bool} {v : V} {Q : VK}
theorem g_name {i : Nat} {Q : L2.St → Hp → Prop} (h : Q (σ.set i (some v)) H) : gName i v σ H Q := h
theorem retL (kk : ∀ p xs H', H p = none → Same H H' → H' p = some (.lst xs) → TpL K H' xs es → Q (.ref p) H') (s : Same H H1) (h : EvDL K te σ H1 es) (e : D.rt = Q) : tRet te D σ H1 := by
  show te σ H1 D.rt
  rw [e]
  exact h H1 (Same.refl _) _ fun p xs H2 n s2 e l => kk p xs H2 (s.free n) (s.trans s2) e l
theorem retD (kk : ∀ v H', Same H H' → Tp K H' v d → Q v H') (s : Same H H1) (h : EvD K te σ H1 d) (e : D.rt = Q) : tRet te D σ H1 := by
  show te σ H1 D.rt
  rw [e]
  exact h H1 (Same.refl _) _ fun v H2 s2 t => kk v H2 (s.trans s2) t
theorem retAcc {i : Nat} (kk : ∀ p xs H', H p = none → Same H H' → H' p = some (.lst xs) → TpL K H' xs es → Q (.ref p) H') (A : Acc K H p es H1) (hi : σ[i]? = some (some (.ref p))) (e : D.rt = Q) : tRet (tVar i) D σ H1 := by
  show tVar i σ H1 D.rt
  rw [e]
  obtain ⟨a, b, xs, c, l⟩ := A
  exact ⟨_, hi, kk p xs H1 a b c l⟩
theorem q_noS {i : Nat} {x y : Str} (hv : σ[i]? = some (some (.str x))) (ne : x ≠ y) (k : tz D σ H) : tSeq (tIfS (tTest (tOp rEq (tVar i) (tC (.str y)))) tu tNext) tz D σ H := by
  refine ⟨_, hv, rfl, _, rfl, iteN ?_ k⟩
  rw [decide_eq_true_eq]
  intro z
  injection z with z
  exact ne z
theorem q_yesS {i : Nat} {x : Str} (hv : σ[i]? = some (some (.str x))) (k : tu { D with nx := tz D } σ H) : tSeq (tIfS (tTest (tOp rEq (tVar i) (tC (.str x)))) tu tw) tz D σ H := ⟨_, hv, rfl, _, rfl, iteP (decide_eq_true rfl) k⟩
theorem q_no (h : EvDT K t σ H b) (e : b = false) (k : ∀ H1, Same H H1 → tz D σ H1) : tSeq (tIfS t tu tNext) tz D σ H := q_when h (fun z => by rw [e] at z; cases z) fun _ H1 s => k H1 s
theorem q_yes (h : EvDT K t σ H b) (e : b = true) (k : ∀ H1, Same H H1 → tu { D with nx := tz D } σ H1) : tSeq (tIfS t tu tw) tz D σ H := q_if h (fun _ H1 s => k H1 s) fun z => by rw [e] at z; cases z
theorem q_forT {xs0 : List V} (h : EvD K tl σ H (.tuple ds)) (hp : H p = some (.lst xs0)) (Pv : Nat → L2.St → Hp → Prop) (h0 : ∀ H1, Same H H1 → Pv 0 σ H1)
    (hs : ∀ H1, Same H H1 → ∀ i d x σ' H', ds[i]? = some d → Pv i σ' H' → KeepB p H1 H' → Tp K H' x d → g x σ' H' fun σ2 H2 => tu { D with nx := fun σ3 H3 => Pv (i + 1) σ3 H3 ∧ KeepB p H1 H3, ct := fun σ3 H3 => Pv (i + 1) σ3 H3 ∧ KeepB p H1 H3, bk := tz D } σ2 H2)
    (hd : ∀ σ' H', Pv ds.length σ' H' → KeepB p H H' → tz D σ' H') : tSeq (tFor (iTup K tl) g tu) tz D σ H := s_forT (D := { D with nx := tz D }) h hp Pv h0 hs hd
theorem q_forL {xs0 : List V} (h : EvDL K tl σ H ds) (hp : H p = some (.lst xs0)) (Pv : Nat → L2.St → Hp → Prop) (h0 : ∀ H1, Same H H1 → Pv 0 σ H1)
    (hs : ∀ H1, Same H H1 → ∀ i d x σ' H', ds[i]? = some d → Pv i σ' H' → KeepB p H1 H' → Tp K H' x d → g x σ' H' fun σ2 H2 => tu { D with nx := fun σ3 H3 => Pv (i + 1) σ3 H3 ∧ KeepB p H1 H3, ct := fun σ3 H3 => Pv (i + 1) σ3 H3 ∧ KeepB p H1 H3, bk := tz D } σ2 H2)
    (hd : ∀ σ' H', Pv ds.length σ' H' → KeepB p H H' → tz D σ' H') : tSeq (tFor (iList K tl) g tu) tz D σ H := s_forL (D := { D with nx := tz D }) h hp Pv h0 hs hd
theorem q_enum {xs0 xs : List V} {j : Nat} {a : Addr} (hj : σ[j]? = some (some (.ref a))) (ha : H a = some (.lst xs)) (l : TpL K H xs ds) (ne : a ≠ p) (hp : H p = some (.lst xs0)) (Pv : Nat → L2.St → Hp → Prop) (h0 : Pv 0 σ H)
    (hs : ∀ i d x T σ' H', ds[i]? = some d → Pv i σ' H' → KeepB p H H' → Tp K H' x d → H' T = none → g (.ref T) σ' (upd H' T (.tup [.int (i : Nat), x])) fun σ2 H2 => tu { D with nx := fun σ3 H3 => Pv (i + 1) σ3 H3 ∧ KeepB p H H3, ct := fun σ3 H3 => Pv (i + 1) σ3 H3 ∧ KeepB p H H3, bk := tz D } σ2 H2)
    (hd : ∀ σ' H', Pv ds.length σ' H' → KeepB p H H' → tz D σ' H') : tSeq (tFor (iEnum K (tCons (tVar j) tNil)) g tu) tz D σ H := s_enum (D := { D with nx := tz D }) hj ha l ne hp Pv h0 hs hd
/-- if x is not None: xs.append(x) | xs.extend([..] + f(x)) -/
theorem none_scr (s : FScr) : noneD s.d = (match s with | .no => true | .yes _ => false) := by cases s <;> rfl
theorem e_maxD {ns : List Int} {z : Int} (h : EvDL K te σ H (ns.map PyData.int)) : EvD K (tCKw (rMaxD K) (tCons te tNil) (tCons (tC (.int z)) tNil)) σ H (.int (maxI z ns)) := fun H1 s Q q => h H1 s _ fun p xs H2 _ s2 e l => by
  have el := l.ints
  subst el
  exact ⟨p, ns, z, rfl, rfl, SqL.of e, q _ H2 s2 (.int _)⟩
theorem e_sum {ns : List Int} (h : EvDL K te σ H (ns.map PyData.int)) : EvD K (tCB (rSum K) (tCons te tNil)) σ H (.int ns.sum) := fun H1 s Q q => h H1 s _ fun p xs H2 _ s2 e l => by
  have el := l.ints
  subst el
  exact ⟨p, ns, rfl, SqL.of e, q _ H2 s2 (.int _)⟩
end
theorem get_map {α β : Type} {f : α → β} {l : List α} {i : Nat} {y : β} (h : (l.map f)[i]? = some y) : ∃ x, l[i]? = some x ∧ y = f x := by
  rw [List.getElem?_map] at h
  cases e : l[i]? with
  | none => rw [e] at h; cases h
  | some x => rw [e] at h; exact ⟨x, rfl, (Option.some.inj h).symm⟩
theorem map_get {α β : Type} {f : α → β} {l : List α} {i : Nat} {x : α} (h : l[i]? = some x) : (l.map f)[i]? = some (f x) := by
  rw [List.getElem?_map, h]
  rfl
theorem flat_snoc {α β : Type} {f : α → List β} {l : List α} {i : Nat} {x : α} (h : l[i]? = some x) : (l.take (i + 1)).flatMap f = (l.take i).flatMap f ++ f x := by
  rw [List.take_add_one, h, List.flatMap_append]
  simp
theorem map_snoc {α β : Type} {f : α → β} {l : List α} {i : Nat} {x : α} (h : l[i]? = some x) : (l.take (i + 1)).map f = (l.take i).map f ++ [f x] := by
  rw [List.take_add_one, h, List.map_append]
  rfl
theorem flat_le {α β : Type} {f : α → List β} : ∀ {l : List α} {i : Nat} {x : α}, l[i]? = some x → ((l.take i).flatMap f).length + (f x).length ≤ (l.flatMap f).length
  | [], _, _, h => by simp at h
  | y :: l, 0, x, h => by
    cases Option.some.inj h
    simp
  | y :: l, i + 1, x, h => by
    have := flat_le (f := f) (l := l) (i := i) (x := x) h
    rw [List.take_succ_cons, List.flatMap_cons, List.flatMap_cons, List.length_append, List.length_append]
    omega
/-! numbers of rows -/
mutual
theorem inn_row : ∀ r : FRow, r.inn.length ≤ r.words.length
  | .nil => Nat.le_refl _
  | .cons i r => by
    rw [FRow.inn, FRow.words, List.length_append, List.length_append]
    have := inn_item i
    have := inn_row r
    omega
theorem inn_item : ∀ i : FItem, i.inn.length ≤ i.words.length
  | .mk n b a => by
    rw [FItem.inn, FItem.words, List.length_append, List.length_append, List.length_append, List.length_append]
    have := inn_nuc n
    have := inn_scr "_" b
    have := inn_scr "^" a
    omega
theorem inn_scr (s : Str) : ∀ c : FScr, c.inn.length ≤ (c.words s).length
  | .no => Nat.le_refl _
  | .yes r => by
    have := inn_row r
    simp only [FScr.inn, FScr.words, List.length_cons, List.length_append]
    omega
theorem inn_nuc : ∀ n : FNuc, n.inn.length ≤ n.words.length
  | .sym x => by simp [FNuc.inn]
  | .group r => by
    have := inn_row r
    simp only [FNuc.inn, FNuc.words, List.length_cons, List.length_append]
    omega
  | .frac o u => by
    have := inn_row o
    have := inn_row u
    simp only [FNuc.inn, FNuc.words, List.length_cons, List.length_append]
    omega
  | .root r => by
    have := inn_row r
    simp only [FNuc.inn, FNuc.words, List.length_cons, List.length_append]
    omega
  | .fence o c r => by
    have := inn_row r
    simp only [FNuc.inn, FNuc.words, List.length_cons, List.length_append]
    omega
  | .grid g => by
    have := inn_grid "{" g
    simp only [FNuc.inn, FNuc.words, List.length_cons, List.length_append]
    omega
theorem inn_grid (s : Str) : ∀ g : FGrid, g.inn.length ≤ (g.words s).length
  | .nil => Nat.le_refl _
  | .cons c g => by
    have := inn_cells s c
    have := inn_grid "~" g
    rw [FGrid.inn, FGrid.words, List.length_append, List.length_append]
    omega
theorem inn_cells (s : Str) : ∀ c : FCells, c.inn.length ≤ (c.words s).length
  | .nil => Nat.le_refl _
  | .cons r c => by
    have := inn_row r
    have := inn_cells "&" c
    simp only [FCells.inn, FCells.words, List.length_cons, List.length_append]
    omega
end
theorem cells_len (s : Str) : ∀ c : FCells, c.rows.length ≤ (c.words s).length
  | .nil => Nat.le_refl _
  | .cons r c => by
    have := cells_len "&" c
    simp only [FCells.rows, FCells.words, List.length_cons, List.length_append]
    omega
theorem all_len (s : Str) : ∀ g : FGrid, g.all.length ≤ (g.words s).length
  | .nil => Nat.le_refl _
  | .cons c g => by
    have := cells_len s c
    have := all_len "~" g
    rw [FGrid.all, FGrid.words, List.length_append, List.length_append]
    omega
theorem nrows_len (n : FNuc) : n.rows.length ≤ n.words.length := by
  cases n with
  | grid g =>
    have := all_len "{" g
    simp only [FNuc.rows, FNuc.words, List.length_cons, List.length_append]
    omega
  | _ => simp [FNuc.rows, FNuc.words]
theorem rows_len (i : FItem) : i.rows.length ≤ i.words.length := by
  cases i with
  | mk n b a =>
    have := nrows_len n
    cases b <;> cases a <;> simp [FItem.rows, FScr.rows, FItem.words, FScr.words] <;> omega
/-! the greatest of natural numbers -/
def natMax (ns : List Nat) : Nat := ns.foldr max 0
theorem natMax_le {m : Nat} : ∀ {ns : List Nat}, natMax ns ≤ m ↔ ∀ n ∈ ns, n ≤ m
  | [] => by simp [natMax]
  | n :: ns => by
    have := natMax_le (m := m) (ns := ns)
    unfold natMax at this ⊢
    rw [List.foldr_cons, List.forall_mem_cons, ← this]
    omega
theorem maxI_nat : ∀ ns : List Nat, maxI 0 (ns.map fun n : Nat => (n : Int)) = ((natMax ns : Nat) : Int)
  | [] => rfl
  | n :: ns => by
    rw [List.map_cons, maxI_cons _ _ _ (fun m hm => ?_), maxI_nat ns]
    · show max (n : Int) _ = ((max n (natMax ns) : Nat) : Int)
      omega
    · rcases List.mem_cons.mp hm with rfl | hm
      · exact Int.natCast_nonneg _
      · obtain ⟨q, _, rfl⟩ := List.mem_map.mp hm
        exact Int.natCast_nonneg _
theorem dep_max (r : FRow) : r.dep = natMax (r.items.flatMap fun i => i.rows.map fun q => q.dep + 1) := by
  have key : ∀ m, r.dep ≤ m ↔ natMax (r.items.flatMap fun i => i.rows.map fun q => q.dep + 1) ≤ m := fun m => by
    rw [natMax_le, FRow.dep_le]
    constructor
    · intro h n hn
      obtain ⟨i, hi, hn⟩ := List.mem_flatMap.mp hn
      obtain ⟨q, hq, rfl⟩ := List.mem_map.mp hn
      exact FItem.dep_le.mp (h i hi) q hq
    · intro h i hi
      exact FItem.dep_le.mpr fun q hq => h _ (List.mem_flatMap.mpr ⟨i, hi, List.mem_map.mpr ⟨q, hq, rfl⟩⟩)
  exact Nat.le_antisymm ((key _).mpr (Nat.le_refl _)) ((key _).mp (Nat.le_refl _))
end Mg

set_option Elab.async false
set_option linter.all false
set_option maxRecDepth 100000
set_option maxHeartbeats 1000000
namespace Mg.Nw
open PySem PySem.Spec PyProof.Rows L2
section
variable {M : Md} {A : AS} {K : PySem.W.Frag} {Γ Δ Γ' Γ1 Γ2 : List Sl} {d d1 d2 : Dt} {ds es fs : List Dt} {te ta tb tl : TE} {tas : TA} {t u tt : TT} {b : Bool} {tu tw tz ts : TS} {P : Po} {g : TG} {gs : TGs} {wi : TI} {js ks vs : List Nat}
theorem Sub.set : ∀ {Γ Δ : List Sl} (i : Nat) (s : Sl), Sub Γ Δ → Sub (Γ.set i s) (Δ.set i s)
  | _, _, _, _, .nil => .nil
  | _, _, 0, _, .cons _ b => .cons .refl b
  | _, _, i + 1, s, .cons a b => .cons a (Sub.set i s b)
theorem sub_frz : ∀ {Γ : List Sl} {i : Nat} {ds : List Dt}, Γ[i]? = some (.o ds) → Sub Γ (Γ.set i (.f (.lst ds)))
  | [], _, _, h => by simp at h
  | s :: Γ, 0, ds, h => by
    cases Option.some.inj h
    exact .cons .frz Sub.refl
  | s :: Γ, i + 1, ds, h => .cons .refl (sub_frz (i := i) h)
theorem w_frz {i : Nat} (h : Γ[i]? = some (.o ds)) (k : W M ts (Γ.set i (.f (.lst ds))) P) : W M ts Γ P := w_sub (sub_frz h) k
theorem xa_one (h : E M te Γ d) : EA M (tCons te tNil) Γ [d] := xa_cons h xa_nil
theorem gt_lst {n : Nat} (h : GTs K gs Γ ds Γ' js) (hn : ds.length = n) : GT K (gLst K n gs) Γ (.lst ds) Γ' js := fun M A H0 σ H v hk e hv Q q => by
  obtain ⟨a, xs, rfl, s, na, l⟩ := isd_lst hv
  exact ⟨a, xs, rfl, SqL.of s, by rw [l.len, hn], h M A H0 σ H xs hk e l Q q⟩
theorem o_add {i j : Int} : RX K (rI0 fun i j => .int (i + j)) (.int i) (.int j) (.int (i + j)) := o_I0i
theorem o_mul {i j : Int} (c : CMul i j) : RX K (rI CMul fun i j => .int (i * j)) (.int i) (.int j) (.int (i * j)) := o_Ii c
theorem o_catT (h1 : ds ≠ []) (h2 : es ≠ []) : True := True.intro
/-- parts of lists and tuples -/
def cutD (ds : List Dt) (lo hi : Option Int) : List Dt := (ds.drop (HT.sIx ds.length 0 lo)).take (HT.sIx ds.length ds.length hi - HT.sIx ds.length 0 lo)
def EO (M : Md) (to : TO) (Γ : List Sl) (o : Option Int) : Prop := ∀ A H0 σ H, En M A H0 Γ σ H → ∀ Q : Option Int → Hp → Prop, (∀ H', Nx M (SA A σ Γ) H H' → Q o H') → to σ H Q
theorem xo_no : EO M tNoPart Γ none := fun A H0 σ H e Q q => q H (.refl e)
theorem xo_some {i : Int} (h : E M te Γ (.int i)) : EO M (tPart te) Γ (some i) := fun A H0 σ H e Q q => h A H0 σ H e _ fun v H1 n1 tv => ⟨i, isd_int tv, q H1 n1⟩
theorem x_slT {tl th : TO} {lo hi : Option Int} (h : E M te Γ (.tup ds)) (hl : EO M tl Γ lo) (hh : EO M th Γ hi) (n : ¬ (HT.sIx ds.length 0 lo = 0 ∧ HT.sIx ds.length ds.length hi = ds.length)) : E M (tSl (rSlT M.K) te tl th) Γ (.tup (cutD ds lo hi)) := fun A H0 σ H e Q q =>
  h A H0 σ H e _ fun v H1 n1 tv => hl A H0 σ H1 (e.nx n1) _ fun H2 n2 => hh A H0 σ H2 ((e.nx n1).nx n2) _ fun H3 n3 => by
    obtain ⟨a, xs, rfl, s, l⟩ := isd_tup ((tv.stay n2.sf).stay n3.sf)
    have e3 := ((e.nx n1).nx n2).nx n3
    refine ⟨a, xs, rfl, s, by rw [l.len]; exact n, fun p hp => q _ _ (((n1.trans n2).trans n3).trans (.new e3 hp)) (.tup (SqT.of upd_same) ?_)⟩
    have : cutV xs lo hi = (xs.drop (HT.sIx ds.length 0 lo)).take (HT.sIx ds.length ds.length hi - HT.sIx ds.length 0 lo) := by
      unfold cutV
      rw [l.len]
    rw [this]
    exact ((l.drop _).take _).stay (.new hp)
theorem x_slT' {tl th : TO} {lo hi : Option Int} (h : E M te Γ (.tup ds)) (hl : EO M tl Γ lo) (hh : EO M th Γ hi) (n : ¬ (HT.sIx ds.length 0 lo = 0 ∧ HT.sIx ds.length ds.length hi = ds.length)) (e : cutD ds lo hi = es) : E M (tSl (rSlT M.K) te tl th) Γ (.tup es) := (x_slT h hl hh n).is (by rw [e])
theorem xl_slL {tl th : TO} {lo hi : Option Int} (h : ER M te Γ ds) (hl : EO M tl Γ lo) (hh : EO M th Γ hi) : EL M (tSl (rSlL M.K) te tl th) Γ (cutD ds lo hi) := fun A H0 σ H e Q q =>
  h A H0 σ H e _ fun p xs H1 n1 h1 c1 l1 => hl A H0 σ H1 (e.nx n1) _ fun H2 n2 => hh A H0 σ H2 ((e.nx n1).nx n2) _ fun H3 n3 => by
    have l3 := (l1.stay n2.sf).stay n3.sf
    refine ⟨p, xs, rfl, SqL.of (n3.fr.no (n2.fr.no h1 c1) c1), fun c hc => ?_⟩
    have : cutV xs lo hi = (xs.drop (HT.sIx ds.length 0 lo)).take (HT.sIx ds.length ds.length hi - HT.sIx ds.length 0 lo) := by
      unfold cutV
      rw [l1.len]
    rw [this]
    exact el_new e ((n1.trans n2).trans n3) hc ((l3.drop _).take _) q
theorem b_lenQ : RBL K (fun xs H Q => ∃ p ys, xs = [.ref p] ∧ (SqL K H p ys ∨ SqT K H p ys) ∧ (ys.length ≤ sizeLine → Q (.int ys.length) H)) ds (.int ds.length) := fun S p xs H Q h l q =>
  ⟨p, xs, rfl, .inl (SqL.of h), fun _ => by rw [l.len]; exact q _ (.int _)⟩
theorem b_lenT : RB1 K (fun xs H Q => ∃ p ys, xs = [.ref p] ∧ (SqL K H p ys ∨ SqT K H p ys) ∧ (ys.length ≤ sizeLine → Q (.int ys.length) H)) (.tup ds) (.int ds.length) := fun S v H Q tv q => by
  obtain ⟨a, xs, rfl, s, l⟩ := isd_tup tv
  exact ⟨a, xs, rfl, .inr s, fun _ => by rw [l.len]; exact q _ (.int _)⟩
theorem b_max2 {i j : Int} : RB2 K (fun vs H Q => ∃ a b, vs = [.int a, .int b] ∧ Q (.int (if b > a then b else a)) H) (.int i) (.int j) (.int (max i j)) := fun S v1 v2 H Q t1 t2 q => by
  rw [isd_int t1, isd_int t2]
  refine ⟨i, j, rfl, ?_⟩
  rw [show (if j > i then j else i) = max i j by split <;> omega]
  exact q _ (.int _)
theorem pi_tupK {X : Cx} {K : PySem.W.Frag} (hK : X.K = K) {e tg : Expr} {te : TE} (h : PE X e te) : PI X tg e (iTup K te) := hK ▸ pi_tup h
theorem pi_listK {X : Cx} {K : PySem.W.Frag} (hK : X.K = K) {e tg : Expr} {te : TE} (h : PE X e te) : PI X tg e (iList K te) := hK ▸ pi_list h
theorem pe_fldK {X : Cx} {K : PySem.W.Frag} (hK : X.K = K) {e : Expr} {f : Str} {pos : Pos} {ta : TE} (he : PE X e ta) (hb : attributeBase e f X.env (eval e X.env) = eval e X.env) : PE X (.Attribute e f pos) (tFld K ta f) := hK ▸ pe_fld he hb
def rTupleOf (K : PySem.W.Frag) : List V → Hp → VK → Prop := fun xs H Q => ∃ p ys, xs = [.ref p] ∧ ((SqL K H p ys ∧ ∀ l, H l = none → Q (.ref l) (upd H l (.tup ys))) ∨ (SqT K H p ys ∧ Q (.ref p) H))
theorem call_tupleK {X : Cx} : CallR X (.type "tuple") (rTupleOf X.K) := call_tuple_of
def rListOf (K : PySem.W.Frag) : List V → Hp → VK → Prop := fun xs H Q => ∃ p ys, xs = [.ref p] ∧ (SqL K H p ys ∨ SqT K H p ys) ∧ ∀ l, H l = none → Q (.ref l) (upd H l (.lst ys))
theorem call_listK {X : Cx} : CallR X (.type "list") (rListOf X.K) := call_list_of
/-- tuple(..), list(..) -/
theorem xt_tuple (h : ER M te Γ ds) : E M (tCB (rTupleOf M.K) (tCons te tNil)) Γ (.tup ds) := x_tupOf (fun p xs H Q s q => ⟨p, xs, rfl, .inl ⟨s, q⟩⟩) h
theorem xl_listL (h : ER M te Γ ds) : EL M (tCB (rListOf M.K) (tCons te tNil)) Γ ds := xl_listOf (fun p xs H Q s q => ⟨p, xs, rfl, .inl s, q⟩) h
theorem xl_listU (h : E M te Γ (.tup ds)) : EL M (tCB (rListOf M.K) (tCons te tNil)) Γ ds := xl_listT (fun p xs H Q s q => ⟨p, xs, rfl, .inr s, q⟩) h
theorem x_lenL (h : ER M te Γ ds) : E M (tCB (Mg.rLenQ M.K) (tCons te tNil)) Γ (.int ds.length) := x_bL h b_lenQ
theorem x_lenU (h : E M te Γ (.tup ds)) : E M (tCB (Mg.rLenQ M.K) (tCons te tNil)) Γ (.int ds.length) := x_b1 h b_lenT
theorem x_sum {ns : List Int} (h : ER M te Γ (ns.map Dt.int)) : E M (tCB (rSum M.K) (tCons te tNil)) Γ (.int ns.sum) := x_bL h b_sum
theorem x_max {ns : List Int} {n : Int} {r : List Int} (h : ER M te Γ (ns.map Dt.int)) (e : ns = n :: r) : E M (tCB (rMax M.K) (tCons te tNil)) Γ (.int (r.foldl max n)) := x_bL h fun S p xs H Q hp l q => by
  rw [isl_ints l] at hp
  have up : ∀ (r : List Int) (n : Int), n ≤ r.foldl max n ∧ (∀ y ∈ r, y ≤ r.foldl max n) ∧ (r.foldl max n = n ∨ r.foldl max n ∈ r) := by
    intro r
    induction r with
    | nil => intro n; exact ⟨Int.le_refl _, fun _ h => (nomatch h), .inl rfl⟩
    | cons z zs ih =>
      intro n
      obtain ⟨h1, h2, h3⟩ := ih (max n z)
      refine ⟨by rw [List.foldl_cons]; omega, fun y hy => ?_, ?_⟩
      · rw [List.foldl_cons]
        rcases List.mem_cons.mp hy with rfl | hy
        · omega
        · exact h2 y hy
      · rw [List.foldl_cons]
        rcases h3 with h3 | h3
        · rw [h3]
          rcases (show max n z = n ∨ max n z = z by omega) with g | g
          · exact .inl g
          · rw [g]
            exact .inr List.mem_cons_self
        · exact .inr (List.mem_cons_of_mem _ h3)
  obtain ⟨u1, u2, u3⟩ := up r n
  refine ⟨p, ns, rfl, SqL.of hp, by rw [e]; exact Nat.succ_pos _, fun m hm hy => ?_⟩
  have : m = r.foldl max n := by
    have h1 : m ≤ r.foldl max n := by
      rw [e] at hm
      rcases List.mem_cons.mp hm with rfl | hm
      · exact u1
      · exact u2 m hm
    have h2 : r.foldl max n ≤ m := by
      refine hy _ ?_
      rw [e]
      rcases u3 with g | g
      · rw [g]; exact List.mem_cons_self
      · exact List.mem_cons_of_mem _ g
    omega
  rw [this]
  exact q _ (.int _)
end
end Mg.Nw

set_option Elab.async false
set_option linter.all false
set_option maxRecDepth 100000
set_option maxHeartbeats 1000000
namespace Mg
open PySem PySem.Spec PyProof.Rows L2
/-! more of the calculus: calls by values, comprehensions that leave out -/
section
variable {K : PySem.W.Frag} {σ : L2.St} {H : Hp} {te tl ta tb : TE} {tas : TA} {ds es : List PyData} {d : PyData} {vs : List Nat} {v : V}
theorem e_callV {sp : Sp} {us : List V} {E : XK} (ha : ∀ H1, Same H H1 → ∀ Q : List V → Hp → Prop, (∀ H2, Same H1 H2 → Q us H2) → tas σ H1 Q) (hs : ∀ H1, Same H H1 → ∀ Q : VK, (∀ v H2, Same H1 H2 → Tp K H2 v d → Q v H2) → sp us H1 Q E) : EvD K (tCall sp [] E tas) σ H d := fun H1 s Q q =>
  ha H1 s _ fun H2 s2 => by
    rw [List.append_nil]
    exact hs H2 (s.trans s2) Q fun v H3 s3 t => q v H3 (s2.trans s3) t
theorem l_callV {sp : Sp} {us : List V} {E : XK} (ha : ∀ H1, Same H H1 → ∀ Q : List V → Hp → Prop, (∀ H2, Same H1 H2 → Q us H2) → tas σ H1 Q) (hs : ∀ H1, Same H H1 → ∀ Q : VK, (∀ p xs H2, H1 p = none → Same H1 H2 → H2 p = some (.lst xs) → TpL K H2 xs ds → Q (.ref p) H2) → sp us H1 Q E) : EvDL K (tCall sp [] E tas) σ H ds := fun H1 s Q q =>
  ha H1 s _ fun H2 s2 => by
    rw [List.append_nil]
    exact hs H2 (s.trans s2) Q fun p xs H3 n s3 e l => q p xs H3 (s2.free n) (s2.trans s3) e l
theorem l_lcTF {α : Type} {tt : TT} {j : Nat} (L : List α) (f : α → PyData) (p : α → Bool) (g : α → PyData) (h : EvD K tl σ H (.tuple (L.map f))) (hz : L.length ≤ 1000000) (hw : ∀ x, wipe ((wipe σ vs).set j (some x)) vs = wipe σ vs)
    (ht : ∀ a ∈ L, ∀ x H1, Same H H1 → Tp K H1 x (f a) → EvDT K tt ((wipe σ vs).set j (some x)) H1 (p a)) (he : ∀ a ∈ L, p a = true → ∀ x H1, Same H H1 → Tp K H1 x (f a) → EvD K te ((wipe σ vs).set j (some x)) H1 (g a)) : EvDL K (tLc (iTup K tl) (gName j) tt te vs) σ H ((L.filter p).map g) := fun H0 s Q q => h H0 s _ fun v H1 s1 tv => by
  obtain ⟨a, xs, rfl, sq, l⟩ := tv.inv
  have ll : xs.length = L.length := by rw [l.len, List.length_map]
  refine ⟨a, rfl, ⟨xs, sq⟩, fun D hD => ⟨fun i m H' => m = L.length - i ∧ i ≤ L.length ∧ Same H1 H' ∧ ∃ acc, H' D = some (.lst acc) ∧ TpL K H' acc (((L.take i).filter p).map g), ⟨L.length, by simp, Nat.zero_le _, same_new hD, [], upd_same, by simp; exact .nil⟩, ?_⟩⟩
  rintro i m H' ⟨rfl, hi, s2, acc, ea, ta⟩
  by_cases hlt : i < L.length
  · have hx : xs[i]? = some (xs[i]'(by omega)) := List.getElem?_eq_getElem (by omega)
    refine .inr ⟨⟨xs, _, same_sqt s2 sq, hx⟩, fun H3 => i + 1 ≤ L.length ∧ Same H1 H3 ∧ ∃ acc, H3 D = some (.lst acc) ∧ TpL K H3 acc (((L.take (i + 1)).filter p).map g), fun H3 h3 => ⟨L.length - (i + 1), by omega, rfl, h3⟩, fun x H'' y => ?_⟩
    obtain ⟨rfl, y⟩ := y
    have hx := y xs (same_sqt s2 sq)
    obtain ⟨d, e1, e2⟩ := l.get' hx
    obtain ⟨b, hb, rfl⟩ := get_map e1
    have bm := List.mem_of_getElem? hb
    have e2 := e2.stay (.of s2)
    have tk : L.take (i + 1) = L.take i ++ [b] := by
      rw [List.take_add_one, hb]
      rfl
    have sl : ((L.take i).filter p).length ≤ 1000000 := by
      have h1 := List.length_filter_le p (L.take i)
      rw [List.length_take] at h1
      omega
    refine ⟨hw x, ht b bm x H'' ((s.trans s1).trans s2) e2 H'' (Same.refl _) _ fun H3 s3 => ?_⟩
    cases hp : p b with
    | true =>
      refine iteT (B := _ ∧ _) ?_
      refine he b bm hp x H'' ((s.trans s1).trans s2) e2 H3 s3 _ fun v H4 s4 tv => ?_
      have ea4 := s4 _ _ (s3 _ _ ea)
      refine ⟨acc, ea4, by rw [ta.len, List.length_map]; have h1 := List.length_filter_le p (L.take i); rw [List.length_take] at h1; exact sz6 (by omega), hlt, same_upd_new ((s2.trans s3).trans s4) hD, _, upd_same, ?_⟩
      rw [tk, List.filter_append, List.map_append, List.filter_cons, if_pos hp]
      exact ((ta.stay (.of (s3.trans s4))).app (.one tv)).stay (.keep keep_upd ea4)
    | false =>
      refine iteF ?_
      refine ⟨hlt, s2.trans s3, acc, s3 _ _ ea, ?_⟩
      rw [tk, List.filter_append, List.map_append, List.filter_cons, if_neg (by rw [hp]; exact Bool.false_ne_true)]
      simpa using ta.stay (.of s3)
  · have e : i = L.length := by omega
    subst e
    refine .inl ⟨⟨xs, same_sqt s2 sq, by omega⟩, q D acc H' (s1.free hD) (s1.trans s2) ea ?_⟩
    rw [List.take_length] at ta
    exact ta
/-- an item of a new list -/
theorem e_ixNL {i : Int} (ha : EvDL K ta σ H ds) (hb : ∀ H1, Same H H1 → EvD K tb σ H1 (.int i)) (h : atI ds i = some d) : EvD K (tOp (rIxL K) ta tb) σ H d := fun H1 s Q q => ha H1 s _ fun p xs H2 _ s2 e l => hb H2 (s.trans s2) H2 (Same.refl _) _ fun v H3 s3 tv => by
  rw [tp_int tv]
  obtain ⟨n, x, h1, h2, h3⟩ := atI_get l.len h
  exact ⟨p, xs, i, x, rfl, rfl, SqL.of (s3 _ _ e), h1, q _ _ (s2.trans s3) ((l.at h2 h3).stay (.of s3))⟩
/-- x in (a, b, ..), x in [a, b, ..] of texts, made on the way -/
theorem in_strs {x : Str} {ws : List Str} : inV (.str x) (ws.map V.str) = ws.any fun r => r == x := by
  unfold inV
  rw [List.any_map]
  rfl
theorem flat_strs2 (ws : List Str) : (ws.map V.str).all flatV = true := by
  rw [List.all_map]
  exact List.all_eq_true.mpr fun _ _ => rfl
theorem e_inT {x : Str} {ws : List Str} (ha : EvD K ta σ H (.str x)) (hb : EvDA K tas σ H (ws.map PyData.str)) (hl : ws.length ≤ 1000) : EvD K (tOp (rIn K false) ta (tTup tas)) σ H (.bool (ws.any fun r => r == x)) := fun H1 s Q q => ha H1 s _ fun v H2 s2 tv => by
  rw [tp_str tv]
  refine hb H2 (s.trans s2) _ fun vs H3 s3 tvs => ?_
  obtain rfl := tvs.strs
  refine ⟨by rw [List.length_map]; exact sz5 (by omega), fun p hp => ⟨p, _, rfl, .inr (SqT.of upd_same), rfl, flat_strs2 _, ?_⟩⟩
  rw [in_strs]
  exact q _ _ ((s2.trans s3).trans (same_new hp)) (.bl _)
theorem e_inL {x : Str} {ws : List Str} (ha : EvD K ta σ H (.str x)) (hb : EvDA K tas σ H (ws.map PyData.str)) (hl : ws.length ≤ 1000) : EvD K (tOp (rIn K false) ta (tLst tas)) σ H (.bool (ws.any fun r => r == x)) := fun H1 s Q q => ha H1 s _ fun v H2 s2 tv => by
  rw [tp_str tv]
  refine hb H2 (s.trans s2) _ fun vs H3 s3 tvs => ?_
  obtain rfl := tvs.strs
  refine ⟨by rw [List.length_map]; exact sz5 (by omega), fun p hp => ⟨p, _, rfl, .inl (SqL.of upd_same), rfl, flat_strs2 _, ?_⟩⟩
  rw [in_strs]
  exact q _ _ ((s2.trans s3).trans (same_new hp)) (.bl _)
/-- x (not) in a written tuple of texts -/
theorem e_inK {neg : Bool} {x : Str} {ws : List Str} {a : Addr} (ha : EvD K ta σ H (.str x)) (hk : ∀ H, SqT K H a (ws.map V.str)) : EvD K (tOp (rIn K neg) ta (tC (.ref a))) σ H (.bool (if neg then !(ws.any fun r => r == x) else ws.any fun r => r == x)) := fun H1 s Q q => ha H1 s _ fun v H2 s2 tv => by
  rw [tp_str tv]
  refine ⟨a, _, rfl, .inr (hk _), rfl, flat_strs2 _, ?_⟩
  rw [in_strs]
  exact q _ _ s2 (.bl _)
theorem atI_last {α : Type} {l : List α} {x : α} : atI (l ++ [x]) (-1) = some x := by
  unfold atI ixN
  rw [if_neg (by decide), if_pos (by rw [List.length_append]; simp; omega)]
  show (l ++ [x])[(-1 + ((l ++ [x]).length : Int)).toNat]? = some x
  rw [List.length_append, List.length_singleton, show (-1 + ((l.length + 1 : Nat) : Int)).toNat = l.length by omega]
  simp
/-- two whole numbers, which is the greater one -/
theorem e_max2 {r : List V → Hp → VK → Prop} {i j : Int} (hr : ∀ H Q, Q (V.int (if j > i then j else i)) H → r [.int i, .int j] H Q) (ha : EvD K ta σ H (.int i)) (hb : EvD K tb σ H (.int j)) : EvD K (tCB r (tCons ta (tCons tb tNil))) σ H (.int (if j > i then j else i)) := fun H1 s Q q =>
  ha H1 s _ fun v H2 s2 tv => hb H2 (s.trans s2) _ fun u H3 s3 tu => by
    rw [tp_int tv, tp_int tu]
    exact hr _ _ (q _ _ (s2.trans s3) (.int _))
end
section
variable {K : PySem.W.Frag}
theorem r_ixS {σ : L2.St} {z : Str} {c : Nat} {l : List Nat} (h : z.cps.toList = c :: l) (hz : z.length ≤ 1000) : RD K rIxS (.str z) (.int 0) (.str ⟨#[c]⟩) := fun v1 v2 H Q t1 t2 q => by
  rw [tp_str t1, tp_int t2]
  exact ⟨z, 0, c, rfl, rfl, Nat.le_of_lt (small1000 hz), by rw [h]; exact atI_nat (show (c :: l)[0]? = some c from rfl), q _ _ (Same.refl _) (.str _)⟩
theorem r_inS {z : Str} {c : Nat} : RD K (fun x y H Q => ∃ (c : Nat) (z : Str), x = .str ⟨#[c]⟩ ∧ y = .str z ∧ Q (.bl (decide (c ∈ z.cps.toList))) H) (.str ⟨#[c]⟩) (.str z) (.bool (decide (c ∈ z.cps.toList))) := fun v1 v2 H Q t1 t2 q => by
  rw [tp_str t1, tp_str t2]
  exact ⟨c, z, rfl, rfl, q _ _ (Same.refl _) (.bl _)⟩
theorem e_ixL {σ : L2.St} {H : Hp} {j : Nat} {a : Addr} {xs : List V} {ds : List PyData} {tb : TE} {i : Int} {d : PyData} (hj : σ[j]? = some (some (.ref a))) (ha : H a = some (.lst xs)) (l : TpL K H xs ds) (hb : EvD K tb σ H (.int i)) (h : atI ds i = some d) : EvD K (tOp (rIxL K) (tVar j) tb) σ H d := fun H1 s Q q =>
  ⟨_, hj, hb H1 s _ fun v H2 s2 tv => by
    rw [tp_int tv]
    obtain ⟨n, x, h1, h2, h3⟩ := atI_get l.len h
    exact ⟨a, xs, i, x, rfl, rfl, SqL.of (s2 _ _ (s _ _ ha)), h1, q _ _ s2 ((l.at h2 h3).stay ((TupK.of s).trans (.of s2)))⟩⟩
theorem e_starts {σ : L2.St} {H : Hp} {ta tb : TE} {a b : Str} (ha : EvD K ta σ H (.str a)) (hb : EvD K tb σ H (.str b)) : EvD K (tM1 (fun x xs H Q => ∃ a b, x = .str a ∧ xs = [.str b] ∧ Q (.bl (Txt.startswith a b)) H) ta tb) σ H (.bool (Txt.startswith a b)) := fun H1 s Q q =>
  ha H1 s _ fun v H2 s2 tv => by
    rw [tp_str tv]
    refine ⟨⟨a, rfl⟩, hb H2 (s.trans s2) _ fun u H3 s3 tu => ?_⟩
    rw [tp_str tu]
    exact ⟨a, b, rfl, rfl, q _ _ (s2.trans s3) (.bl _)⟩
theorem getD_of {l : List Str} {i : Nat} {x d : Str} (h : l[i]? = some x) : l.getD i d = x := by
  rw [List.getD_eq_getElem?_getD, h]
  rfl
end
section
variable {K : PySem.W.Frag} {σ : L2.St} {H : Hp} {te : TE} {es : List PyData} {vs : List Nat}
theorem l_lcR {j : Nat} {n : Nat} (hl : es.length = n) (hn : n ≤ 100000) (hw : ∀ x, wipe ((wipe σ vs).set j (some x)) vs = wipe σ vs) (he : ∀ (i : Nat) e H1, es[i]? = some e → Same H H1 → EvD K te ((wipe σ vs).set j (some (.int (i : Int)))) H1 e) : EvDL K (tLc (iRng1 (tCons (tC (.int (n : Int))) tNil)) (gName j) tYes te vs) σ H es := fun H0 s Q q => by
  refine ⟨(n : Int), rfl, by omega, by omega, fun D hD => lc_data (K := K) es hD (by omega) (fun i H' hi s2 => by show i < ((n : Int)).toNat; omega) (fun H' s2 => by show ((n : Int)).toNat ≤ es.length; omega) ?_ fun H' acc s2 e ta => q D acc H' hD s2 e ta⟩
  rintro i x H' H'' R Z hi s2 ⟨rfl, rfl⟩ k
  have e3 : es[i]? = some es[i] := List.getElem?_eq_getElem hi
  refine ⟨hw _, iteT (B := Z H'') ?_⟩
  rw [Int.zero_add]
  exact he i _ H'' e3 (s.trans s2) H'' (Same.refl _) R fun v H3 s3 tv => k v _ H3 e3 s3 tv
end
theorem atI0 {α : Type} {x : α} {r : List α} : atI (x :: r) 0 = some x := atI_nat (show (x :: r)[0]? = some x from rfl)
end Mg

set_option Elab.async false
set_option linter.all false
set_option maxRecDepth 100000
set_option maxHeartbeats 2000000
namespace Mg
open PySem L2
local macro_rules | `(tactic| walk_at "dec") => `(tactic| (first | (apply decide_eq_true; omega) | (simp only [Bool.not_eq_true', decide_eq_true_eq, decide_eq_false_iff_not, Bool.not_eq_true, Bool.not_eq_false', Decidable.not_not] <;> omega)))
abbrev sIsInteger : Stmt := top 21
def cCLASSES : List Str := ["op", "ord", "bin", "rel", "open", "close", "punct"]
structure TxtE (K : PySem.W.Frag) (mg : Str → Option Value) (aC : Addr) : Prop extends TxtC mg where
  b_all : mg "all" = none
  c_ROOT_SIGN : ∃ t, mg "ROOT_SIGN" = some (.str "@root" t)
  c_MOST_MEASURE : ∃ t, mg "MOST_MEASURE" = some (.int 1000 t)
  c_CLASSES : mg "CLASSES" = some (.ref aC)
  k_CLASSES : ∀ H, SqT K H aC (cCLASSES.map V.str)
def isInt (lo hi : Int) : PyData → Bool
  | .int i => decide (lo ≤ i) && decide (i ≤ hi)
  | _ => false
section
variable {P : Program} {w : World} {K : PySem.W.Frag} {mg : Str → Option Value} {base : Heap} {aC : Addr}
def spIsInteger (K : PySem.W.Frag) : Sp := fun vs H Q _ => ∃ (v : V) (d : PyData) (lo hi : Int), vs = [v, .int lo, .int hi] ∧ Dp K H v d ∧ Q (.bl (isInt lo hi d)) H
theorem scIsInteger : FnScope ["value", "least", "most"] ["value", "least", "most"] (defScope sIsInteger) := ⟨rfl, rfl, rfl, by decide +kernel, rfl, by decide +kernel, by decide +kernel⟩
theorem ok_is_integer {f : Addr} {fd : FuncData} (F : Fun K "is_integer" "is_integer" sIsInteger f fd) (T : TxtC mg) : FnOk P w K mg base CX0 1 f fd ["value", "least", "most"] (spIsInteger K) := by
  have sc := scIsInteger
  refine F.ok scIsInteger (fun vs H Q E h => ?_) (fun cdv A outer s H vs Q E hr h => ?_)
  · obtain ⟨v, d, lo, hi, rfl, _⟩ := h
    rfl
  · obtain ⟨v, d, lo, hi, rfl, hv, k⟩ := h
    refine ⟨_, (pss_one (ps_ret (pe_and (pe_callB call_isi (by rfl) T.b_isinstance (by decide +kernel) (pa_cons (pv 0) (pa_cons (pe_bltn (v := .ty "int") (by rfl) T.b_int PyProof.Rows.boot_int rfl) pa_nil))) (pe_and (pe_not (pe_callB call_isi (by rfl) T.b_isinstance (by decide +kernel) (pa_cons (pv 0) (pa_cons (pe_bltn (v := .ty "bool") (by rfl) T.b_bool PyProof.Rows.boot_bool rfl) pa_nil)))) (pe_one (pe_chain op_le op_le (pv 1) (pv 0) (pv 2))))))), ?_⟩
    have hv0 := hv
    cases hv with
    | non => exact ⟨_, rfl, _, _, _, _, false, rfl, .ty _, tyx_D hv0, kit_ty (show kitB "NoneType" "int" = some false by decide +kernel), _, rfl, iteF k⟩
    | str x => exact ⟨_, rfl, _, _, _, _, false, rfl, .ty _, tyx_D hv0, kit_ty (show kitB "str" "int" = some false by decide +kernel), _, rfl, iteF k⟩
    | lst hs ha => exact ⟨_, rfl, _, _, _, _, false, rfl, .ty _, tyx_D hv0, kit_ty (show kitB "list" "int" = some false by decide +kernel), _, rfl, iteF k⟩
    | tup hs ha => exact ⟨_, rfl, _, _, _, _, false, rfl, .ty _, tyx_D hv0, kit_ty (show kitB "tuple" "int" = some false by decide +kernel), _, rfl, iteF k⟩
    | bl b =>
      refine ⟨_, rfl, _, _, _, _, true, rfl, .ty _, tyx_D hv0, kit_ty (show kitB "bool" "int" = some true by decide +kernel), _, rfl, iteT ?_⟩
      exact ⟨_, rfl, _, _, _, _, true, rfl, .ty _, tyx_D hv0, kit_ty (show kitB "bool" "bool" = some true by decide +kernel), _, rfl, _, rfl, iteF k⟩
    | int i =>
      refine ⟨_, rfl, _, _, _, _, true, rfl, .ty _, tyx_D hv0, kit_ty (show kitB "int" "int" = some true by decide +kernel), _, rfl, iteT ?_⟩
      refine ⟨_, rfl, _, _, _, _, false, rfl, .ty _, tyx_D hv0, kit_ty (show kitB "int" "bool" = some false by decide +kernel), _, rfl, _, rfl, iteT ?_⟩
      refine ⟨_, rfl, _, rfl, _, _, rfl, rfl, _, rfl, ?_⟩
      have k' : Q (V.bl (decide (lo ≤ i) && decide (i ≤ hi))) H := k
      by_cases c : lo ≤ i
      · rw [decide_eq_true c, Bool.true_and] at k'
        exact iteP (decide_eq_true c) ⟨_, rfl, _, _, rfl, rfl, k'⟩
      · rw [decide_eq_false c, Bool.false_and] at k'
        exact iteN (by walk_at "dec") k'
/-! ### an entry -/
def isName : PyData → Bool
  | .str s => isSymbol s || s == "@root"
  | _ => false
def isKind : PyData → Bool
  | .str s => cCLASSES.any fun r => r == s
  | _ => false
def isEntry : PyData → Bool
  | .tuple [n, k, a, b, c] => isName n && (isKind k && (isInt 0 1000 a && (isInt 0 1000 b && isInt 0 1000 c)))
  | _ => false
def flatD : PyData → Bool
  | .none => true | .bool _ => true | .int _ => true | .str _ => true | _ => false
/-- what is asked of what may be an entry: names are no long texts, kinds are flat -/
def PreE : PyData → Prop
  | .tuple [n, k, _, _, _] => (∀ s, n = .str s → s.length ≤ 1000) ∧ flatD k = true
  | _ => True
theorem flat_of {K : PySem.W.Frag} {H : Hp} {v : V} {d : PyData} (h : Dp K H v d) (f : flatD d = true) : flatV v = true := by
  cases h <;> first | rfl | exact absurd f Bool.false_ne_true
theorem inV_kind {K : PySem.W.Frag} {H : Hp} {v : V} {d : PyData} (h : Dp K H v d) (f : flatD d = true) : inV v (cCLASSES.map V.str) = isKind d := by
  cases h <;> first | rfl | exact absurd f Bool.false_ne_true | exact inV_strs _ _
def spIsEntry (K : PySem.W.Frag) : Sp := fun vs H Q _ => ∃ (v : V) (d : PyData), vs = [v] ∧ Dp K H v d ∧ PreE d ∧ ∀ H', Same H H' → Q (.bl (isEntry d)) H'
theorem no_entry {ds : List PyData} (h : ¬ ds.length = 5) : isEntry (.tuple ds) = false := by
  match ds, h with
  | [], _ => rfl
  | [_], _ => rfl
  | [_, _], _ => rfl
  | [_, _, _], _ => rfl
  | [_, _, _, _], _ => rfl
  | [_, _, _, _, _], h => exact absurd rfl h
  | _ :: _ :: _ :: _ :: _ :: _ :: _, _ => rfl
theorem five {α : Type} {l : List α} (h : l.length = 5) : ∃ a b c d e, l = [a, b, c, d, e] := by
  match l, h with
  | [a, b, c, d, e], _ => exact ⟨a, b, c, d, e, rfl⟩
end
end Mg

set_option Elab.async false
set_option linter.all false
set_option maxRecDepth 100000
set_option maxHeartbeats 2000000
namespace Mg
open PySem L2
local macro_rules | `(tactic| walk_at "dec") => `(tactic| (first | (apply decide_eq_true; omega) | (simp only [Bool.not_eq_true', decide_eq_true_eq, decide_eq_false_iff_not, Bool.not_eq_true, Bool.not_eq_false', Decidable.not_not] <;> omega)))
theorem call_len_setk {X : Cx} : CallR X (.builtin "len") (fun xs H Q => ∃ p S n, xs = [.ref p] ∧ H p = some (SetK X.prog X.w p S n) ∧ Q (.int (n : Nat)) H) := by
  intro pins s σ H xs us Q I r h
  obtain ⟨p, S, n, rfl, hp, q⟩ := h
  obtain ⟨u, rfl, rx⟩ := vals1 r
  cases rx
  obtain ⟨o, es, ep, t, ho, hx, hd, g, hm, hb, hf, hn⟩ := setK_get I hp
  have small : (es.size : Int) < 2 ^ 63 := by
    have e : scanBound ≤ 1000000000 := by unfold scanBound; decide
    omega
  refine call_len_set ho hx hd hf small ⟨.int (n : Nat), H, I.tok _, ⟨_, by rw [hn]⟩, q⟩
structure TxtF (K : PySem.W.Frag) (mg : Str → Option Value) (aC : Addr) : Prop extends TxtE K mg aC where
  c_MOST_SYMBOLS : ∃ t, mg "MOST_SYMBOLS" = some (.int 60 t)
/-- an entry's name -/
def nameD : PyData → Str
  | .tuple (.str s :: _) => s
  | _ => ""
def areSymbols : PyData → Bool
  | .tuple ds => decide (1 ≤ ds.length) && decide (ds.length ≤ 60) && ds.all isEntry && decide (ds.map nameD).Nodup
  | _ => false
def PreS : PyData → Prop
  | .tuple ds => ∀ d ∈ ds, PreE d
  | _ => True
theorem entry_name {d : PyData} (h : isEntry d = true) : ∃ n k a b c, d = .tuple [.str n, k, a, b, c] := by
  unfold isEntry at h
  split at h
  · rename_i n k a b c
    rw [Bool.and_eq_true] at h
    obtain ⟨h1, _⟩ := h
    unfold isName at h1
    split at h1
    · exact ⟨_, _, _, _, _, rfl⟩
    · cases h1
  · cases h
section
variable {P : Program} {w : World} {K : PySem.W.Frag} {mg : Str → Option Value} {base : Heap} {aC : Addr}
def spAreSymbols (K : PySem.W.Frag) : Sp := fun vs H Q _ => ∃ (v : V) (d : PyData), vs = [v] ∧ Dp K H v d ∧ PreS d ∧ ∀ H', Same H H' → Q (.bl (areSymbols d)) H'
theorem take_snoc {α : Type} {l : List α} {i : Nat} {x : α} (h : l[i]? = some x) : l.take (i + 1) = l.take i ++ [x] := by
  rw [List.take_add_one, h]
  rfl
end
end Mg

set_option Elab.async false
set_option linter.all false
set_option maxRecDepth 100000
set_option maxHeartbeats 2000000
namespace Mg
open PySem L2
def cLIM : List (Int × Int) := [(0, 200), (1, 50), (0, 100), (0, 300), (0, 200), (0, 200), (0, 200), (1, 200)]
structure TxtL (K : PySem.W.Frag) (mg : Str → Option Value) (aL : Addr) : Prop extends TxtC mg where
  b_all : mg "all" = none
  b_zip : mg "zip" = none
  c_LENGTH_LIMITS : mg "LENGTH_LIMITS" = some (.ref aL)
  k_LIM : ∃ als : List Addr, als.length = 8 ∧ (∀ H, SqT K H aL (als.map V.ref)) ∧ ∀ (i : Nat) (a : Addr), als[i]? = some a → ∃ p : Int × Int, cLIM[i]? = some p ∧ ∀ H, SqT K H a [.int p.1, .int p.2]
def areLengths : PyData → Bool
  | .tuple ds => decide (ds.length = 8) && (List.zipWith (fun d (p : Int × Int) => isInt p.1 p.2 d) ds cLIM).all id
  | _ => false
section
variable {P : Program} {w : World} {K : PySem.W.Frag} {mg : Str → Option Value} {base : Heap} {aL : Addr}
def spAreLengths (K : PySem.W.Frag) : Sp := fun vs H Q _ => ∃ (v : V) (d : PyData), vs = [v] ∧ Dp K H v d ∧ ∀ H', Same H H' → Q (.bl (areLengths d)) H'
end
end Mg

set_option Elab.async false
set_option linter.all false
set_option maxRecDepth 100000
set_option maxHeartbeats 2000000
namespace Mg
open PySem L2
/-! ### scaled -/
def scN (n s : Int) : Int := if s = 2 then 7 * n / 10 else if s = 3 then n / 2 else n
section
variable {P : Program} {w : World} {K : PySem.W.Frag} {mg : Str → Option Value} {base : Heap}
def spScaled : Sp := fun vs H Q _ => ∃ n s : Int, vs = [.int n, .int s] ∧ Q (.int (scN n s)) H
end
/-! ### a font -/
structure Sym where
  nm : Str
  cl : Str
  wd : Int
  ht : Int
  dp : Int
def Sym.vs (s : Sym) : List V := [.str s.nm, .str s.cl, .int s.wd, .int s.ht, .int s.dp]
def Sym.d (s : Sym) : PyData := .tuple [.str s.nm, .str s.cl, .int s.wd, .int s.ht, .int s.dp]
def symsD (ss : List Sym) : PyData := .tuple (ss.map Sym.d)
def lensD (ls : List Int) : PyData := .tuple (ls.map .int)
theorem nSL : ¬ (("symbols" : Str) = "lengths") := by decide +kernel
theorem nSE : ¬ (("symbols" : Str) = "_entries") := by decide +kernel
theorem nLE : ¬ (("lengths" : Str) = "_entries") := by decide +kernel
def ff (vs vl : V) (e : Addr) : List (Str × V) := putF "_entries" (.ref e) (putF "lengths" vl (putF "symbols" vs []))
theorem ff_sym (vs vl : V) (e : Addr) : (ff vs vl e).lookup ("symbols" : Str) = some vs := by
  unfold ff
  rw [lookup_putF, if_neg nSE, lookup_putF, if_neg nSL, lookup_putF, if_pos rfl]
theorem ff_len (vs vl : V) (e : Addr) : (ff vs vl e).lookup ("lengths" : Str) = some vl := by
  unfold ff
  rw [lookup_putF, if_neg nLE, lookup_putF, if_pos rfl]
theorem ff_ent (vs vl : V) (e : Addr) : (ff vs vl e).lookup ("_entries" : Str) = some (.ref e) := by
  unfold ff
  rw [lookup_putF, if_pos rfl]
theorem ff_no (vs vl : V) (e : Addr) {m : Str} (h1 : ¬ m = "symbols") (h2 : ¬ m = "lengths") (h3 : ¬ m = "_entries") : (ff vs vl e).lookup m = none := by
  unfold ff
  rw [lookup_putF, if_neg h3, lookup_putF, if_neg h2, lookup_putF, if_neg h1]
  rfl
def look (ss : List Sym) (x : Str) : Option Sym := ss.find? fun s => s.nm == x
/-- a Font of these symbols and lengths stands at p -/
structure FontAt (K : PySem.W.Frag) (C : Addr) (H : Hp) (p : Addr) (va vl : V) (ss : List Sym) (ls : List Int) : Prop where
  good : areSymbols (symsD ss) = true ∧ areLengths (lensD ls) = true
  syms : Tp K H va (symsD ss)
  lens : Tp K H vl (lensD ls)
  ob : ∃ (dx e : Addr) (kvs : List (Key × V)), H p = some (.ins C dx (ff va vl e)) ∧ H e = some (.dK kvs) ∧
    (∀ x s, look ss x = some s → ∃ t, valV kvs (Sum.inr x : Key) = some (.ref t) ∧ SqT K H t s.vs) ∧ ∀ x, look ss x = none → valV kvs (Sum.inr x : Key) = none
section
variable {K : PySem.W.Frag} {C : Addr} {H H' : Hp} {p pl : Addr} {va vl : V} {ss : List Sym} {ls : List Int} {xs : List V}
theorem FontAt.same (F : FontAt K C H p va vl ss ls) (s : Same H H') : FontAt K C H' p va vl ss ls := by
  obtain ⟨g, a, b, dx, e, kvs, h1, h2, h3, h4⟩ := F
  refine ⟨g, a.stay (TupK.of s), b.stay (TupK.of s), dx, e, kvs, s _ _ h1, s _ _ h2, fun x y hx => ?_, h4⟩
  obtain ⟨t, q1, q2⟩ := h3 x y hx
  exact ⟨t, q1, same_sqt s q2⟩
theorem FontAt.keep (F : FontAt K C H p va vl ss ls) (s : KeepB pl H H') (hp : H pl = some (.lst xs)) : FontAt K C H' p va vl ss ls := by
  obtain ⟨g, a, b, dx, e, kvs, h1, h2, h3, h4⟩ := F
  have tk := TupK.keep s hp
  refine ⟨g, a.stay tk, b.stay tk, dx, e, kvs, s _ _ h1 (ne_of h1 hp (by intro z; cases z)), s _ _ h2 (ne_of h2 hp (by intro z; cases z)), fun x y hx => ?_, h4⟩
  obtain ⟨t, q1, q2⟩ := h3 x y hx
  exact ⟨t, q1, tk.seq q2⟩
end
/-- data that are good symbols are some -/
theorem syms_of : ∀ {ds : List PyData}, ds.all isEntry = true → ∃ ss : List Sym, ds = ss.map Sym.d
  | [], _ => ⟨[], rfl⟩
  | d :: ds, h => by
    rw [List.all_cons, Bool.and_eq_true] at h
    obtain ⟨ss, e⟩ := syms_of h.2
    obtain ⟨n, k, a, b, c, rfl⟩ := entry_name h.1
    have q : (isName (.str n) && (isKind k && (isInt 0 1000 a && (isInt 0 1000 b && isInt 0 1000 c)))) = true := h.1
    simp only [Bool.and_eq_true] at q
    obtain ⟨_, q1, q2, q3, q4⟩ := q
    have ik : ∀ {d : PyData}, isKind d = true → ∃ s, d = .str s := fun {d} z => by
      cases d <;> first | exact ⟨_, rfl⟩ | cases z
    have ii : ∀ {d : PyData}, isInt 0 1000 d = true → ∃ s, d = .int s := fun {d} z => by
      cases d <;> first | exact ⟨_, rfl⟩ | cases z
    obtain ⟨k, rfl⟩ := ik q1
    obtain ⟨a, rfl⟩ := ii q2
    obtain ⟨b, rfl⟩ := ii q3
    obtain ⟨c, rfl⟩ := ii q4
    exact ⟨⟨n, k, a, b, c⟩ :: ss, by rw [e]; rfl⟩
theorem lens_of {d : PyData} (h : areLengths d = true) : ∃ ls : List Int, d = lensD ls ∧ ls.length = 8 := by
  unfold areLengths at h
  split at h
  · rename_i ds
    rw [Bool.and_eq_true, decide_eq_true_eq] at h
    obtain ⟨h1, h2⟩ := h
    have all : ∀ (ps : List (Int × Int)) (ds : List PyData), ps.length = ds.length → (List.zipWith (fun d (p : Int × Int) => isInt p.1 p.2 d) ds ps).all id = true → ∃ ls : List Int, ds = ls.map .int := by
      intro ps
      induction ps with
      | nil =>
        intro ds hl _
        cases ds with
        | nil => exact ⟨[], rfl⟩
        | cons _ _ => simp at hl
      | cons p ps ih =>
        intro ds hl hz
        cases ds with
        | nil => simp at hl
        | cons d ds =>
          rw [List.zipWith_cons_cons, List.all_cons, Bool.and_eq_true] at hz
          obtain ⟨ls, e⟩ := ih ds (by simpa using hl) hz.2
          have hd : isInt p.1 p.2 d = true := hz.1
          cases d with
          | int i => exact ⟨i :: ls, by rw [e]; rfl⟩
          | none => cases hd
          | bool _ => cases hd
          | str _ => cases hd
          | list _ => cases hd
          | tuple _ => cases hd
          | dict _ => cases hd
    obtain ⟨ls, e⟩ := all cLIM ds (by rw [h1]; rfl) h2
    exact ⟨ls, by rw [e]; rfl, by rw [e, List.length_map] at h1; exact h1⟩
  · cases h
theorem tp_sym {K : PySem.W.Frag} {H : Hp} {v : V} {s : Sym} (h : Dp K H v s.d) : ∃ t, v = .ref t ∧ SqT K H t s.vs := by
  cases h with
  | @tup a xs _ hs ha =>
    cases ha with
    | cons d1 ha => cases ha with
    | cons d2 ha => cases ha with
    | cons d3 ha => cases ha with
    | cons d4 ha => cases ha with
    | cons d5 ha =>
      cases ha
      cases d1
      cases d2
      cases d3
      cases d4
      cases d5
      exact ⟨a, rfl, hs⟩
theorem tp_ints {K : PySem.W.Frag} {H : Hp} {v : V} {ls : List Int} (h : Dp K H v (lensD ls)) : ∃ a, v = .ref a ∧ SqT K H a (ls.map V.int) := by
  have key : ∀ {ls : List Int} {xs : List V}, DpAll K H xs (ls.map .int) → xs = ls.map V.int := by
    intro ls
    induction ls with
    | nil =>
      intro xs h
      cases h
      rfl
    | cons i ls ih =>
      intro xs h
      cases h with
      | cons d r =>
        cases d
        rw [ih r]
        rfl
  cases h with
  | @tup a xs _ hs ha =>
    rw [key ha] at hs
    exact ⟨a, rfl, hs⟩
theorem ints_tp {K : PySem.W.Frag} {H : Hp} {a : Addr} {ls : List Int} (h : SqT K H a (ls.map V.int)) : Tp K H (.ref a) (lensD ls) := by
  refine .tup h (by rw [List.length_map, List.length_map]) fun i x d hx hd => ?_
  rw [List.getElem?_map] at hx hd
  cases e : ls[i]? with
  | none => rw [e] at hx; cases hx
  | some z =>
    rw [e] at hx hd
    cases Option.some.inj hx
    cases Option.some.inj hd
    exact .int z
theorem sym_tp {K : PySem.W.Frag} {H : Hp} {t : Addr} {s : Sym} (h : SqT K H t s.vs) : Tp K H (.ref t) s.d := by
  refine .tup h rfl fun i x d hx hd => ?_
  match i with
  | 0 => cases Option.some.inj hx; cases Option.some.inj hd; exact .str _
  | 1 => cases Option.some.inj hx; cases Option.some.inj hd; exact .str _
  | 2 => cases Option.some.inj hx; cases Option.some.inj hd; exact .int _
  | 3 => cases Option.some.inj hx; cases Option.some.inj hd; exact .int _
  | 4 => cases Option.some.inj hx; cases Option.some.inj hd; exact .int _
  | n + 5 => cases hx
end Mg

set_option Elab.async false
set_option linter.all false
set_option maxRecDepth 100000
set_option maxHeartbeats 2000000
namespace Mg
open PySem L2
structure ExB (K : PySem.W.Frag) (mg : Str → Option Value) (x : Str) (C : Addr) : Prop where
  g : mg x = some (.ref C)
  x : PySem.W.excIn K C [.type "ValueError", .type "Exception", .type "BaseException", .type "object"] "ValueError.__new__" = true
  k : PySem.W.keepIn K (.ref C) = true
  b : PySem.W.subIn K (.ref C) (.type "BaseException") = some true
  t : PySem.W.typeIn K (.ref C) = some (.type "type")
end Mg

set_option Elab.async false
set_option linter.all false
set_option maxRecDepth 100000
set_option maxHeartbeats 2000000
namespace Mg
open PySem L2
/-- an error class without an own __init__, over ValueError by own classes -/
structure TxtO (K : PySem.W.Frag) (C : Addr) : Prop where
  cl : Cls K C
  nS : NoAttr K C "symbols"
  nL : NoAttr K C "lengths"
  nE : NoAttr K C "_entries"
section
variable {P : Program} {w : World} {K : PySem.W.Frag} {mg : Str → Option Value} {base : Heap} {CF CB : Addr}
def spFInit (K : PySem.W.Frag) (CF CB : Addr) : Sp := fun vs H Q E => ∃ (p dx : Addr) (va vl : V) (d l : PyData), vs = [.ref p, va, vl] ∧ H p = some (.ins CF dx []) ∧ Dp K H va d ∧ Dp K H vl l ∧ PreS d ∧
  ((areSymbols d && areLengths l) = true → ∀ H' ss ls, d = symsD ss → l = lensD ls → KeepB p H H' → FontAt K CF H' p va vl ss ls → (∃ e dx, H e = none ∧ H' p = some (.ins CF dx (ff va vl e))) → Q .non H') ∧ ((areSymbols d && areLengths l) = false → ∀ H', Same H H' → E (.ref CB) none H')
theorem ff_few (vs vl : V) (e : Addr) : ∃ n, n < 1000 ∧ (putF "lengths" vl (putF "symbols" vs [])).length ≤ n := ⟨2, by decide, Nat.le_trans (length_putF _ _ _) (Nat.succ_le_succ (Nat.le_trans (length_putF _ _ _) (Nat.le_refl _)))⟩
end
end Mg

set_option Elab.async false
set_option linter.all false
set_option maxRecDepth 100000
set_option maxHeartbeats 4000000
namespace Mg
open PySem PySem.Spec PyProof.Rows L2
theorem relO_name {v : V} {v' : Value} (r : RelV v v') (f : Str) : RelO (List.lookup f [(("name" : Str), v)]) (if f = "name" then some v' else none) := by
  by_cases hw : f = "name"
  · subst hw
    rw [if_pos rfl]
    have q : List.lookup ("name" : Str) [(("name" : Str), v)] = some v := by simp [List.lookup]
    rw [q]
    exact r
  · rw [if_neg hw]
    have qw : (f == ("name" : Str)) = false := by simpa using hw
    have q2 : List.lookup f [(("name" : Str), v)] = none := by simp [List.lookup, qw]
    rw [q2]
    trivial
theorem pmk_u {X : Cx} {nm qi pre : Str} {C fI cc : Addr} {ta : TE} {p pa pos : Pos} {k : Nat} (T : PySem.MgU.UTxt X.prog X.K X.mg nm qi pre C fI cc) (hpre : pre.length ≤ 1000) (hr : Room k X.A) (ha : PE X (.Name "name" pa) ta) (hg : Gl X nm) (hd : (nm == ("__debug__" : Str)) = false) (hk : 1 ≤ k) :
    PMk X (.Call (.Name nm p) [.Name "name" pa] [] pos) (fun σ H Q => tCons ta tNil σ H fun vs H1 => ∃ z : Str, vs = [.str z] ∧ z.length ≤ 1000 ∧ ∀ d, H1 d = none → Q (.ref C) (some d) (upd H1 d (.xd [("name", .str z)]))) := by
  intro pins s σ H Q I h
  refine wpAny_Call_Name_kw (ld_glob I hg T.gC ?_ hd)
  refine PySem.W.callWith_K (h₀ := X.base) I.ok.mod.kin T.kC (thn ((pa_cons ha pa_nil).run pos pins s σ H (fun vs H1 => ∃ z : Str, vs = [.str z] ∧ z.length ≤ 1000 ∧ ∀ d, H1 d = none → Q (.ref C) (some d) (upd H1 d (.xd [("name", .str z)]))) I h) fun us s1 hh => ?_) (by rfl) (by rfl)
  · obtain ⟨vs, H1, I1, r1, z, ev, hz, q1⟩ := hh
    subst ev
    refine ⟨I1.kIn, ?_⟩
    cases r1 with
    | cons rv rn =>
      rename_i v' us'
      cases rn
      show wpAny _ _ (call (.ref C) [v']) _ _ _
      have rv0 := rv
      obtain ⟨ty, rfl⟩ := rv
      have hlim := I1.nolimit
      have hG : s1.heap.Ns mainGlobals X.mg := by have q := I1.mod.glob.keeps I1.bk; exact q
      have hB : ∃ mb, s1.heap.Ns builtinsNs mb ∧ ∀ x : Str, x ≠ "__name__" → mb x = bootBuiltins x := by
        obtain ⟨mb, h1, h2⟩ := I1.mod.blt
        exact ⟨mb, h1.keeps I1.bk, h2⟩
      have e0 : (Str.empty ++ pre).length = pre.length := by rw [PySem.strLen_append]; simp [Str.length, Str.empty]
      have hs := sizeLine_eq
      obtain ⟨hp, g, dr, tk, os⟩ := s1
      refine wpAny_call (PySem.MgU.u_made T I1.kIn hlim (by have := hr.dp; omega) hG hB (by rw [e0]; omega) (by rw [PySem.strLen_append, e0]; omega) (by omega) fun h' tk' e d M => ?_)
      show MkP X pins σ Q (.ref e) ⟨h', g, dr, tk', os⟩
      obtain ⟨oe, fv, hoe, hc, hd', hdat, h1⟩ := M.obj
      have hns := M.ns
      obtain ⟨G', g1, g2⟩ := restrict h' fun b => decide (b ≠ e)
      have gk : ∀ b, b ≠ e → G'.get? b = h'.get? b := fun b hb => g1 b (decide_eq_true hb)
      have ge : G'.get? e = none := g2 e (by simp)
      have old : ∀ b o, hp.get? b = some o → G'.get? b = some o := fun b o q => (gk b (Nat.ne_of_lt (Nat.lt_of_lt_of_le (Heap.lt_size q) M.new))).trans (M.keep b o q)
      have ob : ObjOk X.prog X.w (upd H1 d (.xd [(("name" : Str), .str z)])) G' d (.xd [(("name" : Str), .str z)]) :=
        ⟨_, hns.at (fun o q => (gk d M.dne).trans q), fun f => relO_name rv0 f⟩
      have J : Inv X pins σ (upd H1 d (.xd [(("name" : Str), .str z)])) ⟨G', g, dr, tk', os⟩ := I1.laid (t' := tk') old M.dbig ob
      refine ⟨e, oe, fv, ⟨G', g, dr, tk', os⟩, _, .ref C, some d, rfl, J, fun b o q => ?_, ge, hoe, ⟨hc, hd'⟩, hdat, h1, ?_, rfl, I1.bare, raises_own T.exC T.tyC, q1 d (I1.hok.fresh M.dbig)⟩
      · by_cases hb : b = e
        · have q' : G'.get? b = some o := q
          rw [hb, ge] at q'; cases q'
        · exact (gk b hb).symm.trans q
      · rw [upd_ne (Ne.symm M.dne)]
        exact I1.hok.fresh M.new
/-- UnknownSymbol(name) is made: its own dict has the name -/
def MkU (P : Program) (K : PySem.W.Frag) (mg : Str → Option Value) (CU : Addr) : Prop := ∀ {X : Cx} {ta : TE} {p pa pos : Pos}, X.prog = P → X.K = K → X.mg = mg → Room 2 X.A → PE X (.Name "name" pa) ta → Gl X "UnknownSymbol" →
  PMk X (.Call (.Name "UnknownSymbol" p) [.Name "name" pa] [] pos) (fun σ H Q => tCons ta tNil σ H fun vs H1 => ∃ z : Str, vs = [.str z] ∧ z.length ≤ 1000 ∧ ∀ d, H1 d = none → Q (.ref CU) (some d) (upd H1 d (.xd [("name", .str z)])))
theorem mkU {P : Program} {K : PySem.W.Frag} {mg : Str → Option Value} {qi pre : Str} {C fI cc : Addr} (T : PySem.MgU.UTxt P K mg "UnknownSymbol" qi pre C fI cc) (hpre : pre.length ≤ 1000) : MkU P K mg C := by
  intro X ta p pa pos hP hK hm hr ha hg
  subst hP
  subst hK
  subst hm
  exact pmk_u T hpre hr ha hg (by decide) (by decide)
end Mg

set_option Elab.async false
set_option linter.all false
set_option maxRecDepth 100000
set_option maxHeartbeats 2000000
namespace Mg
open PySem L2
structure CalM (P : Program) (w : World) (K : PySem.W.Frag) (mg : Str → Option Value) (base : Heap) (CX : CXT) (k : Nat) (C : Addr) (m : Str) (ps : List Str) (sp : Sp) : Prop where
  ex : ∃ (f : Addr) (fd : FuncData), FnOk P w K mg base CX k f fd ps sp ∧ Meth K C m f ∧ Binds K fd ps []
section
variable {X : Cx} {CX : CXT} {k : Nat} {C : Addr} {ps : List Str} {sp : Sp} {E : XK} {m : Str} {apos pos : Pos} {o e : Expr} {es : List Expr} {t : TA} {ta : TE}
theorem pe_calm {pl : Sem Bool} (he : PE X o ta) (cl : Cls X.K C) (c : CalM X.prog X.w X.K X.mg X.base CX k C m ps sp) (hr : Room k X.A) (hx : Passes CX X E) (ha : PA X (e :: es) t)
    (h1 : starEach (e :: es) X.env = (false, eval e X.env) :: starEach es X.env := by rfl) (h2 : (backTo pos (starEach es X.env)).any (·.1) = false := by rfl)
    (h3 : eval (.Call (.Attribute o m apos) (e :: es) [] pos) X.env = (do let ov ← eval o X.env; standAt apos.atName; let (f, first) ← holding [ov] (getMethod ov m pl); callWith pos f first (backTo pos (starEach (e :: es) X.env)) (backToKw pos (keywordEach [] X.env))) := by rfl) :
    PE X (.Call (.Attribute o m apos) (e :: es) [] pos) (tMeth C m sp [] E ta t) := by
  obtain ⟨f, fd, F, hm, hb⟩ := c.ex
  exact pe_meth (pl := pl) he cl hm F hr hb .nil hx ha h1 h2 h3
theorem pe_calm0 {pl : Sem Bool} (he : PE X o ta) (cl : Cls X.K C) (c : CalM X.prog X.w X.K X.mg X.base CX k C m ps sp) (hr : Room k X.A) (hx : Passes CX X E)
    (h3 : eval (.Call (.Attribute o m apos) [] [] pos) X.env = (do let ov ← eval o X.env; standAt apos.atName; let (f, first) ← holding [ov] (getMethod ov m pl); callWith pos f first (backTo pos (starEach [] X.env)) (backToKw pos (keywordEach [] X.env))) := by rfl) :
    PE X (.Call (.Attribute o m apos) [] [] pos) (tMeth C m sp [] E ta tNil) := by
  obtain ⟨f, fd, F, hm, hb⟩ := c.ex
  exact pe_meth0 (pl := pl) he cl hm F hr hb .nil hx h3
end
theorem passX {P : Program} {w : World} {K : PySem.W.Frag} {mg : Str → Option Value} {base : Heap} {N : List Str} {qual : Str} {sc : Scope} {f : Addr} {cdv : Value} {A : Around} {outer : List Env} {s : Shared} {H : Hp} {E : XK} :
    Passes (L2.CX P w) (cxOf (L2.CX P w) P w K mg base N qual sc f cdv A outer s H E) E := passes_call (takes_of rfl rfl rfl rfl) fun _ _ _ _ h => h
end Mg

set_option Elab.async false
set_option linter.all false
set_option maxRecDepth 100000
set_option maxHeartbeats 2000000
namespace Mg
open PySem L2
section
variable {P : Program} {w : World} {K : PySem.W.Frag} {mg : Str → Option Value} {base : Heap} {CF CU : Addr}
/-! ### _entry -/
def spEntry (K : PySem.W.Frag) (CF CU : Addr) : Sp := fun vs H Q E => ∃ (p : Addr) (x : Str) (va vl : V) (ss : List Sym) (ls : List Int), vs = [.ref p, .str x] ∧ x.length ≤ 1000 ∧ FontAt K CF H p va vl ss ls ∧
  (∀ s t, look ss x = some s → SqT K H t s.vs → Q (.ref t) H) ∧ (look ss x = none → ∀ d, H d = none → E (.ref CU) (some d) (upd H d (.xd [("name", .str x)])))
/-! ### class_of -/
def spClassOf (K : PySem.W.Frag) (CF CU : Addr) : Sp := fun vs H Q E => ∃ (p : Addr) (x : Str) (va vl : V) (ss : List Sym) (ls : List Int), vs = [.ref p, .str x] ∧ x.length ≤ 1000 ∧ FontAt K CF H p va vl ss ls ∧
  (∀ s, look ss x = some s → Q (.str s.cl) H) ∧ (look ss x = none → ∀ d, H d = none → E (.ref CU) (some d) (upd H d (.xd [("name", .str x)])))
theorem no_entry_name (va vl : V) (e : Addr) : (ff va vl e).lookup ("_entry" : Str) = none := ff_no va vl e (by decide +kernel) (by decide +kernel) (by decide +kernel)
theorem no_metrics_name (va vl : V) (e : Addr) : (ff va vl e).lookup ("metrics" : Str) = none := ff_no va vl e (by decide +kernel) (by decide +kernel) (by decide +kernel)
end
end Mg

set_option Elab.async false
set_option linter.all false
set_option maxRecDepth 100000
set_option maxHeartbeats 4000000
namespace Mg
open PySem L2
def nms : List Str := ["x", "a", "2", "+", "=", "(", ")", ",", "@sum", "@alpha", "-", "!"]
section
variable {P : Program} {w : World} {K : PySem.W.Frag} {mg : Str → Option Value} {base : Heap}
def spNames : Sp := fun vs H Q _ => vs = [] ∧ ∀ l, H l = none → Q (.ref l) (upd H l (.lst (nms.map V.str)))
theorem Stream.new {H H' : Hp} {st pd pl : Addr} (S : Stream H st pd pl) (s : Same H H') : Stream H' st pd pl := by
  obtain ⟨n1, n2, ds, k, h1, h2, h3, r⟩ := S
  exact ⟨n1, n2, ds, k, s _ _ h1, s _ _ h2, s _ _ h3, r⟩
theorem Stream.pl {H : Hp} {st pd pl : Addr} (S : Stream H st pd pl) : ∃ k : Int, H pl = some (.lst [.int k]) := by
  obtain ⟨n1, n2, ds, k, h1, h2, h3, r⟩ := S
  exact ⟨k, h3⟩
theorem Stream.at {H : Hp} {st pd pl : Addr} (S : Stream H st pd pl) : ∃ o, H st = some o := by
  obtain ⟨n1, n2, ds, k, h1, h2, h3, r⟩ := S
  exact ⟨_, h1⟩
end
end Mg

set_option Elab.async false
set_option linter.all false
set_option maxRecDepth 100000
set_option maxHeartbeats 4000000
namespace Mg
open PySem L2
def nmsR : List Str := nms ++ [("@root" : Str)]
def kvKind : List (Key × V) := mergeK [] [(Sum.inr ("+" : Str), V.str "bin"), (Sum.inr ("-" : Str), V.str "bin"), (Sum.inr ("=" : Str), V.str "rel"), (Sum.inr ("(" : Str), V.str "open"), (Sum.inr (")" : Str), V.str "close"), (Sum.inr ("," : Str), V.str "punct"), (Sum.inr ("@sum" : Str), V.str "op")]
def kindOf (x : Str) : Str := if x = "+" then "bin" else if x = "-" then "bin" else if x = "=" then "rel" else if x = "(" then "open" else if x = ")" then "close" else if x = "," then "punct" else if x = "@sum" then "op" else "ord"
theorem kv_kind : ∀ x ∈ nmsR, (valV kvKind (Sum.inr x : Key)).getD (V.str "ord") = V.str (kindOf x) := by decide +kernel
/-- a drawn font's symbols -/
def Sym.ok (s : Sym) : Prop := s.cl = kindOf s.nm ∧ 0 ≤ s.wd ∧ s.wd ≤ 33 ∧ 0 ≤ s.ht ∧ s.ht ≤ 33 ∧ 0 ≤ s.dp ∧ s.dp ≤ 33
def LensOk (ls : List Int) : Prop := ∃ a b c d e f g h : Int, ls = [a, b, c, d, e, f, g, h] ∧ (0 ≤ a ∧ a ≤ 8) ∧ (1 ≤ b ∧ b ≤ 4) ∧ (0 ≤ c ∧ c ≤ 5) ∧ (0 ≤ d ∧ d ≤ 14) ∧ (0 ≤ e ∧ e ≤ 4) ∧ (0 ≤ f ∧ f ≤ 7) ∧ (0 ≤ g ∧ g ≤ 11) ∧ 1 ≤ h ∧ h ≤ 9
section
variable {P : Program} {w : World} {K : PySem.W.Frag} {mg : Str → Option Value} {base : Heap}
/-- three sizes drawn -/
def spLFont (K : PySem.W.Frag) : Sp := fun vs H Q _ => ∃ (st pd pl : Addr), vs = [.ref st] ∧ Stream H st pd pl ∧ ∀ (f a b : Addr) (ss : List Sym) (ls : List Int) (H' : Hp), KeepB pl H H' → Stream H' st pd pl → H' f = some (.tup [.ref a, .ref b]) →
  SqT K H' b (ls.map V.int) → Tp K H' (.ref a) (symsD ss) → ss.map (·.nm) = nmsR → (∀ s ∈ ss, s.ok) → LensOk ls → Q (.ref f) H'
end
end Mg

set_option Elab.async false
set_option linter.all false
set_option maxRecDepth 100000
set_option maxHeartbeats 4000000
namespace Mg
open PySem L2
/-! fonts drawn, and fonts made (out of k10's texts) -/
structure MkF (P : Program) (w : World) (K : PySem.W.Frag) (mg : Str → Option Value) (base : Heap) (CF CB : Addr) : Prop where
  ex : ∃ (f : Addr) (fd : FuncData), FnOk P w K mg base (L2.CX P w) 5 f fd ["self", "symbols", "lengths"] (spFInit K CF CB) ∧ Mk K CF f ∧ Binds K fd ["self", "symbols", "lengths"] []
abbrev E00 : XK := fun _ _ _ => False
section
variable {X : Cx} {CF CB : Addr} {p pos : Pos} {e : Expr} {es : List Expr} {t : TA}
theorem passN : Passes (L2.CX X.prog X.w) X E00 := passes_call takes0 fun _ _ _ _ h => h
theorem pe_mkF (M : MkF X.prog X.w X.K X.mg X.base CF CB) (hr : Room 6 X.A) (hg : Gl X "Font") (hm : X.mg "Font" = some (.ref CF)) (ha : PA X (e :: es) t)
    (he : starEach (e :: es) X.env = (false, eval e X.env) :: starEach es X.env := by rfl) (hpl : (backTo pos (starEach es X.env)).any (·.1) = false := by rfl) :
    PE X (.Call (.Name "Font" p) (e :: es) [] pos) (tMake CF (spFInit X.K CF CB) [] E00 t) := by
  obtain ⟨f, fd, F, mk, hb⟩ := M.ex
  exact pe_make mk F hr hg hm hb .nil passN ha (by decide) he hpl
end
structure Drawn (ss : List Sym) (ls : List Int) : Prop where
  nm : ss.map (·.nm) = nmsR
  ok : ∀ s ∈ ss, s.ok
  lens : LensOk ls
/-! the drawn symbols and lengths are a font's -/
theorem good_entry {n c : Str} {a b d : Int} (hn : isName (.str n) = true) (hc : isKind (.str c) = true) (ha : 0 ≤ a ∧ a ≤ 1000) (hb : 0 ≤ b ∧ b ≤ 1000) (hd : 0 ≤ d ∧ d ≤ 1000) : isEntry (Sym.d ⟨n, c, a, b, d⟩) = true := by
  simp [Sym.d, isEntry, isInt, hn, hc, ha.1, ha.2, hb.1, hb.2, hd.1, hd.2]
theorem nms_name : ∀ n ∈ nmsR, isName (.str n) = true ∧ isKind (.str (kindOf n)) = true ∧ n.length ≤ 1000 ∧ PyData.canLay0 (.str n) = true ∧ PyData.canLay0 (.str (kindOf n)) = true := by decide +kernel
theorem lay_syms : ∀ {ss : List Sym}, (∀ s ∈ ss, PyData.canLay0 (.str s.nm) = true ∧ PyData.canLay0 (.str s.cl) = true) → PyData.canLayAll0 (ss.map Sym.d) = true
  | [], _ => rfl
  | s :: ss, h => by
    obtain ⟨h1, h2⟩ := h s List.mem_cons_self
    have ih := lay_syms (ss := ss) fun u hu => h u (List.mem_cons_of_mem _ hu)
    show (PyData.canLay0 s.d && PyData.canLayAll0 (ss.map Sym.d)) = true
    rw [ih, Bool.and_true]
    show (PyData.canLay0 (.str s.nm) && (PyData.canLay0 (.str s.cl) && (true && (true && (true && true))))) = true
    rw [h1, h2]
    rfl
theorem dep_syms : ∀ (ss : List Sym), PyData.depthAll (ss.map Sym.d) ≤ 1
  | [] => Nat.zero_le _
  | s :: ss => by
    show max (PyData.depth s.d) (PyData.depthAll (ss.map Sym.d)) ≤ 1
    exact Nat.max_le.mpr ⟨Nat.le_refl 1, dep_syms ss⟩
theorem dep_ints : ∀ (ls : List Int), PyData.depthAll (ls.map PyData.int) ≤ 0
  | [] => Nat.zero_le _
  | s :: ss => by
    show max 0 (PyData.depthAll (ss.map PyData.int)) ≤ 0
    exact Nat.max_le.mpr ⟨Nat.le_refl 0, dep_ints ss⟩
theorem lay_ints : ∀ (ls : List Int), PyData.canLayAll0 (ls.map PyData.int) = true
  | [] => rfl
  | s :: ss => by
    show (true && PyData.canLayAll0 (ss.map PyData.int)) = true
    rw [lay_ints ss]
    rfl
theorem sh_syms {ss : List Sym} (h : ∀ s ∈ ss, PyData.canLay0 (.str s.nm) = true ∧ PyData.canLay0 (.str s.cl) = true) : SeqAt.shaped (symsD ss) = true := by
  have h1 : PyData.canLay0 (symsD ss) = true := lay_syms h
  have h2 : PyData.depth (symsD ss) ≤ 64 := Nat.le_trans (Nat.succ_le_succ (dep_syms ss)) (by decide)
  unfold SeqAt.shaped
  rw [h1, decide_eq_true h2]
  rfl
theorem sh_lens (ls : List Int) : SeqAt.shaped (lensD ls) = true := by
  have h1 : PyData.canLay0 (lensD ls) = true := lay_ints ls
  have h2 : PyData.depth (lensD ls) ≤ 64 := Nat.le_trans (Nat.succ_le_succ (dep_ints ls)) (by decide)
  unfold SeqAt.shaped
  rw [h1, decide_eq_true h2]
  rfl
theorem good_syms {ss : List Sym} (h1 : 1 ≤ ss.length) (h2 : ss.length ≤ 60) (h3 : (ss.map (·.nm)).Nodup) (h4 : ∀ s ∈ ss, isEntry s.d = true) : areSymbols (symsD ss) = true := by
  have e1 : (ss.map Sym.d).map nameD = ss.map (·.nm) := by
    rw [List.map_map]
    rfl
  show (decide (1 ≤ (ss.map Sym.d).length) && decide ((ss.map Sym.d).length ≤ 60) && (ss.map Sym.d).all isEntry && decide (((ss.map Sym.d).map nameD).Nodup)) = true
  rw [List.length_map, e1, decide_eq_true h1, decide_eq_true h2, decide_eq_true h3]
  have e2 : (ss.map Sym.d).all isEntry = true := by
    rw [List.all_eq_true]
    intro d hd
    obtain ⟨s, hs, rfl⟩ := List.mem_map.mp hd
    exact h4 s hs
  rw [e2]
  rfl
section
variable {ss : List Sym} {ls : List Int}
theorem Drawn.mem (D : Drawn ss ls) {s : Sym} (h : s ∈ ss) : s.nm ∈ nmsR := by
  rw [← D.nm]
  exact List.mem_map_of_mem h
theorem Drawn.entry (D : Drawn ss ls) {s : Sym} (h : s ∈ ss) : isEntry s.d = true := by
  obtain ⟨n, c, a, b, d⟩ := s
  obtain ⟨e, a0, a1, b0, b1, d0, d1⟩ := D.ok _ h
  obtain ⟨q1, q2, _⟩ := nms_name _ (D.mem h)
  dsimp only at e q1 q2 a0 a1 b0 b1 d0 d1
  subst e
  exact good_entry q1 q2 ⟨a0, by omega⟩ ⟨b0, by omega⟩ ⟨d0, by omega⟩
theorem Drawn.lay (D : Drawn ss ls) : ∀ s ∈ ss, PyData.canLay0 (.str s.nm) = true ∧ PyData.canLay0 (.str s.cl) = true := fun s h => by
  obtain ⟨_, _, _, q3, q4⟩ := nms_name _ (D.mem h)
  rw [(D.ok s h).1]
  exact ⟨q3, q4⟩
theorem Drawn.len (D : Drawn ss ls) : ss.length = 13 := by
  have := congrArg List.length D.nm
  rw [List.length_map] at this
  exact this
theorem Drawn.good (D : Drawn ss ls) : areSymbols (symsD ss) = true := good_syms (by rw [D.len]; decide) (by rw [D.len]; decide) (by rw [D.nm]; decide +kernel) fun s h => D.entry h
theorem Drawn.good12 (D : Drawn ss ls) : areSymbols (symsD (ss.take 12)) = true := by
  refine good_syms (by rw [List.length_take, D.len]; decide) (by rw [List.length_take, D.len]; decide) ?_ fun s h => D.entry (List.mem_of_mem_take h)
  rw [List.map_take, D.nm]
  decide +kernel
theorem Drawn.pre (D : Drawn ss ls) : ∀ s ∈ ss, s.nm.length ≤ 1000 := fun s h => (nms_name _ (D.mem h)).2.2.1
theorem pre_syms {ss : List Sym} (h : ∀ s ∈ ss, s.nm.length ≤ 1000) : PreS (symsD ss) := fun d hd => by
  obtain ⟨s, hs, rfl⟩ := List.mem_map.mp hd
  refine ⟨fun x e => ?_, rfl⟩
  cases e
  exact h s hs
theorem Drawn.goodL (D : Drawn ss ls) : areLengths (lensD ls) = true := by
  obtain ⟨a, b, c, d, e, f, g, h, rfl, ha, hb, hc, hd, he, hf, hg, h1, h2⟩ := D.lens
  simp [lensD, areLengths, cLIM, isInt]
  omega
end
section
variable {P : Program} {w : World} {K : PySem.W.Frag} {mg : Str → Option Value} {base : Heap} {CF CB CU : Addr} {f : Addr} {cdv : Value} {A : Around} {outer : List Env} {s : Shared} {H0 : Hp} {E : XK}
theorem map_inj {α β : Type} {g : α → β} (hg : ∀ a b, g a = g b → a = b) : ∀ {l m : List α}, l.map g = m.map g → l = m
  | [], [], _ => rfl
  | [], _ :: _, h => by cases h
  | _ :: _, [], h => by cases h
  | a :: l, b :: m, h => by
    rw [List.map_cons, List.map_cons, List.cons.injEq] at h
    rw [hg a b h.1, map_inj hg h.2]
theorem symsD_inj {ss ss' : List Sym} (h : symsD ss = symsD ss') : ss = ss' := by
  have e : ss.map Sym.d = ss'.map Sym.d := by injection h
  exact map_inj (fun a b hab => by
    obtain ⟨n, c, x, y, z⟩ := a
    obtain ⟨n', c', x', y', z'⟩ := b
    simp only [Sym.d, PyData.tuple.injEq, List.cons.injEq, PyData.str.injEq, PyData.int.injEq, and_true] at hab
    obtain ⟨rfl, rfl, rfl, rfl, rfl⟩ := hab
    rfl) e
theorem lensD_inj {ls ls' : List Int} (h : lensD ls = lensD ls') : ls = ls' := by
  have e : ls.map PyData.int = ls'.map PyData.int := by injection h
  exact map_inj (fun a b hab => by injection hab) e
theorem tp_of_ints {H : Hp} {b : Addr} {ls : List Int} (h : SqT K H b (ls.map V.int)) : Tp K H (.ref b) (lensD ls) := by
  refine .tup h (by rw [List.length_map, List.length_map]) fun i x d hx hd => ?_
  rw [List.getElem?_map] at hx hd
  cases e : ls[i]? with
  | none =>
    rw [e] at hx
    cases hx
  | some z =>
    rw [e] at hx hd
    cases hx
    cases hd
    exact .int z
theorem mk_font {H : Hp} {va vl : V} {ss : List Sym} {ls : List Int} {Q : VK} (hS : Dp K H va (symsD ss)) (hL : Dp K H vl (lensD ls)) (pre : PreS (symsD ss)) (g1 : areSymbols (symsD ss) = true) (g2 : areLengths (lensD ls) = true)
    (x dx : Addr) (nx : H x = none) (ndx : H dx = none) (ne : dx ≠ x) (k : ∀ H', Same H H' → FontAt K CF H' x va vl ss ls → Q .non H') :
    spFInit K CF CB (.ref x :: ([va, vl] ++ [])) (upd (upd H dx (.own x)) x (.ins CF dx [])) Q E00 := by
  have sN : Same H (upd (upd H dx (.own x)) x (.ins CF dx [])) := fun b o e => by
    rw [upd_ne (ne_of_none e nx), upd_ne (ne_of_none e ndx)]
    exact e
  refine ⟨x, dx, va, vl, _, _, rfl, upd_same, Dp_same sN hS, Dp_same sN hL, pre, fun _ H' ss' ls' e1 e2 kp FA _ => ?_, fun hb => ?_⟩
  · obtain rfl := symsD_inj e1
    obtain rfl := lensD_inj e2
    exact k H' (fun b o e => kp b o (sN b o e) (ne_of_none e nx)) FA
  · rw [g1, g2] at hb
    cases hb
theorem mk_fontF {H : Hp} {va vl : V} {ss : List Sym} {ls : List Int} {Q : VK} (hS : Dp K H va (symsD ss)) (hL : Dp K H vl (lensD ls)) (pre : PreS (symsD ss)) (g1 : areSymbols (symsD ss) = true) (g2 : areLengths (lensD ls) = true)
    (x dx : Addr) (nx : H x = none) (ndx : H dx = none) (ne : dx ≠ x) (k : ∀ H', Same H H' → FontAt K CF H' x va vl ss ls → (∃ e dx, H e = none ∧ H' x = some (.ins CF dx (ff va vl e))) → Q .non H') :
    spFInit K CF CB (.ref x :: ([va, vl] ++ [])) (upd (upd H dx (.own x)) x (.ins CF dx [])) Q E00 := by
  have sN : Same H (upd (upd H dx (.own x)) x (.ins CF dx [])) := fun b o e => by
    rw [upd_ne (ne_of_none e nx), upd_ne (ne_of_none e ndx)]
    exact e
  refine ⟨x, dx, va, vl, _, _, rfl, upd_same, Dp_same sN hS, Dp_same sN hL, pre, fun _ H' ss' ls' e1 e2 kp FA fe => ?_, fun hb => ?_⟩
  · obtain rfl := symsD_inj e1
    obtain rfl := lensD_inj e2
    obtain ⟨e, dx', h1, h2⟩ := fe
    refine k H' (fun b o e => kp b o (sN b o e) (ne_of_none e nx)) FA ⟨e, dx', ?_, h2⟩
    cases z : H e with
    | none => rfl
    | some o =>
      rw [sN _ _ z] at h1
      cases h1
  · rw [g1, g2] at hb
    cases hb
theorem dp_two {H : Hp} {t : Addr} {x y : V} {d e : PyData} (h : H t = some (.tup [x, y])) (hx : Dp K H x d) (hy : Dp K H y e) : Dp K H (.ref t) (.tuple [d, e]) := .tup (SqT.of h) (.cons hx (.cons hy .nil))
theorem dep_two {ss : List Sym} {ls : List Int} : PyData.depth (.tuple [symsD ss, lensD ls]) ≤ 5 := by
  have h1 : PyData.depth (symsD ss) ≤ 2 := Nat.succ_le_succ (dep_syms ss)
  have h2 : PyData.depth (lensD ls) ≤ 1 := Nat.succ_le_succ (dep_ints ls)
  show max (PyData.depth (symsD ss)) (max (PyData.depth (lensD ls)) 0) + 1 ≤ 5
  omega
theorem tp_sym_of {H : Hp} {t : Addr} {y : Sym} (h : SqT K H t y.vs) : Tp K H (.ref t) y.d := by
  refine .tup h rfl fun i x d hx hd => ?_
  match i, hx, hd with
  | 0, hx, hd => cases hx; cases hd; exact .str _
  | 1, hx, hd => cases hx; cases hd; exact .str _
  | 2, hx, hd => cases hx; cases hd; exact .int _
  | 3, hx, hd => cases hx; cases hd; exact .int _
  | 4, hx, hd => cases hx; cases hd; exact .int _
  | _ + 5, hx, hd => cases hx
theorem tp_syms_of {H : Hp} {o : Addr} {ts : List Addr} {ss : List Sym} (h : SqT K H o (ts.map V.ref)) (hl : ts.length = ss.length) (he : ∀ (i : Nat) (t : Addr) (y : Sym), ts[i]? = some t → ss[i]? = some y → SqT K H t y.vs) : Tp K H (.ref o) (symsD ss) := by
  refine .tup h (by rw [List.length_map, List.length_map, hl]) fun i x d hx hd => ?_
  rw [List.getElem?_map] at hx hd
  cases e1 : ts[i]? with
  | none =>
    rw [e1] at hx
    cases hx
  | some t =>
    cases e2 : ss[i]? with
    | none =>
      rw [e2] at hd
      cases hd
    | some y =>
      rw [e1] at hx
      rw [e2] at hd
      cases hx
      cases hd
      exact tp_sym_of (he i t y e1 e2)
theorem FontAt.ins {H : Hp} {C p : Addr} {va vl : V} {ss : List Sym} {ls : List Int} (F : FontAt K C H p va vl ss ls) : ∃ dx e, H p = some (.ins C dx (ff va vl e)) := by
  obtain ⟨_, _, _, dx, e, _, h, _⟩ := F
  exact ⟨dx, e, h⟩
theorem look_at : ∀ {ss : List Sym} {i : Nat} {y : Sym}, (ss.map (·.nm)).Nodup → ss[i]? = some y → look ss y.nm = some y
  | [], i, y, _, h => by simp at h
  | z :: ss, 0, y, _, h => by
    cases h
    unfold look
    rw [List.find?_cons]
    simp
  | z :: ss, i + 1, y, nd, h => by
    have h' : ss[i]? = some y := by simpa using h
    rw [List.map_cons, List.nodup_cons] at nd
    have hz : ¬ (z.nm == y.nm) = true := fun e => nd.1 (by rw [eq_of_beq e]; exact List.mem_map_of_mem (List.mem_of_getElem? h'))
    have ih := look_at nd.2 h'
    unfold look at ih ⊢
    rw [List.find?_cons, Bool.eq_false_iff.mpr hz]
    exact ih
theorem Drawn.look {ss : List Sym} {ls : List Int} (D : Drawn ss ls) {i : Nat} {y : Sym} (h : ss[i]? = some y) : Mg.look ss y.nm = some y := look_at (by rw [D.nm]; decide +kernel) h
end
section
variable {X : Cx} {CF CB : Addr} {p pos : Pos} {e : Expr} {es : List Expr} {t : TA} {K : PySem.W.Frag}
theorem pe_mkFK (hK : X.K = K) (M : MkF X.prog X.w X.K X.mg X.base CF CB) (hr : Room 6 X.A) (hg : Gl X "Font") (hm : X.mg "Font" = some (.ref CF)) (ha : PA X (e :: es) t)
    (he : starEach (e :: es) X.env = (false, eval e X.env) :: starEach es X.env := by rfl) (hpl : (backTo pos (starEach es X.env)).any (·.1) = false := by rfl) :
    PE X (.Call (.Name "Font" p) (e :: es) [] pos) (tMake CF (spFInit K CF CB) [] E00 t) := by
  subst hK
  exact pe_mkF M hr hg hm ha he hpl
end
def kinds7 : List Str := ["ord", "op", "bin", "rel", "open", "close", "punct"]
structure Turn (y z : Sym) : Prop where
  nm : z.nm = y.nm
  cl : z.cl ∈ kinds7
  wd : z.wd = y.wd
  ht : z.ht = y.ht
  dp : z.dp = y.dp
theorem kinds_ok : ∀ c ∈ kinds7, isKind (.str c) = true ∧ PyData.canLay0 (.str c) = true := by decide +kernel
theorem at_kinds {n : Int} (h0 : 0 ≤ n) (h1 : n < 7) : ∃ c, c ∈ kinds7 ∧ atI (kinds7.map V.str) n = some (.str c) := by
  obtain rfl | rfl | rfl | rfl | rfl | rfl | rfl : n = 0 ∨ n = 1 ∨ n = 2 ∨ n = 3 ∨ n = 4 ∨ n = 5 ∨ n = 6 := by omega
  all_goals exact ⟨_, by decide +kernel, rfl⟩
theorem Turn.entry {ss : List Sym} {ls : List Int} (D : Drawn ss ls) {y z : Sym} (h : y ∈ ss) (T : Turn y z) : isEntry z.d = true := by
  obtain ⟨n, c, a, b, d⟩ := z
  obtain ⟨t1, t2, t3, t4, t5⟩ := T
  obtain ⟨_, a0, a1, b0, b1, d0, d1⟩ := D.ok _ h
  obtain ⟨q1, _, _⟩ := nms_name _ (D.mem h)
  dsimp only at t1 t2 t3 t4 t5
  subst t1
  subst t3
  subst t4
  subst t5
  exact good_entry q1 (kinds_ok c t2).1 ⟨a0, by omega⟩ ⟨b0, by omega⟩ ⟨d0, by omega⟩
end Mg

set_option Elab.async false
set_option linter.all false
set_option maxRecDepth 100000
set_option maxHeartbeats 1000000
namespace Mg
open PySem L2
structure TxtLn (K : PySem.W.Frag) (mg : Str → Option Value) (CF : Addr) : Prop extends TxtO K CF where
  b_max : mg "max" = none
  c_RULE : ∃ t, mg "RULE" = some (.int 1 t)
  c_STEP : ∃ t, mg "STEP" = some (.int 7 t)
section
variable {P : Program} {w : World} {K : PySem.W.Frag} {mg : Str → Option Value} {base : Heap} {CF : Addr}
/-! length_of -/
def lenOf (ls : List Int) (i : Nat) (st : Int) : Int := if i = 1 ∨ i = 7 then max 1 (scN (ls.getD i 0) st) else scN (ls.getD i 0) st
def spLengthOf (K : PySem.W.Frag) (CF : Addr) : Sp := fun vs H Q _ => ∃ (p : Addr) (va vl : V) (ss : List Sym) (ls : List Int) (i : Nat) (st : Int), vs = [.ref p, .int (i : Int), .int st] ∧ FontAt K CF H p va vl ss ls ∧ i < 8 ∧ ∀ H', Same H H' → Q (.int (lenOf ls i st)) H'
theorem font_lens {H : Hp} {p : Addr} {va vl : V} {ss : List Sym} {ls : List Int} (F : FontAt K CF H p va vl ss ls) : ls.length = 8 := by
  obtain ⟨g, _⟩ := F
  obtain ⟨l, e, el⟩ := lens_of g.2
  have e2 : ls.map PyData.int = l.map PyData.int := by injection e
  have e3 := congrArg List.length e2
  rw [List.length_map, List.length_map] at e3
  omega
end
end Mg

set_option Elab.async false
set_option linter.all false
set_option maxRecDepth 100000
set_option maxHeartbeats 2000000
namespace Mg
open PySem L2
section
variable {P : Program} {w : World} {K : PySem.W.Frag} {mg : Str → Option Value} {base : Heap} {CF CU : Addr}
/-! ### metrics -/
def Sym.m (s : Sym) (st : Int) : List Int := [scN s.wd st, scN s.ht st, scN s.dp st]
def spMetrics (K : PySem.W.Frag) (CF CU : Addr) : Sp := fun vs H Q E => ∃ (p : Addr) (x : Str) (st : Int) (va vl : V) (ss : List Sym) (ls : List Int), vs = [.ref p, .str x, .int st] ∧ x.length ≤ 1000 ∧ FontAt K CF H p va vl ss ls ∧
  (∀ s t H', look ss x = some s → Same H H' → H' t = some (.tup ((s.m st).map V.int)) → Q (.ref t) H') ∧ (look ss x = none → ∀ d, H d = none → E (.ref CU) (some d) (upd H d (.xd [("name", .str x)])))
/-! ### stretched -/
/-- a length h stretched by steps k to at least n -/
def strN (h n k : Int) : Int := if h ≥ n then h else h + (n - h + k - 1) / k * k
def stepN (st n : Int) : Int := if scN st n > 1 then scN st n else 1
def spStretched (K : PySem.W.Frag) (CF CU : Addr) : Sp := fun vs H Q E => ∃ (p : Addr) (x : Str) (st n : Int) (va vl : V) (ss : List Sym) (ls : List Int) (k : Int), vs = [.ref p, .str x, .int st, .int n] ∧ x.length ≤ 1000 ∧ FontAt K CF H p va vl ss ls ∧
  ls[7]? = some k ∧ 0 ≤ k ∧ k ≤ 1000 ∧ (∀ s H', look ss x = some s → Same H H' → Q (.int (strN (scN s.ht st + scN s.dp st) n (stepN k st))) H') ∧ (look ss x = none → ∀ d, H d = none → E (.ref CU) (some d) (upd H d (.xd [("name", .str x)])))
theorem scN_le {k st : Int} (h0 : 0 ≤ k) (h1 : k ≤ 1000) : scN k st ≤ 1000 := by
  unfold scN
  split
  · omega
  · split <;> omega
end
end Mg


set_option Elab.async false
set_option linter.all false
set_option maxRecDepth 100000
set_option maxHeartbeats 1000000
namespace Mg
open PySem L2
def cNO : List Str := ["bin", "op", "rel", "open", "punct"]
def cNB : List Str := ["rel", "close", "punct"]
def cKINDS : List Str := ["ord", "op", "bin", "rel", "open", "close", "punct", "inner"]
def spTab : List (List Int) := [[0, 1, -2, -3, 0, 0, 0, -1], [1, 1, 0, -3, 0, 0, 0, -1], [-2, -2, 0, 0, -2, 0, 0, -2], [-3, -3, 0, 0, -3, 0, 0, -3], [0, 0, 0, 0, 0, 0, 0, 0], [0, 1, -2, -3, 0, 0, 0, -1], [-1, -1, 0, -1, -1, -1, -1, -1], [-1, 1, -2, -3, -1, 0, -1, -1]]
structure TxtCls (K : PySem.W.Frag) (w : World) (mg : Str → Option Value) (CF aN aB aK aS : Addr) : Prop extends TxtLn K mg CF where
  b_len : mg "len" = none
  b_abs : mg "abs" = none
  b_enumerate : mg "enumerate" = none
  c_THIN : ∃ t, mg "THIN" = some (.int 4 t)
  c_NO_OPERANDS : mg "NO_OPERANDS" = some (.ref aN)
  k_NO : ∀ H, SqT K H aN (cNO.map V.str)
  c_NO_OPERANDS_BEHIND : mg "NO_OPERANDS_BEHIND" = some (.ref aB)
  k_NB : ∀ H, SqT K H aB (cNB.map V.str)
  c_KINDS : mg "KINDS" = some (.ref aK)
  k_KINDS : ∀ H, SqT K H aK (cKINDS.map V.str)
  t_KINDS : ∃ o, K.lookup aK = some o ∧ o.cls = .type "tuple" ∧ o.dict = none
  c_SPACES : mg "SPACES" = some (.ref aS)
  k_SPACES : ∀ (i : Nat) (x : Str), cKINDS[i]? = some x → ∃ (a : Addr) (r : List Int), spTab[i]? = some r ∧ KDct K w aS x (.ref a) ∧ ∀ H, SqT K H a (r.map V.int)
section
variable {P : Program} {w : World} {K : PySem.W.Frag} {mg : Str → Option Value} {base : Heap} {CF CU aN aB aK aS : Addr}
/-! length_of -/
/-! nucleus_class -/
def nucCl (ss : List Sym) : FNuc → Str
  | .sym x => match look ss x with
    | some s => s.cl
    | none => ""
  | .group _ => "ord"
  | .root _ => "ord"
  | _ => "inner"
def nucKn (ss : List Sym) : FNuc → Prop
  | .sym x => x.length ≤ 1000 ∧ ∃ s, look ss x = some s
  | _ => True
def spNucCls (K : PySem.W.Frag) (CF : Addr) : Sp := fun vs H Q _ => ∃ (p : Addr) (va vl u : V) (ss : List Sym) (ls : List Int) (n : FNuc), vs = [.ref p, u] ∧ FontAt K CF H p va vl ss ls ∧ Tp K H u n.d ∧ nucKn ss n ∧ ∀ H', Same H H' → Q (.str (nucCl ss n)) H'
/-! has_operands -/
def hasOp (as bs : List Str) : Bool := match as.getLast? with
  | none => false
  | some a => match bs with
    | [] => false
    | b :: _ => (!(cNO.any fun r => r == a)) && !(cNB.any fun r => r == b)
def spHasOp (K : PySem.W.Frag) : Sp := fun vs H Q _ => ∃ (a b : Addr) (as bs : List Str), vs = [.ref a, .ref b] ∧ SqL K H a (as.map V.str) ∧ SqL K H b (bs.map V.str) ∧ Q (.bl (hasOp as bs)) H
/-! classes_of -/
def clsAt (own : List Str) : Nat → List Str
  | 0 => []
  | k + 1 => clsAt own k ++ [if (decide (own.getD k "" = "bin") && !hasOp (clsAt own k) (own.drop (k + 1))) = true then ("ord" : Str) else own.getD k ""]
theorem clsAt_len (own : List Str) : ∀ k, (clsAt own k).length = k
  | 0 => rfl
  | k + 1 => by rw [clsAt, List.length_append, clsAt_len own k]; rfl
def clsF (own : List Str) : List Str := clsAt own own.length
def rowOwn (ss : List Sym) (r : FRow) : List Str := r.items.map fun i => nucCl ss i.nuc
def rowCls (ss : List Sym) (r : FRow) : List Str := clsF (rowOwn ss r)
def spClassesOf (K : PySem.W.Frag) (CF : Addr) : Sp := fun vs H Q _ => ∃ (p : Addr) (va vl u : V) (ss : List Sym) (ls : List Int) (r : FRow), vs = [.ref p, u] ∧ FontAt K CF H p va vl ss ls ∧ Tp K H u r.d ∧ (∀ i ∈ r.items, nucKn ss i.nuc) ∧ r.items.length ≤ 100000 ∧
  ∀ q H', H q = none → Same H H' → H' q = some (.lst ((rowCls ss r).map V.str)) → Q (.ref q) H'
theorem cut_drop {xs : List V} {k : Nat} : cutV xs (some ((k : Int) + 1)) none = xs.drop (k + 1) := by
  unfold cutV
  rw [show ((k : Int) + 1) = ((k + 1 : Nat) : Int) by omega, HT.sIx_nat]
  show (xs.drop (min (k + 1) xs.length)).take (xs.length - min (k + 1) xs.length) = _
  rcases Nat.le_total (k + 1) xs.length with c | c
  · rw [Nat.min_eq_left c, List.take_of_length_le (by rw [List.length_drop]; exact Nat.le_refl _)]
  · rw [Nat.min_eq_right c, List.drop_eq_nil_of_le (Nat.le_refl _), List.drop_eq_nil_of_le c]
    simp
theorem item_nuc {H : Hp} {x : V} {it : FItem} (t : Tp K H x it.d) : ∃ (a : Addr) (x0 x1 x2 : V), x = .ref a ∧ SqT K H a [x0, x1, x2] ∧ Tp K H x0 it.nuc.d ∧ Tp K H x1 it.bel.d ∧ Tp K H x2 it.abv.d := by
  cases it with
  | mk n b a =>
  have t : Tp K H x (.tuple [n.d, b.d, a.d]) := t
  obtain ⟨p, xs, rfl, sq, l⟩ := t.inv
  cases l with
  | cons t0 l => cases l with
  | cons t1 l => cases l with
  | cons t2 l => cases l with
  | nil => exact ⟨p, _, _, _, rfl, sq, t0, t1, t2⟩
/-! space_between -/
def spMark (i j : Nat) : Int := (spTab.getD i []).getD j 0
def spaceOf (ls : List Int) (i j : Nat) (st : Int) : Int := if spMark i j = 0 ∨ (spMark i j < 0 ∧ 1 < st) then 0 else lenOf ls (3 + (spMark i j).natAbs) st
def spSpace (K : PySem.W.Frag) (CF : Addr) : Sp := fun vs H Q _ => ∃ (p : Addr) (va vl : V) (ss : List Sym) (ls : List Int) (i j : Nat) (x y : Str) (st : Int), vs = [.ref p, .str x, .str y, .int st] ∧ FontAt K CF H p va vl ss ls ∧ cKINDS[i]? = some x ∧ cKINDS[j]? = some y ∧ ∀ H', Same H H' → Q (.int (spaceOf ls i j st)) H'
theorem mark_ok : ∀ i, i < 8 → ∀ j, j < 8 → (∃ r, spTab[i]? = some r ∧ r[j]? = some (spMark i j)) ∧ (spMark i j).natAbs ≤ 3 := by decide +kernel
theorem kinds_first : ∀ j, j < 8 → ∀ m, m < j → cKINDS[m]? ≠ cKINDS[j]? := by decide +kernel
end
end Mg

set_option Elab.async false
set_option linter.all false
set_option maxRecDepth 100000
set_option maxHeartbeats 4000000
namespace Mg
open PySem L2
section
variable {P : Program} {w : World} {K : PySem.W.Frag} {mg : Str → Option Value} {base : Heap} {CF : Addr}
def spLScaled : Sp := fun vs H Q _ => ∃ n s : Int, vs = [.int n, .int s] ∧ 0 ≤ s ∧ s ≤ 3 ∧ ∀ H', Same H H' → Q (.int (scN n s)) H'
theorem at4 {a b c d : Int} {s n : Int} (h0 : 0 ≤ s) (h3 : s ≤ 3) (e0 : s = 0 → a = n) (e1 : s = 1 → b = n) (e2 : s = 2 → c = n) (e3 : s = 3 → d = n) : atI ([V.int a, V.int b, V.int c, V.int d] : List V) s = some (V.int n) := by
  rcases (show s = 0 ∨ s = 1 ∨ s = 2 ∨ s = 3 by omega) with q | q | q | q
  · rw [← e0 q, q]
    rfl
  · rw [← e1 q, q]
    rfl
  · rw [← e2 q, q]
    rfl
  · rw [← e3 q, q]
    rfl
end
end Mg

set_option Elab.async false
set_option linter.all false
set_option maxRecDepth 100000
set_option maxHeartbeats 1000000
namespace Mg
open PySem L2
section
variable {P : Program} {w : World} {K : PySem.W.Frag} {mg : Str → Option Value} {base : Heap}
/-! _law_kind -/
def fontD (ss : List Sym) (ls : List Int) : PyData := .tuple [symsD ss, lensD ls]
def spLKind (K : PySem.W.Frag) : Sp := spR K fun ds d => ∃ (ss : List Sym) (ls : List Int) (n : FNuc), ds = [fontD ss ls, n.d] ∧ d = .str (nucCl ss n) ∧ nucKn ss n ∧ ss.length ≤ 1000
theorem look_filter (ss : List Sym) (x : Str) (s : Sym) (h : look ss x = some s) : ∃ r, ss.filter (fun s => s.nm == x) = s :: r := by
  unfold look at h
  rw [← List.head?_filter] at h
  cases e : ss.filter (fun s => s.nm == x) with
  | nil => rw [e] at h; cases h
  | cons a r =>
    rw [e] at h
    cases h
    exact ⟨r, rfl⟩
/-! _law_kinds -/
def spLKinds (K : PySem.W.Frag) : Sp := spRL K fun ds es => ∃ (ss : List Sym) (ls : List Int) (r : FRow), ds = [fontD ss ls, r.d] ∧ es = (rowCls ss r).map PyData.str ∧ (∀ i ∈ r.items, nucKn ss i.nuc) ∧ ss.length ≤ 1000 ∧ r.items.length ≤ 100000
theorem hasOp_0 (bs : List Str) : hasOp [] bs = false := rfl
theorem hasOp_n (as : List Str) : hasOp as [] = false := by
  unfold hasOp
  split <;> rfl
theorem getLast_at {as : List Str} {k : Nat} (h : as.length = k + 1) : as.getLast? = some (as.getD k "") := by
  rw [List.getLast?_eq_getElem?, h, List.getD_eq_getElem?_getD, show k + 1 - 1 = k by omega, List.getElem?_eq_getElem (by omega)]
  rfl
theorem hasOp_k {own : List Str} {k : Nat} (h : k + 2 < own.length + 0) : hasOp (clsAt own (k + 1)) (own.drop (k + 2)) = ((!(cNO.any fun r => r == (clsAt own (k + 1)).getD k "")) && !(cNB.any fun r => r == own.getD (k + 2) "")) := by
  unfold hasOp
  rw [getLast_at (clsAt_len own (k + 1)), List.drop_eq_getElem_cons (by omega)]
  rw [List.getD_eq_getElem?_getD (l := own), List.getElem?_eq_getElem (by omega)]
  rfl
end
end Mg

set_option Elab.async false
set_option linter.all false
set_option maxRecDepth 100000
set_option maxHeartbeats 1000000
namespace Mg
open PySem L2
section
variable {P : Program} {w : World} {K : PySem.W.Frag} {mg : Str → Option Value} {base : Heap}
/-! _law_gap -/
def gapTxt : List Str := ["0 1 m k 0 0 0 t", "1 1 0 k 0 0 0 t", "m m 0 0 m 0 0 m", "k k 0 0 k 0 0 k", "0 0 0 0 0 0 0 0", "0 1 m k 0 0 0 t", "t t 0 t t t t t", "t 1 m k t 0 t t"]
def gapTab : List (List Str) := [["0", "1", "m", "k", "0", "0", "0", "t"], ["1", "1", "0", "k", "0", "0", "0", "t"], ["m", "m", "0", "0", "m", "0", "0", "m"], ["k", "k", "0", "0", "k", "0", "0", "k"], ["0", "0", "0", "0", "0", "0", "0", "0"], ["0", "1", "m", "k", "0", "0", "0", "t"], ["t", "t", "0", "t", "t", "t", "t", "t"], ["t", "1", "m", "k", "t", "0", "t", "t"]]
theorem gap_split : ∀ i, i < 8 → ∃ x r, gapTxt[i]? = some x ∧ gapTab[i]? = some r ∧ Txt.split x " " = r ∧ x.length + 2 ≤ 1000 := by
  intro i hi
  match i, hi with
  | 0, _ => exact ⟨_, _, rfl, rfl, by decide +kernel, by decide +kernel⟩
  | 1, _ => exact ⟨_, _, rfl, rfl, by decide +kernel, by decide +kernel⟩
  | 2, _ => exact ⟨_, _, rfl, rfl, by decide +kernel, by decide +kernel⟩
  | 3, _ => exact ⟨_, _, rfl, rfl, by decide +kernel, by decide +kernel⟩
  | 4, _ => exact ⟨_, _, rfl, rfl, by decide +kernel, by decide +kernel⟩
  | 5, _ => exact ⟨_, _, rfl, rfl, by decide +kernel, by decide +kernel⟩
  | 6, _ => exact ⟨_, _, rfl, rfl, by decide +kernel, by decide +kernel⟩
  | 7, _ => exact ⟨_, _, rfl, rfl, by decide +kernel, by decide +kernel⟩
def gapMark (i j : Nat) : Str := (gapTab.getD i []).getD j ""
def kvGap : List (Key × V) := mergeK [] [(Sum.inr ("1" : Str), V.int 4), (Sum.inr ("t" : Str), V.int 4), (Sum.inr ("m" : Str), V.int 5), (Sum.inr ("k" : Str), V.int 6)]
theorem gap_row : ∀ i, i < 8 → ∀ j, j < 8 → ∃ r, gapTab[i]? = some r ∧ r[j]? = some (gapMark i j) := by decide +kernel
theorem gap_zero : ∀ i, i < 8 → ∀ j, j < 8 → (gapMark i j = "0" ↔ spMark i j = 0) := by decide +kernel
theorem gap_one : ∀ i, i < 8 → ∀ j, j < 8 → (decide (gapMark i j = "0") || (decide (gapMark i j = "1") == decide (0 < spMark i j))) = true := by decide +kernel
theorem gap_val : ∀ i, i < 8 → ∀ j, j < 8 → (decide (gapMark i j = "0") || decide (valV kvGap (Sum.inr (gapMark i j)) = some (.int ((3 + (spMark i j).natAbs : Nat) : Int)))) = true := by decide +kernel
def spLGap (K : PySem.W.Frag) : Sp := fun vs H Q _ => ∃ (vf : V) (ss : List Sym) (ls : List Int) (i j : Nat) (x y : Str) (st : Int), vs = [vf, .str x, .str y, .int st] ∧ Tp K H vf (fontD ss ls) ∧ ls.length = 8 ∧ cKINDS[i]? = some x ∧ cKINDS[j]? = some y ∧ 0 ≤ st ∧ st ≤ 3 ∧ ∀ H', Same H H' → Q (.int (spaceOf ls i j st)) H'
theorem eqV_str (a b : Str) : eqV (.str a) (.str b) = (a == b) := rfl
theorem index_kinds {j : Nat} {y : Str} (h : cKINDS[j]? = some y) : (cKINDS.map V.str)[j]? = some (.str y) ∧ eqV (.str y) (.str y) = true ∧ ∀ (m : Nat) (z : V), m < j → (cKINDS.map V.str)[m]? = some z → eqV z (.str y) = false := by
  have j8 : j < 8 := (List.getElem?_eq_some_iff.mp h).1
  refine ⟨map_get h, by rw [eqV_str]; simp, fun m z hm hz => ?_⟩
  obtain ⟨x, hx, rfl⟩ := get_map hz
  rw [eqV_str]
  refine beq_eq_false_iff_ne.mpr fun e => kinds_first j j8 m hm ?_
  rw [hx, h, e]
end
end Mg

set_option Elab.async false
set_option linter.all false
set_option maxRecDepth 100000
set_option maxHeartbeats 1000000
namespace Mg
open PySem L2
abbrev sNucRows : Stmt := top 35
abbrev sRowsIn : Stmt := top 34
abbrev sRowsOf : Stmt := top 33
abbrev sRowWords : Stmt := top 38
abbrev sNucWords : Stmt := top 39
abbrev sBraced : Stmt := top 40
abbrev sFenceW : Stmt := top 41
abbrev sGridW : Stmt := top 42
section
variable {P : Program} {w : World} {K : PySem.W.Frag} {mg : Str → Option Value} {base : Heap}
def spNucRows (K : PySem.W.Frag) : Sp := spRL K fun ds es => ∃ n : FNuc, ds = [n.d] ∧ es = n.rows.map FRow.d ∧ n.words.length ≤ 100000
theorem scNucRows : FnScope ["nucleus", "kind", "cells", "cell"] ["nucleus"] (defScope sNucRows) := ⟨rfl, rfl, rfl, by decide +kernel, rfl, by decide +kernel, by decide +kernel⟩
theorem ok_nucrows {f : Addr} {fd : FuncData} (F : Fun K "nucleus_rows" "nucleus_rows" sNucRows f fd) : FnOk P w K mg base CX0 1 f fd ["nucleus"] (spNucRows K) := by
  have sc := scNucRows
  refine F.ok scNucRows (fun vs H Q E h => ?_) (fun cdv A outer s H vs Q E hr h => ?_)
  · obtain ⟨ds, es, l, ⟨n, rfl, _⟩, _⟩ := h
    exact l.len
  · obtain ⟨ds, es, l, ⟨n, rfl, rfl, bnd⟩, k⟩ := h
    cases l with
    | cons t l => cases l with
    | nil =>
    refine ⟨_, (pss_cons (ps_set (i := 1) sc.nd rfl (Or.inl rfl) (pe_ix ix_tup (pv 0) pe_int (fun _ _ => rfl)))
  (pss_cons (ps_if (pt_cmpR op_eq (pv 1) pe_str (nomark _))
  (pss_one (ps_ret (pe_lst pa_nil)))
  pss_nil)
  (pss_cons (ps_if (pt_cmpR op_eq (pv 1) pe_str (nomark _))
  (pss_one (ps_ret (pe_lst (pa_cons (pe_ix ix_tup (pv 0) pe_int (fun _ _ => rfl)) (pa_cons (pe_ix ix_tup (pv 0) pe_int (fun _ _ => rfl)) pa_nil)))))
  pss_nil)
  (pss_cons (ps_if (pt_cmpR op_eq (pv 1) pe_str (nomark _))
  (pss_one (ps_ret (pe_lst (pa_cons (pe_ix ix_tup (pv 0) pe_int (fun _ _ => rfl)) pa_nil))))
  pss_nil)
  (pss_cons (ps_if (pt_cmpR op_eq (pv 1) pe_str (nomark _))
  (pss_one (ps_ret (pe_lc2 (own := [("cells", 2), ("cell", 3)]) (vs1 := [3]) (wi1 := iTup K (tVar 2)) rfl sc.nd (pi_tup (pe_ix ix_tup (pv 0) pe_int (fun _ _ => rfl))) (blkOk_by (own := [("cells", 2), ("cell", 3)]) (N := ["nucleus", "kind", "cells", "cell"]) (sc := defScope sNucRows) (by decide +kernel)) (by decide) (fun _ _ _ _ _ => (pg_name (i := 2) sc.nd rfl (Or.inl rfl))) (fun _ _ _ _ _ => pts_nil) (fun _ _ _ _ _ => (pi_tup (pv 2))) (fun _ _ _ _ _ => (pg_name (i := 3) sc.nd rfl (Or.inl rfl))) (fun _ _ _ _ _ => pts_nil) (fun _ _ _ _ _ => (pv 3)))))
  pss_nil)
  (pss_one (ps_ret (pe_lst (pa_cons (pe_ix ix_tup (pv 0) pe_int (fun _ _ => rfl)) pa_nil))))))))), ?_⟩
    cases n with
    | sym x =>
      have t : Tp K H _ (.tuple [.str "symbol", .str x]) := t
      refine q_set (e_op (e_var rfl t) e_int (r_ixT rfl)) fun kd H1 s1 tk => ?_
      obtain rfl := tp_str tk
      exact q_yesS rfl (retL k s1 (l_lst a_nil (Nat.le_of_ble_eq_true rfl)) rfl)
    | frac o u =>
      have t : Tp K H _ (.tuple [.str "frac", .tuple o.ds, .tuple u.ds]) := t
      refine q_set (e_op (e_var rfl t) e_int (r_ixT rfl)) fun kd H1 s1 tk => ?_
      obtain rfl := tp_str tk
      have t := t.stay (.of s1)
      refine q_noS rfl (by decide +kernel) (q_yesS rfl (retL k s1 (l_lst (a_cons (e_op (e_var rfl t) e_int (r_ixT rfl)) (a_cons (e_op (e_var rfl t) e_int (r_ixT rfl)) a_nil)) (Nat.le_of_ble_eq_true rfl)) rfl))
    | fence o c r =>
      have t : Tp K H _ (.tuple [.str "fence", optD o, optD c, .tuple r.ds]) := t
      refine q_set (e_op (e_var rfl t) e_int (r_ixT rfl)) fun kd H1 s1 tk => ?_
      obtain rfl := tp_str tk
      have t := t.stay (.of s1)
      refine q_noS rfl (by decide +kernel) (q_noS rfl (by decide +kernel) (q_yesS rfl (retL k s1 (l_lst (a_cons (e_op (e_var rfl t) e_int (r_ixT rfl)) a_nil) (Nat.le_of_ble_eq_true rfl)) rfl)))
    | group r =>
      have t : Tp K H _ (.tuple [.str "group", .tuple r.ds]) := t
      refine q_set (e_op (e_var rfl t) e_int (r_ixT rfl)) fun kd H1 s1 tk => ?_
      obtain rfl := tp_str tk
      have t := t.stay (.of s1)
      refine q_noS rfl (by decide +kernel) (q_noS rfl (by decide +kernel) (q_noS rfl (by decide +kernel) (q_noS rfl (by decide +kernel) (retL k s1 (l_lst (a_cons (e_op (e_var rfl t) e_int (r_ixT rfl)) a_nil) (Nat.le_of_ble_eq_true rfl)) rfl))))
    | root r =>
      have t : Tp K H _ (.tuple [.str "root", .tuple r.ds]) := t
      refine q_set (e_op (e_var rfl t) e_int (r_ixT rfl)) fun kd H1 s1 tk => ?_
      obtain rfl := tp_str tk
      have t := t.stay (.of s1)
      refine q_noS rfl (by decide +kernel) (q_noS rfl (by decide +kernel) (q_noS rfl (by decide +kernel) (q_noS rfl (by decide +kernel) (retL k s1 (l_lst (a_cons (e_op (e_var rfl t) e_int (r_ixT rfl)) a_nil) (Nat.le_of_ble_eq_true rfl)) rfl))))
    | grid g =>
      have t : Tp K H _ (.tuple [.str "grid", .tuple g.ds]) := t
      refine q_set (e_op (e_var rfl t) e_int (r_ixT rfl)) fun kd H1 s1 tk => ?_
      obtain rfl := tp_str tk
      have t := t.stay (.of s1)
      have ef : (g.lines.map fun c => c.rows.map FRow.d).flatten = (FNuc.grid g).rows.map FRow.d := by
        rw [FNuc.rows, FGrid.all_eq, List.map_flatMap, List.flatMap_def]
      have bl := nrows_len (.grid g)
      refine q_noS rfl (by decide +kernel) (q_noS rfl (by decide +kernel) (q_noS rfl (by decide +kernel) (q_yesS rfl (retL k s1 (l_is (l_lc2 (ds := g.ds) (g.lines.map fun c => c.rows.map FRow.d) (g.lines.map fun c => c.rows.map FRow.d)
        (fun H2 s2 => .tup ((e_op (e_var rfl t) e_int (r_ixT rfl)).mono s2)) (by rw [FGrid.ds_eq, List.length_map, List.length_map]) (by rw [FGrid.ds_eq, List.length_map, List.length_map]) (by rw [ef, List.length_map]; omega) (fun x => rfl) (fun x y => rfl) ?_ ?_ ?_) ef) rfl))))
      · intro i d f x H2 h1 h2 s2 tx
        rw [FGrid.ds_eq] at h1
        obtain ⟨c, hc, rfl⟩ := get_map h1
        obtain ⟨c', hc', rfl⟩ := get_map h2
        rw [hc] at hc'
        cases hc'
        refine .tup (e_var rfl ?_)
        rw [← FCells.ds_eq]
        exact tx
      · intro i f g h1 h2
        rw [h1] at h2
        cases h2
        rfl
      · intro i m d f g a e x y H2 h1 h2 h3 h4 h5 s2 tx ty
        rw [h2] at h3
        cases h3
        rw [h4] at h5
        cases h5
        exact e_var rfl ty
def spRowsIn (K : PySem.W.Frag) : Sp := spRL K fun ds es => ∃ i : FItem, ds = [i.d] ∧ es = i.rows.map FRow.d ∧ i.words.length ≤ 100000
theorem scRowsIn : FnScope ["item", "nucleus", "below", "above", "rows"] ["item"] (defScope sRowsIn) := ⟨rfl, rfl, rfl, by decide +kernel, rfl, by decide +kernel, by decide +kernel⟩
theorem ok_rowsin {f : Addr} {fd : FuncData} (F : Fun K "rows_in" "rows_in" sRowsIn f fd) (C_nucleus_rows : Cal P w K mg base CX0 1 "nucleus_rows" ["nucleus"] (spNucRows K)) : FnOk P w K mg base CX0 2 f fd ["item"] (spRowsIn K) := by
  have sc := scRowsIn
  refine F.ok scRowsIn (fun vs H Q E h => ?_) (fun cdv A outer s H vs Q E hr h => ?_)
  · obtain ⟨ds, es, l, ⟨n, rfl, _⟩, _⟩ := h
    exact l.len
  · obtain ⟨ds, es, l, ⟨i, rfl, rfl, bnd⟩, k⟩ := h
    cases l with
    | cons t l => cases l with
    | nil =>
    refine ⟨_, (pss_cons (ps_asg (pv 0) (pg_tup rfl (pgs_cons (pg_name (i := 1) sc.nd rfl (Or.inl rfl)) (pgs_cons (pg_name (i := 2) sc.nd rfl (Or.inl rfl)) (pgs_cons (pg_name (i := 3) sc.nd rfl (Or.inl rfl)) pgs_nil)))))
  (pss_cons (ps_set (i := 4) sc.nd rfl (Or.inl rfl) (pe_cal C_nucleus_rows (hr.mono (by omega)) rfl pass0 (pa_cons (pv 1) pa_nil)))
  (pss_cons (ps_if (pt_cmpR op_notN (pv 2) pe_non (nomark _))
  (pss_one (ps_expr (pe_bm PySem.F.plainAttrs_list PySem.F.slot_list_append PySem.F.type_list_append mt_append (pv 4) (pa_cons (pv 2) pa_nil))))
  pss_nil)
  (pss_cons (ps_if (pt_cmpR op_notN (pv 3) pe_non (nomark _))
  (pss_one (ps_expr (pe_bm PySem.F.plainAttrs_list PySem.F.slot_list_append PySem.F.type_list_append mt_append (pv 4) (pa_cons (pv 3) pa_nil))))
  pss_nil)
  (pss_one (ps_ret (pv 4))))))), ?_⟩
    rename_i v
    have bl := rows_len i
    cases i with
    | mk n b a =>
    have bn : n.words.length ≤ 100000 := by
      rw [FItem.words, List.length_append] at bnd
      omega
    have bl2 : n.rows.length + (b.rows.length + a.rows.length) ≤ 100000 := by
      rw [FItem.rows, List.length_append, List.length_append] at bl
      omega
    have t : Tp K H v (.tuple [n.d, b.d, a.d]) := t
    refine q_asg (e_var rfl t) fun v1 H1 s1 t1 => g_tup3 t1 fun x y z tx ty tz => ?_
    refine q_setL (l_call (a_cons (e_var rfl tx) a_nil) ⟨n, rfl, rfl, bn⟩) fun p xs H2 np s2 e l => ?_
    have A := Acc.start (s1.free np) (s1.trans s2) e l
    have ty := ty.stay (.of s2)
    have tz := tz.stay (.of s2)
    have fin : ∀ H3, TupK H2 H3 → Acc K H p (n.rows.map FRow.d ++ b.rows.map FRow.d) H3 → tSeq (tIfS (tTest (tOp (fun x y H Q => y = .non ∧ Q (.bl (!decide (x = .non))) H) (tVar 3) (tC .non))) (tDrop (tBM K "list" rAppend (tVar 4) (tCons (tVar 3) tNil))) tNext) (tRet (tVar 4)) { nx := fun _ H' => Q .non H', rt := Q } [some v, some x, some y, some z, some (.ref p)] H3 := by
      intro H3 tk A3
      have tz := tz.stay tk
      have fin2 : ∀ H4, Acc K H p ((n.rows.map FRow.d ++ b.rows.map FRow.d) ++ a.rows.map FRow.d) H4 → tRet (tVar 4) { nx := fun _ H' => Q .non H', rt := Q } [some v, some x, some y, some z, some (.ref p)] H4 := fun H4 A4 =>
        retAcc k (by rw [FItem.rows, List.map_append, List.map_append, ← List.append_assoc]; exact A4) rfl rfl
      cases a with
      | no => exact q_no (t_test (e_op (e_var rfl tz) e_non r_notN)) rfl fun H4 s4 => fin2 H4 (by rw [FScr.rows, List.map_nil, List.append_nil]; exact A3.ext s4)
      | yes r => exact q_yes (t_test (e_op (e_var rfl tz) e_non r_notN)) rfl fun H4 s4 => s_app (l := 0) rfl (A3.ext s4) (e_var rfl (tz.stay (.of s4))) (by rw [List.length_append, List.length_map, List.length_map]; omega) fun H5 _ _ A5 => fin2 H5 A5
    cases b with
    | no => exact q_no (t_test (e_op (e_var rfl ty) e_non r_notN)) rfl fun H4 s4 => fin H4 (.of s4) (by rw [FScr.rows, List.map_nil, List.append_nil]; exact A.ext s4)
    | yes r => exact q_yes (t_test (e_op (e_var rfl ty) e_non r_notN)) rfl fun H4 s4 => s_app (l := 0) rfl (A.ext s4) (e_var rfl (ty.stay (.of s4))) (by rw [List.length_map]; omega) fun H5 tk _ A5 => fin H5 ((TupK.of s4).trans tk) A5
/-! rows_of: n counts the levels -/
def spRowsOf (K : PySem.W.Frag) (n : Nat) : Sp := spRL K fun ds es => ∃ r : FRow, ds = [r.d] ∧ es = r.pre.map FRow.d ∧ r.dep < n ∧ r.words.length ≤ 100000
theorem scRowsOf : FnScope ["formula", "rows", "item", "row"] ["formula"] (defScope sRowsOf) := ⟨rfl, rfl, rfl, by decide +kernel, rfl, by decide +kernel, by decide +kernel⟩
theorem ok_rowsof1 {n : Nat} {f : Addr} {fd : FuncData} (F : Fun K "rows_of" "rows_of" sRowsOf f fd) (C_rows_in : Cal P w K mg base CX0 2 "rows_in" ["item"] (spRowsIn K)) (C_rows_of : Cal P w K mg base CX0 (n + 2) "rows_of" ["formula"] (spRowsOf K n)) : FnOk P w K mg base CX0 (n + 3) f fd ["formula"] (spRowsOf K (n + 1)) := by
  have sc := scRowsOf
  refine F.ok scRowsOf (fun vs H Q E h => ?_) (fun cdv A outer s H vs Q E hr h => ?_)
  · obtain ⟨ds, es, l, ⟨n, rfl, _⟩, _⟩ := h
    exact l.len
  · obtain ⟨ds, es, l, ⟨r, rfl, rfl, dep, bnd⟩, k⟩ := h
    cases l with
    | cons t l => cases l with
    | nil =>
    rename_i v
    refine ⟨_, (pss_cons (ps_set (i := 1) sc.nd rfl (Or.inl rfl) (pe_lst (pa_cons (pv 0) pa_nil)))
  (pss_cons (ps_for PassesOwn.never rfl (pi_tup (pv 0)) (pg_name (i := 2) sc.nd rfl (Or.inl rfl))
  (pss_one (ps_for PassesOwn.never rfl (pi_list (pe_cal C_rows_in (hr.mono (by omega)) rfl pass0 (pa_cons (pv 2) pa_nil))) (pg_name (i := 3) sc.nd rfl (Or.inl rfl))
  (pss_one (ps_expr (pe_bm PySem.F.plainAttrs_list PySem.F.slot_list_extend PySem.F.type_list_extend mt_extend (pv 1) (pa_cons (pe_cal C_rows_of (hr.mono (by omega)) rfl pass0 (pa_cons (pv 3) pa_nil)) pa_nil)))))))
  (pss_one (ps_ret (pv 1))))), ?_⟩
    have t : Tp K H v r.d := t
    have ib := inn_row r
    have er : r.d = .tuple (r.items.map FItem.d) := by rw [FRow.d, FRow.ds_eq]
    refine q_setL (l_lst (a_cons (e_var rfl t) a_nil) (Nat.le_of_ble_eq_true rfl)) fun p xs H2 np s2 e l => ?_
    have A0 := Acc.start np s2 e l
    have t := t.stay (.of s2)
    refine q_forT (ds := r.items.map FItem.d) (p := p) (e_var rfl (er ▸ t)) e (fun i σ' H' => ∃ x2 x3, σ' = [some v, some (.ref p), x2, x3] ∧ Acc K H p ((r :: (r.items.take i).flatMap FItem.inn).map FRow.d) H') (fun H3 s3 => ⟨_, _, rfl, by simpa using A0.ext s3⟩) ?_ ?_
    · rintro H3 s3 i d x σ' H' hi ⟨x2, x3, rfl, A⟩ kb tx
      obtain ⟨it, hit, rfl⟩ := get_map hi
      have hmem := List.mem_of_getElem? hit
      have w1 := words_item hmem
      have dI := FRow.dep_le.mp (Nat.le_of_lt_succ dep) it hmem
      have w2 := flat_le (f := FItem.inn) hit
      rw [← FRow.inn_eq] at w2
      have eI := FItem.inn_eq it
      obtain ⟨xs1, e1, l1⟩ := A.lst
      refine g_name ?_
      refine s_forL (p := p) (l_call (a_cons (e_var rfl tx) a_nil) ⟨it, rfl, rfl, by omega⟩) e1 (fun m σ' H' => ∃ x3, σ' = [some v, some (.ref p), some x, x3] ∧ Acc K H p ((r :: ((r.items.take i).flatMap FItem.inn ++ (it.rows.take m).flatMap FRow.pre)).map FRow.d) H') (fun H4 s4 => ⟨_, rfl, by simpa using A.ext s4⟩) ?_ ?_
      · rintro H4 s4 m d y σ' H5 hm ⟨x3, rfl, A5⟩ kb5 ty
        obtain ⟨q, hq, rfl⟩ := get_map hm
        have qm := List.mem_of_getElem? hq
        have w3 := words_rows qm
        have dq := FItem.dep_le.mp dI q qm
        have w4 := flat_le (f := FRow.pre) hq
        rw [← eI] at w4
        refine g_name ?_
        refine s_ext rfl A5 (l_call (a_cons (e_var rfl ty) a_nil) ⟨q, rfl, rfl, by omega, by omega⟩) (by simp only [List.length_map, List.length_cons, List.length_append]; omega) fun H6 tk kb6 A6 => ⟨⟨_, rfl, ?_⟩, kb5.trans kb6⟩
        rw [flat_snoc hq, ← List.append_assoc, ← List.cons_append, List.map_append]
        exact A6
      · rintro σ' H5 ⟨x3, rfl, A5⟩ kb5
        refine ⟨⟨_, _, rfl, ?_⟩, kb.trans kb5⟩
        rw [flat_snoc hit, eI]
        rw [List.length_map, List.take_length] at A5
        exact A5
    · rintro σ' H5 ⟨x2, x3, rfl, A5⟩ kb
      rw [List.length_map, List.take_length, ← FRow.inn_eq] at A5
      exact retAcc k A5 rfl rfl
theorem ok_rowsof {f : Addr} {fd : FuncData} (F : Fun K "rows_of" "rows_of" sRowsOf f fd) (C_rows_in : Cal P w K mg base CX0 2 "rows_in" ["item"] (spRowsIn K)) (hm : mg "rows_of" = some (.ref f)) (hk : PySem.W.keepIn K (.ref f) = true) (hb : Binds K fd ["formula"] []) :
    ∀ n, Cal P w K mg base CX0 (n + 2) "rows_of" ["formula"] (spRowsOf K n)
  | 0 => ⟨f, fd, FnOk.vac fun vs H Q E ⟨_, _, _, ⟨_, _, _, h, _⟩, _⟩ => Nat.not_lt_zero _ h, hm, hk, hb⟩
  | n + 1 => ⟨f, fd, ok_rowsof1 F C_rows_in (ok_rowsof F C_rows_in hm hk hb n), hm, hk, hb⟩
end
end Mg

set_option Elab.async false
set_option linter.all false
set_option maxRecDepth 100000
set_option maxHeartbeats 1000000
namespace Mg
open PySem L2
section
variable {P : Program} {w : World} {K : PySem.W.Frag} {mg : Str → Option Value} {base : Heap}
/-! the words of the normal text; n counts the levels -/
def spRowWords (K : PySem.W.Frag) (n : Nat) : Sp := spRL K fun ds es => ∃ r : FRow, ds = [r.d] ∧ es = r.words.map PyData.str ∧ r.dep < n ∧ r.words.length ≤ 100000
def spBraced (K : PySem.W.Frag) (n : Nat) : Sp := spRL K fun ds es => ∃ r : FRow, ds = [r.d] ∧ es = (braceW r).map PyData.str ∧ r.dep < n ∧ r.words.length ≤ 100000
def spFenceW (K : PySem.W.Frag) (n : Nat) : Sp := spRL K fun ds es => ∃ (o c : Option Str) (r : FRow), ds = [optD o, optD c, r.d] ∧ es = (FNuc.fence o c r).words.map PyData.str ∧ r.dep < n ∧ r.words.length ≤ 100000
def spGridW (K : PySem.W.Frag) (n : Nat) : Sp := spRL K fun ds es => ∃ g : FGrid, ds = [.tuple g.ds] ∧ es = (FNuc.grid g).words.map PyData.str ∧ g.dep ≤ n ∧ (g.words "{").length ≤ 100000
def spNucWords (K : PySem.W.Frag) (n : Nat) : Sp := spRL K fun ds es => ∃ m : FNuc, ds = [m.d] ∧ es = m.words.map PyData.str ∧ m.dep ≤ n ∧ m.words.length ≤ 100000
theorem l_strs {σ : L2.St} {H : Hp} (x : Str) : EvDL K (tLst (tCons (tC (.str x)) tNil)) σ H ([x].map PyData.str) := l_lst (a_cons e_str a_nil) (Nat.le_of_ble_eq_true rfl)
theorem scBraced : FnScope ["row"] ["row"] (defScope sBraced) := ⟨rfl, rfl, rfl, by decide +kernel, rfl, by decide +kernel, by decide +kernel⟩
theorem ok_braced {n : Nat} {f : Addr} {fd : FuncData} (F : Fun K "braced_words" "braced_words" sBraced f fd) (C_row_words : Cal P w K mg base CX0 (3 * n) "row_words" ["row"] (spRowWords K n)) : FnOk P w K mg base CX0 (3 * n + 1) f fd ["row"] (spBraced K n) := by
  have sc := scBraced
  refine F.ok scBraced (fun vs H Q E h => ?_) (fun cdv A outer s H vs Q E hr h => ?_)
  · obtain ⟨ds, es, l, ⟨n, rfl, _⟩, _⟩ := h
    exact l.len
  · obtain ⟨ds, es, l, ⟨r, rfl, rfl, dep, bnd⟩, k⟩ := h
    cases l with
    | cons t l => cases l with
    | nil =>
    refine ⟨_, (pss_one (ps_ret (pe_op op_cat (pe_op op_cat (pe_lst (pa_cons pe_str pa_nil)) (pe_cal C_row_words (hr.mono (by omega)) rfl pass0 (pa_cons (pv 0) pa_nil))) (pe_lst (pa_cons pe_str pa_nil))))), ?_⟩
    refine retL k (Same.refl _) (l_is (l_cat (l_cat (l_strs "{") (l_call (a_cons (e_var rfl t) a_nil) ⟨r, rfl, rfl, dep, bnd⟩) (by simp; omega)) (l_strs "}") (by simp; omega)) ?_) rfl
    simp [braceW]
theorem scFenceW : FnScope ["opening", "closing", "row", "first", "last"] ["opening", "closing", "row"] (defScope sFenceW) := ⟨rfl, rfl, rfl, by decide +kernel, rfl, by decide +kernel, by decide +kernel⟩
theorem none_opt (o : Option Str) : noneD (optD o) = o.isNone := by cases o <;> rfl
theorem ok_fencew {n : Nat} {f : Addr} {fd : FuncData} (F : Fun K "fence_words" "fence_words" sFenceW f fd) (C_row_words : Cal P w K mg base CX0 (3 * n) "row_words" ["row"] (spRowWords K n)) : FnOk P w K mg base CX0 (3 * n + 1) f fd ["opening", "closing", "row"] (spFenceW K n) := by
  have sc := scFenceW
  refine F.ok scFenceW (fun vs H Q E h => ?_) (fun cdv A outer s H vs Q E hr h => ?_)
  · obtain ⟨ds, es, l, ⟨_, _, _, rfl, _⟩, _⟩ := h
    exact l.len
  · obtain ⟨ds, es, l, ⟨o, c, r, rfl, rfl, dep, bnd⟩, k⟩ := h
    cases l with
    | cons to l => cases l with
    | cons tc l => cases l with
    | cons t l => cases l with
    | nil =>
    refine ⟨_, (pss_cons (ps_set (i := 3) sc.nd rfl (Or.inl rfl) (pe_ifExp (pt_cmpR op_isN (pv 0) pe_non (nomark _)) pe_str (pv 0)))
  (pss_cons (ps_set (i := 4) sc.nd rfl (Or.inl rfl) (pe_ifExp (pt_cmpR op_isN (pv 1) pe_non (nomark _)) pe_str (pv 1)))
  (pss_one (ps_ret (pe_op op_cat (pe_op op_cat (pe_lst (pa_cons pe_str (pa_cons (pv 3) pa_nil))) (pe_cal C_row_words (hr.mono (by omega)) rfl pass0 (pa_cons (pv 2) pa_nil))) (pe_lst (pa_cons pe_str (pa_cons (pv 4) pa_nil)))))))), ?_⟩
    have eo : ∀ (o : Option Str) {σ : L2.St} {i : Nat} {v : V} {H : Hp}, σ[i]? = some (some v) → Tp K H v (optD o) → EvD K (tIf (tTest (tOp (fun x y H Q => y = .non ∧ Q (.bl (decide (x = .non))) H) (tVar i) (tC .non))) (tC (.str ".")) (tVar i)) σ H (.str (delimW o)) := fun o σ i v H hv tv =>
      e_if (t_test (e_op (e_var hv tv) e_non r_isN)) (fun z => by
        rw [none_opt] at z
        cases o with
        | none => exact e_str
        | some x => cases z) (fun z => by
        rw [none_opt] at z
        cases o with
        | none => cases z
        | some x => exact e_var hv tv)
    refine q_set (eo o rfl to) fun v1 H1 s1 t1 => ?_
    refine q_set (eo c rfl (tc.stay (.of s1))) fun v2 H2 s2 t2 => ?_
    have s12 := s1.trans s2
    refine retL k s12 (l_is (es := (FNuc.fence o c r).words.map PyData.str) (l_cat (l_cat (l_lst (ds := [.str "@left", .str (delimW o)]) (a_cons e_str (a_cons (e_var rfl (t1.stay (.of s2))) a_nil)) (Nat.le_of_ble_eq_true rfl)) (l_call (a_cons (e_var rfl (t.stay (.of s12))) a_nil) ⟨r, rfl, rfl, dep, bnd⟩) (by simp; omega)) (l_lst (ds := [.str "@right", .str (delimW c)]) (a_cons e_str (a_cons (e_var rfl t2) a_nil)) (Nat.le_of_ble_eq_true rfl)) (by simp; omega)) ?_) rfl
    simp [FNuc.words]
theorem scGridW : FnScope ["rows", "words", "between", "cells", "cell"] ["rows"] (defScope sGridW) := ⟨rfl, rfl, rfl, by decide +kernel, rfl, by decide +kernel, by decide +kernel⟩
theorem cells_snoc {s : Str} : ∀ {c : FCells} {i : Nat} {q : FRow}, c.rows[i]? = some q → ((FCells.of (c.rows.take (i + 1))).words s) = (FCells.of (c.rows.take i)).words s ++ ((if i = 0 then s else "&") :: q.words)
  | .nil, _, _, h => by simp [FCells.rows] at h
  | .cons r c, 0, q, h => by
    cases Option.some.inj h
    simp [FCells.rows, FCells.of, FCells.words]
  | .cons r c, i + 1, q, h => by
    have h : c.rows[i]? = some q := h
    have e := cells_snoc (s := "&") h
    rw [FCells.rows, List.take_succ_cons, List.take_succ_cons, FCells.of, FCells.of, FCells.words, FCells.words, e, if_neg (Nat.succ_ne_zero i)]
    simp
theorem cells_take {s : Str} : ∀ {c : FCells} {i : Nat}, ((FCells.of (c.rows.take i)).words s).length ≤ (c.words s).length
  | .nil, _ => by simp [FCells.rows, FCells.of, FCells.words]
  | .cons r c, 0 => by simp [FCells.of, FCells.words]
  | .cons r c, i + 1 => by
    have := cells_take (s := "&") (c := c) (i := i)
    rw [FCells.rows, List.take_succ_cons, FCells.of, FCells.words, FCells.words]
    simp
    omega
theorem cells_of_rows : ∀ c : FCells, FCells.of c.rows = c
  | .nil => rfl
  | .cons r c => by rw [FCells.rows, FCells.of, cells_of_rows c]
theorem grid_of_lines : ∀ c : FGrid, FGrid.of c.lines = c
  | .nil => rfl
  | .cons r c => by rw [FGrid.lines, FGrid.of, grid_of_lines c]
theorem grid_snoc {s : Str} : ∀ {c : FGrid} {i : Nat} {q : FCells}, c.lines[i]? = some q → ((FGrid.of (c.lines.take (i + 1))).words s) = (FGrid.of (c.lines.take i)).words s ++ q.words (if i = 0 then s else "~")
  | .nil, _, _, h => by simp [FGrid.lines] at h
  | .cons r c, 0, q, h => by
    cases Option.some.inj h
    simp [FGrid.lines, FGrid.of, FGrid.words]
  | .cons r c, i + 1, q, h => by
    have h : c.lines[i]? = some q := h
    have e := grid_snoc (s := "~") h
    rw [FGrid.lines, List.take_succ_cons, List.take_succ_cons, FGrid.of, FGrid.of, FGrid.words, FGrid.words, e, if_neg (Nat.succ_ne_zero i)]
    simp
theorem grid_take {s : Str} : ∀ {c : FGrid} {i : Nat}, ((FGrid.of (c.lines.take i)).words s).length ≤ (c.words s).length
  | .nil, _ => by simp [FGrid.lines, FGrid.of, FGrid.words]
  | .cons r c, 0 => by simp [FGrid.of, FGrid.words]
  | .cons r c, i + 1 => by
    have := grid_take (s := "~") (c := c) (i := i)
    rw [FGrid.lines, List.take_succ_cons, FGrid.of, FGrid.words, FGrid.words]
    simp
    omega
theorem cells_words_len (s t : Str) : ∀ c : FCells, (c.words s).length = (c.words t).length
  | .nil => rfl
  | .cons r c => by rw [FCells.words, FCells.words, List.length_cons, List.length_cons]
theorem line_words : ∀ {g : FGrid} {q : FCells} {s : Str}, q ∈ g.lines → (q.words s).length ≤ (g.words s).length
  | .nil, _, _, h => nomatch h
  | .cons c g, q, s, h => by
    rw [FGrid.words, List.length_append]
    rcases List.mem_cons.mp h with rfl | h
    · omega
    · have := line_words (s := "~") h
      rw [cells_words_len s "~" q]
      omega
theorem lines_all {g : FGrid} {q : FCells} {r : FRow} (h1 : q ∈ g.lines) (h2 : r ∈ q.rows) : r ∈ g.all := by
  rw [FGrid.all_eq]
  exact List.mem_flatMap.mpr ⟨q, h1, h2⟩
theorem ok_gridw {n : Nat} {f : Addr} {fd : FuncData} (F : Fun K "grid_words" "grid_words" sGridW f fd) (C_row_words : Cal P w K mg base CX0 (3 * n) "row_words" ["row"] (spRowWords K n)) : FnOk P w K mg base CX0 (3 * n + 1) f fd ["rows"] (spGridW K n) := by
  have sc := scGridW
  refine F.ok scGridW (fun vs H Q E h => ?_) (fun cdv A outer s H vs Q E hr h => ?_)
  · obtain ⟨ds, es, l, ⟨_, rfl, _⟩, _⟩ := h
    exact l.len
  · obtain ⟨ds, es, l, ⟨g, rfl, rfl, dep, bnd⟩, k⟩ := h
    cases l with
    | cons t l => cases l with
    | nil =>
    rename_i v
    refine ⟨_, (pss_cons (ps_set (i := 1) sc.nd rfl (Or.inl rfl) (pe_lst (pa_cons pe_str pa_nil)))
  (pss_cons (ps_set (i := 2) sc.nd rfl (Or.inl rfl) pe_str)
  (pss_cons (ps_for PassesOwn.never rfl (pi_tup (pv 0)) (pg_name (i := 3) sc.nd rfl (Or.inl rfl))
  (pss_cons (ps_for PassesOwn.never rfl (pi_tup (pv 3)) (pg_name (i := 4) sc.nd rfl (Or.inl rfl))
  (pss_cons (ps_expr (pe_bm PySem.F.plainAttrs_list PySem.F.slot_list_append PySem.F.type_list_append mt_append (pv 1) (pa_cons (pv 2) pa_nil)))
  (pss_cons (ps_expr (pe_bm PySem.F.plainAttrs_list PySem.F.slot_list_extend PySem.F.type_list_extend mt_extend (pv 1) (pa_cons (pe_cal C_row_words (hr.mono (by omega)) rfl pass0 (pa_cons (pv 4) pa_nil)) pa_nil)))
  (pss_one (ps_set (i := 2) sc.nd rfl (Or.inl rfl) pe_str)))))
  (pss_one (ps_set (i := 2) sc.nd rfl (Or.inl rfl) pe_str))))
  (pss_cons (ps_expr (pe_bm PySem.F.plainAttrs_list PySem.F.slot_list_append PySem.F.type_list_append mt_append (pv 1) (pa_cons pe_str pa_nil)))
  (pss_one (ps_ret (pv 1))))))), ?_⟩
    refine q_setL (K := K) (l_strs "@grid") fun p xs H2 np s2 e l => ?_
    have A0 := Acc.start np s2 e l
    have t := t.stay (.of s2)
    refine q_set (K := K) e_str fun vb H3 s3 tb => ?_
    obtain rfl := tp_str tb
    have A1 := A0.ext s3
    have t := t.stay (.of s3)
    obtain ⟨xs1, e1, l1⟩ := A1.lst
    have dL := FGrid.dep_le.mp dep
    refine q_forT (ds := g.lines.map FCells.d) (p := p) (e_var rfl (FGrid.ds_eq g ▸ t)) e1 (fun i σ' H' => ∃ x3 x4, σ' = [some v, some (.ref p), some (.str (if i = 0 then "{" else "~")), x3, x4] ∧ Acc K H p ((("@grid" : Str) :: (FGrid.of (g.lines.take i)).words "{").map PyData.str) H') (fun H4 s4 => ⟨_, _, rfl, by simpa [FGrid.of, FGrid.words] using A1.ext s4⟩) ?_ ?_
    · rintro H4 s4 i d x σ' H' hi ⟨x3, x4, rfl, A⟩ kb tx
      obtain ⟨c, hc, rfl⟩ := get_map hi
      have cm := List.mem_of_getElem? hc
      have tx : Tp K H' x (.tuple (c.rows.map FRow.d)) := FCells.ds_eq c ▸ tx
      obtain ⟨xs2, e2, l2⟩ := A.lst
      have wl := line_words (s := "{") cm
      have gt := grid_take (s := "{") (c := g) (i := i + 1)
      rw [grid_snoc hc, List.length_append, cells_words_len _ "{"] at gt
      refine g_name ?_
      refine q_forT (p := p) (e_var rfl tx) e2 (fun j σ' H' => ∃ x4, σ' = [some v, some (.ref p), some (.str (if j = 0 then (if i = 0 then "{" else "~") else "&")), some x, x4] ∧
        Acc K H p ((("@grid" : Str) :: ((FGrid.of (g.lines.take i)).words "{" ++ (FCells.of (c.rows.take j)).words (if i = 0 then "{" else "~"))).map PyData.str) H') (fun H5 s5 => ⟨_, rfl, by simpa [FCells.of, FCells.words] using A.ext s5⟩) ?_ ?_
      · rintro H5 s5 j d y σ' H6 hj ⟨x4, rfl, A6⟩ kb6 ty
        obtain ⟨q, hq, rfl⟩ := get_map hj
        have qm := List.mem_of_getElem? hq
        have qa := lines_all cm qm
        have dq := dL q qa
        have wq := words_grid (s := "{") qa
        have ct := cells_take (s := "{") (c := c) (i := j + 1)
        rw [cells_snoc hq, List.length_append, List.length_cons] at ct
        have cl := cells_words_len (if i = 0 then "{" else "~") "{" (FCells.of (c.rows.take j))
        refine g_name ?_
        refine q_app rfl A6 (e_var (v := .str (if j = 0 then (if i = 0 then "{" else "~") else "&")) rfl (.str _)) (by simp only [List.length_map, List.length_cons, List.length_append]; omega) fun H7 tk7 kb7 A7 => ?_
        refine q_ext rfl A7 (l_call (a_cons (e_var rfl (ty.stay tk7)) a_nil) ⟨q, rfl, rfl, by omega, by omega⟩) (by simp only [List.length_map, List.length_cons, List.length_append, List.length_nil]; omega) fun H8 tk8 kb8 A8 => ?_
        refine ⟨⟨_, rfl, ?_⟩, (kb6.trans kb7).trans kb8⟩
        rw [cells_snoc hq]
        have A8 : Acc K H p _ H8 := A8
        simpa using A8
      · rintro σ' H6 ⟨x4, rfl, A6⟩ kb6
        refine ⟨⟨_, _, rfl, ?_⟩, kb.trans kb6⟩
        rw [List.length_map, List.take_length, cells_of_rows] at A6
        rw [grid_snoc hc]
        exact A6
    · rintro σ' H5 ⟨x3, x4, rfl, A5⟩ kb
      rw [List.length_map, List.take_length, grid_of_lines] at A5
      refine q_app rfl A5 e_str (by simp only [List.length_map, List.length_cons]; omega) fun H6 _ _ A6 => ?_
      refine retAcc k ?_ rfl rfl
      have A6 : Acc K H p _ H6 := A6
      simpa [FNuc.words] using A6
theorem scNucWords : FnScope ["nucleus", "kind"] ["nucleus"] (defScope sNucWords) := ⟨rfl, rfl, rfl, by decide +kernel, rfl, by decide +kernel, by decide +kernel⟩
theorem ok_nucwords {n : Nat} {f : Addr} {fd : FuncData} (F : Fun K "nucleus_words" "nucleus_words" sNucWords f fd) (C_braced_words : Cal P w K mg base CX0 (3 * n + 1) "braced_words" ["row"] (spBraced K n)) (C_fence_words : Cal P w K mg base CX0 (3 * n + 1) "fence_words" ["opening", "closing", "row"] (spFenceW K n)) (C_grid_words : Cal P w K mg base CX0 (3 * n + 1) "grid_words" ["rows"] (spGridW K n)) :
    FnOk P w K mg base CX0 (3 * n + 2) f fd ["nucleus"] (spNucWords K n) := by
  have sc := scNucWords
  refine F.ok scNucWords (fun vs H Q E h => ?_) (fun cdv A outer s H vs Q E hr h => ?_)
  · obtain ⟨ds, es, l, ⟨_, rfl, _⟩, _⟩ := h
    exact l.len
  · obtain ⟨ds, es, l, ⟨m, rfl, rfl, dep, bnd⟩, k⟩ := h
    cases l with
    | cons t l => cases l with
    | nil =>
    refine ⟨_, (pss_cons (ps_set (i := 1) sc.nd rfl (Or.inl rfl) (pe_ix ix_tup (pv 0) pe_int (fun _ _ => rfl)))
  (pss_cons (ps_if (pt_cmpR op_eq (pv 1) pe_str (nomark _))
  (pss_one (ps_ret (pe_lst (pa_cons (pe_ix ix_tup (pv 0) pe_int (fun _ _ => rfl)) pa_nil))))
  pss_nil)
  (pss_cons (ps_if (pt_cmpR op_eq (pv 1) pe_str (nomark _))
  (pss_one (ps_ret (pe_op op_cat (pe_op op_cat (pe_lst (pa_cons pe_str pa_nil)) (pe_cal C_braced_words (hr.mono (by omega)) rfl pass0 (pa_cons (pe_ix ix_tup (pv 0) pe_int (fun _ _ => rfl)) pa_nil))) (pe_cal C_braced_words (hr.mono (by omega)) rfl pass0 (pa_cons (pe_ix ix_tup (pv 0) pe_int (fun _ _ => rfl)) pa_nil)))))
  pss_nil)
  (pss_cons (ps_if (pt_cmpR op_eq (pv 1) pe_str (nomark _))
  (pss_one (ps_ret (pe_op op_cat (pe_lst (pa_cons pe_str pa_nil)) (pe_cal C_braced_words (hr.mono (by omega)) rfl pass0 (pa_cons (pe_ix ix_tup (pv 0) pe_int (fun _ _ => rfl)) pa_nil)))))
  pss_nil)
  (pss_cons (ps_if (pt_cmpR op_eq (pv 1) pe_str (nomark _))
  (pss_one (ps_ret (pe_cal C_fence_words (hr.mono (by omega)) rfl pass0 (pa_cons (pe_ix ix_tup (pv 0) pe_int (fun _ _ => rfl)) (pa_cons (pe_ix ix_tup (pv 0) pe_int (fun _ _ => rfl)) (pa_cons (pe_ix ix_tup (pv 0) pe_int (fun _ _ => rfl)) pa_nil))))))
  pss_nil)
  (pss_cons (ps_if (pt_cmpR op_eq (pv 1) pe_str (nomark _))
  (pss_one (ps_ret (pe_cal C_grid_words (hr.mono (by omega)) rfl pass0 (pa_cons (pe_ix ix_tup (pv 0) pe_int (fun _ _ => rfl)) pa_nil))))
  pss_nil)
  (pss_one (ps_ret (pe_cal C_braced_words (hr.mono (by omega)) rfl pass0 (pa_cons (pe_ix ix_tup (pv 0) pe_int (fun _ _ => rfl)) pa_nil)))))))))), ?_⟩
    have dp := FNuc.dep_le.mp dep
    have wb : ∀ q ∈ m.rows, q.words.length ≤ 100000 := fun q hq => by
      have := words_nuc hq
      omega
    cases m with
    | sym x =>
      have t : Tp K H _ (.tuple [.str "symbol", .str x]) := t
      refine q_set (e_op (e_var rfl t) e_int (r_ixT rfl)) fun kd H1 s1 tk => ?_
      obtain rfl := tp_str tk
      have t := t.stay (.of s1)
      exact q_yesS rfl (retL k s1 (l_lst (a_cons (e_op (e_var rfl t) e_int (r_ixT rfl)) a_nil) (Nat.le_of_ble_eq_true rfl)) rfl)
    | frac o u =>
      have t : Tp K H _ (.tuple [.str "frac", o.d, u.d]) := t
      refine q_set (e_op (e_var rfl t) e_int (r_ixT rfl)) fun kd H1 s1 tk => ?_
      obtain rfl := tp_str tk
      have t := t.stay (.of s1)
      have b1 := wb o (by simp [FNuc.rows])
      have b2 := wb u (by simp [FNuc.rows])
      have d1 := dp o (by simp [FNuc.rows])
      have d2 := dp u (by simp [FNuc.rows])
      refine q_noS rfl (by decide +kernel) (q_yesS rfl (retL k s1 (l_is (l_cat (l_cat (l_strs "@frac") (l_call (a_cons (e_op (e_var rfl t) e_int (r_ixT rfl)) a_nil) ⟨o, rfl, rfl, by omega, b1⟩) (by simp [braceW]; omega)) (l_call (a_cons (e_op (e_var rfl t) e_int (r_ixT rfl)) a_nil) ⟨u, rfl, rfl, by omega, b2⟩) (by simp [braceW]; omega)) ?_) rfl))
      simp [FNuc.words, braceW]
    | root r =>
      have t : Tp K H _ (.tuple [.str "root", r.d]) := t
      refine q_set (e_op (e_var rfl t) e_int (r_ixT rfl)) fun kd H1 s1 tk => ?_
      obtain rfl := tp_str tk
      have t := t.stay (.of s1)
      have b1 := wb r (by simp [FNuc.rows])
      have d1 := dp r (by simp [FNuc.rows])
      refine q_noS rfl (by decide +kernel) (q_noS rfl (by decide +kernel) (q_yesS rfl (retL k s1 (l_is (l_cat (l_strs "@root") (l_call (a_cons (e_op (e_var rfl t) e_int (r_ixT rfl)) a_nil) ⟨r, rfl, rfl, by omega, b1⟩) (by simp [braceW]; omega)) ?_) rfl)))
      simp [FNuc.words, braceW]
    | fence o c r =>
      have t : Tp K H _ (.tuple [.str "fence", optD o, optD c, r.d]) := t
      refine q_set (e_op (e_var rfl t) e_int (r_ixT rfl)) fun kd H1 s1 tk => ?_
      obtain rfl := tp_str tk
      have t := t.stay (.of s1)
      have b1 := wb r (by simp [FNuc.rows])
      have d1 := dp r (by simp [FNuc.rows])
      refine q_noS rfl (by decide +kernel) (q_noS rfl (by decide +kernel) (q_noS rfl (by decide +kernel) (q_yesS rfl (retL k s1 (l_call (a_cons (e_op (e_var rfl t) e_int (r_ixT rfl)) (a_cons (e_op (e_var rfl t) e_int (r_ixT rfl)) (a_cons (e_op (e_var rfl t) e_int (r_ixT rfl)) a_nil))) ⟨o, c, r, rfl, rfl, by omega, b1⟩) rfl))))
    | grid g =>
      have t : Tp K H _ (.tuple [.str "grid", .tuple g.ds]) := t
      refine q_set (e_op (e_var rfl t) e_int (r_ixT rfl)) fun kd H1 s1 tk => ?_
      obtain rfl := tp_str tk
      have t := t.stay (.of s1)
      have bg : (g.words "{").length ≤ 100000 := by
        have := bnd
        simp [FNuc.words] at this
        omega
      refine q_noS rfl (by decide +kernel) (q_noS rfl (by decide +kernel) (q_noS rfl (by decide +kernel) (q_noS rfl (by decide +kernel) (q_yesS rfl (retL k s1 (l_call (a_cons (e_op (e_var rfl t) e_int (r_ixT rfl)) a_nil) ⟨g, rfl, rfl, dep, bg⟩) rfl)))))
    | group r =>
      have t : Tp K H _ (.tuple [.str "group", r.d]) := t
      refine q_set (e_op (e_var rfl t) e_int (r_ixT rfl)) fun kd H1 s1 tk => ?_
      obtain rfl := tp_str tk
      have t := t.stay (.of s1)
      have b1 := wb r (by simp [FNuc.rows])
      have d1 := dp r (by simp [FNuc.rows])
      refine q_noS rfl (by decide +kernel) (q_noS rfl (by decide +kernel) (q_noS rfl (by decide +kernel) (q_noS rfl (by decide +kernel) (q_noS rfl (by decide +kernel) (retL k s1 (l_call (a_cons (e_op (e_var rfl t) e_int (r_ixT rfl)) a_nil) ⟨r, rfl, rfl, by omega, b1⟩) rfl)))))
theorem scRowWords : FnScope ["row", "words", "nucleus", "below", "above"] ["row"] (defScope sRowWords) := ⟨rfl, rfl, rfl, by decide +kernel, rfl, by decide +kernel, by decide +kernel⟩
theorem ok_rowwords1 {n : Nat} {f : Addr} {fd : FuncData} (F : Fun K "row_words" "row_words" sRowWords f fd) (C_nucleus_words : Cal P w K mg base CX0 (3 * n + 2) "nucleus_words" ["nucleus"] (spNucWords K n)) (C_braced_words : Cal P w K mg base CX0 (3 * n + 1) "braced_words" ["row"] (spBraced K n)) :
    FnOk P w K mg base CX0 (3 * n + 3) f fd ["row"] (spRowWords K (n + 1)) := by
  have sc := scRowWords
  refine F.ok scRowWords (fun vs H Q E h => ?_) (fun cdv A outer s H vs Q E hr h => ?_)
  · obtain ⟨ds, es, l, ⟨_, rfl, _⟩, _⟩ := h
    exact l.len
  · obtain ⟨ds, es, l, ⟨r, rfl, rfl, dep, bnd⟩, k⟩ := h
    cases l with
    | cons t l => cases l with
    | nil =>
    rename_i v
    refine ⟨_, (pss_cons (ps_set (i := 1) sc.nd rfl (Or.inl rfl) (pe_lst pa_nil))
  (pss_cons (ps_for PassesOwn.never rfl (pi_tup (pv 0)) (pg_tup rfl (pgs_cons (pg_name (i := 2) sc.nd rfl (Or.inl rfl)) (pgs_cons (pg_name (i := 3) sc.nd rfl (Or.inl rfl)) (pgs_cons (pg_name (i := 4) sc.nd rfl (Or.inl rfl)) pgs_nil))))
  (pss_cons (ps_expr (pe_bm PySem.F.plainAttrs_list PySem.F.slot_list_extend PySem.F.type_list_extend mt_extend (pv 1) (pa_cons (pe_cal C_nucleus_words (hr.mono (by omega)) rfl pass0 (pa_cons (pv 2) pa_nil)) pa_nil)))
  (pss_cons (ps_if (pt_cmpR op_notN (pv 3) pe_non (nomark _))
  (pss_one (ps_expr (pe_bm PySem.F.plainAttrs_list PySem.F.slot_list_extend PySem.F.type_list_extend mt_extend (pv 1) (pa_cons (pe_op op_cat (pe_lst (pa_cons pe_str pa_nil)) (pe_cal C_braced_words (hr.mono (by omega)) rfl pass0 (pa_cons (pv 3) pa_nil))) pa_nil))))
  pss_nil)
  (pss_one (ps_if (pt_cmpR op_notN (pv 4) pe_non (nomark _))
  (pss_one (ps_expr (pe_bm PySem.F.plainAttrs_list PySem.F.slot_list_extend PySem.F.type_list_extend mt_extend (pv 1) (pa_cons (pe_op op_cat (pe_lst (pa_cons pe_str pa_nil)) (pe_cal C_braced_words (hr.mono (by omega)) rfl pass0 (pa_cons (pv 4) pa_nil))) pa_nil))))
  pss_nil)))))
  (pss_one (ps_ret (pv 1))))), ?_⟩
    have er : r.d = .tuple (r.items.map FItem.d) := by rw [FRow.d, FRow.ds_eq]
    have t : Tp K H v r.d := t
    refine q_setL (K := K) (l_lst a_nil (Nat.le_of_ble_eq_true rfl)) fun p xs H2 np s2 e l => ?_
    have A0 := Acc.start np s2 e l
    have t := t.stay (.of s2)
    refine q_forT (ds := r.items.map FItem.d) (p := p) (e_var rfl (er ▸ t)) e (fun i σ' H' => ∃ x2 x3 x4, σ' = [some v, some (.ref p), x2, x3, x4] ∧ Acc K H p (((r.items.take i).flatMap FItem.words).map PyData.str) H') (fun H3 s3 => ⟨_, _, _, rfl, by simpa using A0.ext s3⟩) ?_ ?_
    · rintro H3 s3 i d x σ' H' hi ⟨x2, x3, x4, rfl, A⟩ kb tx
      obtain ⟨it, hit, rfl⟩ := get_map hi
      have hmem := List.mem_of_getElem? hit
      have w1 := words_item hmem
      have dI := FRow.dep_le.mp (Nat.le_of_lt_succ dep) it hmem
      have w2 := flat_le (f := FItem.words) hit
      rw [← FRow.words_eq] at w2
      cases it with
      | mk m b a =>
      have tx : Tp K H' x (.tuple [m.d, b.d, a.d]) := tx
      rw [FItem.words, List.length_append, List.length_append] at w2 w1
      have dm : m.dep ≤ n ∧ b.dep ≤ n ∧ a.dep ≤ n := by
        rw [FItem.dep] at dI
        omega
      refine g_tup3 tx fun y1 y2 y3 ty1 ty2 ty3 => ?_
      refine q_ext rfl A (l_call (a_cons (e_var rfl ty1) a_nil) ⟨m, rfl, rfl, dm.1, by omega⟩) (by simp only [List.length_map]; omega) fun H4 tk4 kb4 A4 => ?_
      have A4 : Acc K H p _ H4 := A4
      have ty2 := ty2.stay tk4
      have ty3 := ty3.stay tk4
      have fin : ∀ H5, TupK H4 H5 → KeepB p H4 H5 → Acc K H p ((((r.items.take i).flatMap FItem.words).map PyData.str ++ m.words.map PyData.str) ++ (b.words "_").map PyData.str) H5 →
          tIfS (tTest (tOp (fun x y H Q => y = .non ∧ Q (.bl (!decide (x = .non))) H) (tVar 4) (tC .non))) (tDrop (tBM K "list" rExtend (tVar 1) (tCons (tOp rCat (tLst (tCons (tC (.str "^")) tNil)) (tCall (spBraced K n) [] E0 (tCons (tVar 4) tNil))) tNil))) tNext
          { nx := fun σ3 H3_1 => (∃ x2 x3 x4, σ3 = [some v, some (.ref p), x2, x3, x4] ∧ Acc K H p (((r.items.take (i + 1)).flatMap FItem.words).map PyData.str) H3_1) ∧ KeepB p H3 H3_1, ct := fun σ3 H3_1 => (∃ x2 x3 x4, σ3 = [some v, some (.ref p), x2, x3, x4] ∧ Acc K H p (((r.items.take (i + 1)).flatMap FItem.words).map PyData.str) H3_1) ∧ KeepB p H3 H3_1, bk := tRet (tVar 1) { nx := fun _ H' => Q .non H', rt := Q }, rt := Q } [some v, some (.ref p), some y1, some y2, some y3] H5 := by
        intro H5 tk5 kb5 A5
        have ty3 := ty3.stay tk5
        have fin2 : ∀ H6, KeepB p H5 H6 → Acc K H p (((((r.items.take i).flatMap FItem.words).map PyData.str ++ m.words.map PyData.str) ++ (b.words "_").map PyData.str) ++ (a.words "^").map PyData.str) H6 →
            (∃ x2 x3 x4, [some v, some (.ref p), some y1, some y2, some y3] = [some v, some (.ref p), x2, x3, x4] ∧ Acc K H p (((r.items.take (i + 1)).flatMap FItem.words).map PyData.str) H6) ∧ KeepB p H3 H6 := fun H6 kb6 A6 => by
          refine ⟨⟨_, _, _, rfl, ?_⟩, ((kb.trans kb4).trans kb5).trans kb6⟩
          rw [flat_snoc hit, FItem.words]
          simpa using A6
        cases a with
        | no => exact s_when (t_test (e_op (e_var rfl ty3) e_non r_notN)) (fun z => by cases z) fun _ H6 s6 => fin2 H6 (.of s6) (by simpa [FScr.words] using A5.ext s6)
        | yes q =>
          have w3 := words_scr (n := .yes q) (r := q) (s := "^") (List.mem_singleton.mpr rfl)
          have dq := dm.2.2
          rw [FScr.dep] at dq
          refine s_when (t_test (e_op (e_var rfl ty3) e_non r_notN)) (fun _ H6 s6 => ?_) fun z => by cases z
          refine s_ext rfl (A5.ext s6) (l_cat (l_strs "^") (l_call (a_cons (e_var rfl (ty3.stay (.of s6))) a_nil) ⟨q, rfl, rfl, by omega, by omega⟩) (by simp [braceW]; omega)) (by simp [braceW] at w2 ⊢; simp [FScr.words] at w2; omega) fun H7 tk7 kb7 A7 => fin2 H7 ((KeepB.of s6).trans kb7) ?_
          simpa [FScr.words, braceW] using A7
      cases b with
      | no => exact q_no (t_test (e_op (e_var rfl ty2) e_non r_notN)) rfl fun H5 s5 => fin H5 (.of s5) (.of s5) (by simpa [FScr.words] using A4.ext s5)
      | yes q =>
        have w3 := words_scr (n := .yes q) (r := q) (s := "_") (List.mem_singleton.mpr rfl)
        have dq := dm.2.1
        rw [FScr.dep] at dq
        refine q_yes (t_test (e_op (e_var rfl ty2) e_non r_notN)) rfl fun H6 s6 => ?_
        refine s_ext rfl (A4.ext s6) (l_cat (l_strs "_") (l_call (a_cons (e_var rfl (ty2.stay (.of s6))) a_nil) ⟨q, rfl, rfl, by omega, by omega⟩) (by simp [braceW]; omega)) (by simp [braceW] at w2 ⊢; simp [FScr.words] at w2; omega) fun H7 tk7 kb7 A7 => fin H7 ((TupK.of s6).trans tk7) ((KeepB.of s6).trans kb7) ?_
        have A7 : Acc K H p _ H7 := A7
        simpa [FScr.words, braceW] using A7
    · rintro σ' H5 ⟨x2, x3, x4, rfl, A5⟩ kb
      rw [List.length_map, List.take_length, ← FRow.words_eq] at A5
      exact retAcc k A5 rfl rfl
/-- all of them, level by level -/
structure WordsOk (P : Program) (w : World) (K : PySem.W.Frag) (mg : Str → Option Value) (base : Heap) (n : Nat) : Prop where
  row : Cal P w K mg base CX0 (3 * n) "row_words" ["row"] (spRowWords K n)
  brace : Cal P w K mg base CX0 (3 * n + 1) "braced_words" ["row"] (spBraced K n)
  nuc : Cal P w K mg base CX0 (3 * n + 2) "nucleus_words" ["nucleus"] (spNucWords K n)
theorem words_ok {f1 f2 f3 f4 f5 : Addr} {d1 d2 d3 d4 d5 : FuncData} (F1 : Fun K "row_words" "row_words" sRowWords f1 d1) (F2 : Fun K "braced_words" "braced_words" sBraced f2 d2) (F3 : Fun K "nucleus_words" "nucleus_words" sNucWords f3 d3) (F4 : Fun K "fence_words" "fence_words" sFenceW f4 d4) (F5 : Fun K "grid_words" "grid_words" sGridW f5 d5)
    (c1 : mg "row_words" = some (.ref f1) ∧ PySem.W.keepIn K (.ref f1) = true ∧ Binds K d1 ["row"] []) (c2 : mg "braced_words" = some (.ref f2) ∧ PySem.W.keepIn K (.ref f2) = true ∧ Binds K d2 ["row"] []) (c3 : mg "nucleus_words" = some (.ref f3) ∧ PySem.W.keepIn K (.ref f3) = true ∧ Binds K d3 ["nucleus"] [])
    (c4 : mg "fence_words" = some (.ref f4) ∧ PySem.W.keepIn K (.ref f4) = true ∧ Binds K d4 ["opening", "closing", "row"] []) (c5 : mg "grid_words" = some (.ref f5) ∧ PySem.W.keepIn K (.ref f5) = true ∧ Binds K d5 ["rows"] []) : ∀ n, WordsOk P w K mg base n := by
  have step : ∀ n, Cal P w K mg base CX0 (3 * n) "row_words" ["row"] (spRowWords K n) → WordsOk P w K mg base n := fun n h => by
    have hb : Cal P w K mg base CX0 (3 * n + 1) "braced_words" ["row"] (spBraced K n) := ⟨f2, d2, ok_braced F2 h, c2.1, c2.2.1, c2.2.2⟩
    exact ⟨h, hb, f3, d3, ok_nucwords F3 hb ⟨f4, d4, ok_fencew F4 h, c4.1, c4.2.1, c4.2.2⟩ ⟨f5, d5, ok_gridw F5 h, c5.1, c5.2.1, c5.2.2⟩, c3.1, c3.2.1, c3.2.2⟩
  intro n
  induction n with
  | zero => exact step 0 ⟨f1, d1, FnOk.vac fun vs H Q E ⟨_, _, _, ⟨_, _, _, h, _⟩, _⟩ => Nat.not_lt_zero _ h, c1.1, c1.2.1, c1.2.2⟩
  | succ n ih => exact step (n + 1) ⟨f1, d1, ok_rowwords1 F1 ih.nuc ih.brace, c1.1, c1.2.1, c1.2.2⟩
end
end Mg

set_option Elab.async false
set_option linter.all false
set_option maxRecDepth 100000
set_option maxHeartbeats 1000000
namespace Mg
open PySem L2
abbrev sDepthOf : Stmt := top 36
abbrev sTextOf : Stmt := top 37
abbrev sCheckDepth : Stmt := top 26
abbrev sCheckFormula : Stmt := top 32
structure TxtSrc (mg : Str → Option Value) : Prop where
  b_len : mg "len" = none
  b_max : mg "max" = none
  b_sum : mg "sum" = none
  b_enumerate : mg "enumerate" = none
  c_LETTERS : ∃ t, mg "LETTERS" = some (.str cLETTERS t)
  c_DEEPEST : ∃ t, mg "DEEPEST" = some (.int 7 t)
  c_MOST_ITEMS : ∃ t, mg "MOST_ITEMS" = some (.int 80 t)
  c_LONGEST : ∃ t, mg "LONGEST" = some (.int 400 t)
section
variable {P : Program} {w : World} {K : PySem.W.Frag} {mg : Str → Option Value} {base : Heap}
/-! depth_of -/
def spDepthOf (K : PySem.W.Frag) (n : Nat) : Sp := spR K fun ds d => ∃ r : FRow, ds = [r.d] ∧ d = .int (r.dep : Int) ∧ r.dep < n ∧ r.words.length ≤ 100000
theorem scDepthOf : FnScope ["row", "item", "inner"] ["row"] (defScope sDepthOf) := ⟨rfl, rfl, rfl, by decide +kernel, rfl, by decide +kernel, by decide +kernel⟩
theorem allrows_len (r : FRow) : (r.items.flatMap FItem.rows).length ≤ r.words.length := by
  have : ∀ l : List FItem, (l.flatMap FItem.rows).length ≤ (l.flatMap FItem.words).length := by
    intro l
    induction l with
    | nil => exact Nat.le_refl _
    | cons i l ih =>
      have := rows_len i
      rw [List.flatMap_cons, List.flatMap_cons, List.length_append, List.length_append]
      omega
  rw [FRow.words_eq]
  exact this _
theorem ok_depthof1 {n : Nat} {f : Addr} {fd : FuncData} (F : Fun K "depth_of" "depth_of" sDepthOf f fd) (T : TxtSrc mg) (C_rows_in : Cal P w K mg base CX0 2 "rows_in" ["item"] (spRowsIn K)) (C_depth_of : Cal P w K mg base CX0 (n + 2) "depth_of" ["row"] (spDepthOf K n)) : FnOk P w K mg base CX0 (n + 3) f fd ["row"] (spDepthOf K (n + 1)) := by
  have sc := scDepthOf
  refine F.ok scDepthOf (fun vs H Q E h => ?_) (fun cdv A outer s H vs Q E hr h => ?_)
  · obtain ⟨ds, es, l, ⟨_, rfl, _⟩, _⟩ := h
    exact l.len
  · obtain ⟨ds, es, l, ⟨r, rfl, rfl, dep, bnd⟩, k⟩ := h
    cases l with
    | cons t l => cases l with
    | nil =>
    rename_i v
    have hu := hu_of hr
    refine ⟨_, (pss_one (ps_ret (pe_callBK (cr_maxD rfl hu) (by rfl) T.b_max (by decide +kernel) (pa_cons (pe_lc2 (own := [("item", 1), ("inner", 2)]) (vs1 := [2]) (wi1 := iList K (tCall (spRowsIn K) [] E0 (tCons (tVar 1) tNil))) rfl sc.nd (pi_tup (pv 0)) (blkOk_by (own := [("item", 1), ("inner", 2)]) (N := ["row", "item", "inner"]) (sc := defScope sDepthOf) (by decide +kernel)) (by decide) (fun _ _ _ _ _ => (pg_name (i := 1) sc.nd rfl (Or.inl rfl))) (fun _ _ _ _ _ => pts_nil) (fun _ _ _ _ _ => (pi_list (pe_cal C_rows_in (hr.mono (by omega)) rfl pass0 (pa_cons (pv 1) pa_nil)))) (fun _ _ _ _ _ => (pg_name (i := 2) sc.nd rfl (Or.inl rfl))) (fun _ _ _ _ _ => pts_nil) (fun _ _ _ _ _ => (pe_op op_add (pe_cal C_depth_of (hr.mono (by omega)) rfl pass0 (pa_cons (pv 2) pa_nil)) pe_int))) pa_nil) (pk_cons pe_int pk_nil)))), ?_⟩
    have t : Tp K H v r.d := t
    have er : r.d = .tuple (r.items.map FItem.d) := by rw [FRow.d, FRow.ds_eq]
    have al := allrows_len r
    have eg : (r.items.map fun i => i.rows.map fun q => PyData.int (((q.dep + 1 : Nat)) : Int)).flatten = ((r.items.flatMap fun i => i.rows.map fun q => q.dep + 1).map fun m : Nat => (m : Int)).map PyData.int := by
      rw [← List.flatMap_def, List.map_map, List.map_flatMap]
      simp [Function.comp_def]
    have en : (((natMax (r.items.flatMap fun i => i.rows.map fun q => q.dep + 1) : Nat)) : Int) = (r.dep : Int) := by rw [← dep_max]
    refine retD k (Same.refl _) (e_is (e_maxD (l_is (l_lc2 (ds := r.items.map FItem.d) (r.items.map fun i => i.rows.map FRow.d) (r.items.map fun i => i.rows.map fun q => PyData.int (((q.dep + 1 : Nat)) : Int)) (fun H1 s1 => .tup (e_var rfl ((er ▸ t).stay (.of s1)))) (by rw [List.length_map, List.length_map]) (by rw [List.length_map, List.length_map]) ?_ (fun x => rfl) (fun x y => rfl) ?_ ?_ ?_) eg)) (by rw [maxI_nat, en])) rfl
    · rw [eg, List.length_map, List.length_map, List.length_flatMap]
      rw [List.length_flatMap] at al
      simp only [List.length_map]
      omega
    · intro i d f x H1 h1 h2 s1 tx
      obtain ⟨it, hi, rfl⟩ := get_map h1
      obtain ⟨it', hi', rfl⟩ := get_map h2
      rw [hi] at hi'
      cases hi'
      have w1 := words_item (List.mem_of_getElem? hi)
      exact .lst (l_call (a_cons (e_var rfl tx) a_nil) ⟨it, rfl, rfl, by omega⟩)
    · intro i f g h1 h2
      obtain ⟨it, hi, rfl⟩ := get_map h1
      obtain ⟨it', hi', rfl⟩ := get_map h2
      rw [hi] at hi'
      cases hi'
      rw [List.length_map, List.length_map]
    · intro i m d f g a e x y H1 h1 h2 h3 h4 h5 s1 tx ty
      obtain ⟨it, hi, rfl⟩ := get_map h1
      obtain ⟨it', hi', rfl⟩ := get_map h2
      rw [hi] at hi'
      cases hi'
      obtain ⟨it', hi', rfl⟩ := get_map h3
      rw [hi] at hi'
      cases hi'
      obtain ⟨q, hq, rfl⟩ := get_map h4
      obtain ⟨q', hq', rfl⟩ := get_map h5
      rw [hq] at hq'
      cases hq'
      have im := List.mem_of_getElem? hi
      have qm := List.mem_of_getElem? hq
      have w1 := words_item im
      have w2 := words_rows qm
      have d1 := FItem.dep_le.mp (FRow.dep_le.mp (Nat.le_of_lt_succ dep) it im) q qm
      refine e_is (e_op (e_call (a_cons (e_var rfl ty) a_nil) ⟨q, rfl, rfl, by omega, by omega⟩) e_int r_I0i) ?_
      rfl
theorem ok_depthof {f : Addr} {fd : FuncData} (F : Fun K "depth_of" "depth_of" sDepthOf f fd) (T : TxtSrc mg) (C_rows_in : Cal P w K mg base CX0 2 "rows_in" ["item"] (spRowsIn K)) (hm : mg "depth_of" = some (.ref f)) (hk : PySem.W.keepIn K (.ref f) = true) (hb : Binds K fd ["row"] []) :
    ∀ n, Cal P w K mg base CX0 (n + 2) "depth_of" ["row"] (spDepthOf K n)
  | 0 => ⟨f, fd, FnOk.vac fun vs H Q E ⟨_, _, _, ⟨_, _, _, h, _⟩, _⟩ => Nat.not_lt_zero _ h, hm, hk, hb⟩
  | n + 1 => ⟨f, fd, ok_depthof1 F T C_rows_in (ok_depthof F T C_rows_in hm hk hb n), hm, hk, hb⟩
/-! text_of -/
def headLet (w : Str) : Bool := match w.cps.toList with
  | [] => false
  | c :: _ => decide (c ∈ cLETTERS.cps.toList)
def spaceAt (ws : List Str) (k : Nat) : Bool := decide (0 < k) && (headLet (ws.getD k "") && Txt.startswith (ws.getD (k - 1) "") "@")
def partAt (ws : List Str) (k : Nat) : List Str := (if spaceAt ws k = true then [(" " : Str)] else []) ++ [ws.getD k ""]
def partsW (ws : List Str) : List Str := (List.range ws.length).flatMap (partAt ws)
def glueW (ws : List Str) : Str := Txt.join "" (partsW ws)
def spTextOf (K : PySem.W.Frag) (n : Nat) : Sp := spR K fun ds d => ∃ r : FRow, ds = [r.d] ∧ d = .str (glueW r.words) ∧ r.dep < n ∧ r.words.length ≤ 100000 ∧ ∀ x ∈ r.words, 1 ≤ x.length ∧ x.length ≤ 9
theorem scTextOf : FnScope ["formula", "words", "parts", "k", "word"] ["formula"] (defScope sTextOf) := ⟨rfl, rfl, rfl, by decide +kernel, rfl, by decide +kernel, by decide +kernel⟩
theorem head_of {x : Str} (h : 1 ≤ x.length) : ∃ c l, x.cps.toList = c :: l := by
  rw [str_len] at h
  match e : x.cps.toList, h with
  | c :: l, _ => exact ⟨c, l, rfl⟩
theorem parts_len (ws : List Str) (n : Nat) : ((List.range n).flatMap (partAt ws)).length ≤ 2 * n := by
  induction n with
  | zero => exact Nat.le_refl _
  | succ n ih =>
    rw [List.range_succ, List.flatMap_append, List.length_append]
    have : ([n].flatMap (partAt ws)).length ≤ 2 := by
      simp [partAt]
      split <;> simp
    omega
theorem parts_sum (ws : List Str) (h : ∀ x ∈ ws, x.length ≤ 9) (n : Nat) (hn : n ≤ ws.length) : (((List.range n).flatMap (partAt ws)).map (·.length)).sum ≤ 10 * n := by
  induction n with
  | zero => exact Nat.le_refl _
  | succ n ih =>
    have i := ih (by omega)
    rw [List.range_succ, List.flatMap_append, List.map_append, List.sum_append]
    have e : ws[n]? = some (ws[n]'(by omega)) := List.getElem?_eq_getElem (by omega)
    have hx := h _ (List.mem_of_getElem? e)
    have : (([n].flatMap (partAt ws)).map (·.length)).sum ≤ 10 := by
      rw [List.flatMap_cons, List.flatMap_nil, List.append_nil, partAt, getD_of e]
      split
      · simp
        have : (" " : Str).length = 1 := by decide +kernel
        omega
      · simp
        omega
    omega
theorem ok_textof {n : Nat} {f : Addr} {fd : FuncData} (F : Fun K "text_of" "text_of" sTextOf f fd) (T : TxtSrc mg) (C_row_words : Cal P w K mg base CX0 (3 * n) "row_words" ["row"] (spRowWords K n)) : FnOk P w K mg base CX0 (3 * n + 1) f fd ["formula"] (spTextOf K n) := by
  have sc := scTextOf
  refine F.ok scTextOf (fun vs H Q E h => ?_) (fun cdv A outer s H vs Q E hr h => ?_)
  · obtain ⟨ds, es, l, ⟨_, rfl, _⟩, _⟩ := h
    exact l.len
  · obtain ⟨ds, es, l, ⟨r, rfl, rfl, dep, bnd, wk⟩, k⟩ := h
    cases l with
    | cons t l => cases l with
    | nil =>
    rename_i v
    refine ⟨_, (pss_cons (ps_set (i := 1) sc.nd rfl (Or.inl rfl) (pe_cal C_row_words (hr.mono (by omega)) rfl pass0 (pa_cons (pv 0) pa_nil)))
  (pss_cons (ps_set (i := 2) sc.nd rfl (Or.inl rfl) (pe_lst pa_nil))
  (pss_cons (ps_for PassesOwn.never rfl (pi_enum (by rfl) T.b_enumerate (pa_cons (pv 1) pa_nil)) (pg_tup rfl (pgs_cons (pg_name (i := 3) sc.nd rfl (Or.inl rfl)) (pgs_cons (pg_name (i := 4) sc.nd rfl (Or.inl rfl)) pgs_nil)))
  (pss_cons (ps_if (PW.pt (pw_and (pt_cmpR op_gt (pv 3) pe_int (nomark _)) (pw_and (pt_cmpR op_in_sign (pe_ix ix_str (pv 4) pe_int (fun _ _ => rfl)) (pe_gstr rfl T.c_LETTERS) (by rfl)) (pw_and1 (pt_val (pe_m1 PySem.F.slot_str_startswith PySem.F.type_str_startswith mt_startswith (pe_ix ix_list (pv 1) (pe_op op_sub (pv 3) pe_int) (fun _ _ => rfl)) pe_str))))))
  (pss_one (ps_expr (pe_bm PySem.F.plainAttrs_list PySem.F.slot_list_append PySem.F.type_list_append mt_append (pv 2) (pa_cons pe_str pa_nil))))
  pss_nil)
  (pss_one (ps_expr (pe_bm PySem.F.plainAttrs_list PySem.F.slot_list_append PySem.F.type_list_append mt_append (pv 2) (pa_cons (pv 4) pa_nil))))))
  (pss_one (ps_ret (pe_join pe_str (pv 2))))))), ?_⟩
    refine q_setL (l_call (a_cons (e_var rfl t) a_nil) ⟨r, rfl, rfl, dep, bnd⟩) fun p1 xs1 H1 n1 s1 e1 l1 => ?_
    refine q_setL (K := K) (l_lst a_nil (Nat.le_of_ble_eq_true rfl)) fun p2 xs2 H2 n2 s2 e2 l2 => ?_
    obtain ⟨ws, hws⟩ : ∃ ws, r.words = ws := ⟨_, rfl⟩
    rw [hws] at bnd wk l1 k
    have l1 : TpL K H1 xs1 (ws.map PyData.str) := l1
    have A0 : Acc K H p2 [] H2 := Acc.start (s1.free n2) (s1.trans s2) e2 l2
    have ne : p1 ≠ p2 := fun z => by
      rw [z, n2] at e1
      cases e1
    have e1' := s2 _ _ e1
    have l1' := l1.stay (.of s2)
    refine q_enum (p := p2) (ds := ws.map PyData.str) rfl e1' l1' ne e2 (fun i σ' H' => ∃ x3 x4, σ' = [some v, some (.ref p1), some (.ref p2), x3, x4] ∧ Acc K H p2 (((List.range i).flatMap (partAt ws)).map PyData.str) H') ⟨_, _, rfl, A0⟩ ?_ ?_
    · rintro i d x T' σ' H' hi ⟨x3, x4, rfl, A⟩ kb tx hT
      obtain ⟨y, hy, rfl⟩ := get_map hi
      obtain rfl := tp_str tx
      have il := (List.getElem?_eq_some_iff.mp hy).1
      have yk := wk y (List.mem_of_getElem? hy)
      obtain ⟨c, cl, hc⟩ := head_of yk.1
      have sT := same_new (o := .tup [.int (i : Nat), .str y]) hT
      have A := A.ext sT
      have kb := kb.trans (KeepB.of sT)
      have e1T : (upd H' T' (.tup [.int (i : Nat), .str y])) p1 = some (.lst xs1) := kb _ _ e1' ne
      have l1T := l1'.stay (.keep kb e2)
      refine g_tup2 (a := .int (i : Nat)) (b := .str y) (Tp.mk (SqT.of upd_same) (.cons (.int _) (.cons (.str _) .nil))) fun xa xb ta tb => ?_
      obtain rfl := tp_int ta
      obtain rfl := tp_str tb
      have hlet : headLet y = decide (c ∈ cLETTERS.cps.toList) := by
        unfold headLet
        rw [hc]
      have plen := parts_len ws i
      generalize upd H' T' (.tup [.int (i : Nat), .str y]) = HT at A kb e1T l1T ⊢
      have tst : EvDT K (tAnd (tTest (tOp (rI0 fun i j => .bl (decide (j < i))) (tVar 3) (tC (.int 0)))) (tAnd (tTest (tOp (fun x y H Q => ∃ (c : Nat) (z : Str), x = .str ⟨#[c]⟩ ∧ y = .str z ∧ Q (.bl (decide (c ∈ z.cps.toList))) H) (tOp rIxS (tVar 4) (tC (.int 0))) (tC (.str cLETTERS))))
          (tB (tM1 (fun x xs H Q => ∃ a b, x = .str a ∧ xs = [.str b] ∧ Q (.bl (Txt.startswith a b)) H) (tOp (rIxL K) (tVar 1) (tOp (rI0 fun i j => .int (i - j)) (tVar 3) (tC (.int 1)))) (tC (.str "@")))))) [some v, some (.ref p1), some (.ref p2), some (.int (i : Nat)), some (.str y)] HT (spaceAt ws i) := by
        unfold spaceAt
        rw [getD_of hy, hlet]
        refine t_is (t_and (c := decide (c ∈ cLETTERS.cps.toList) && Txt.startswith (ws.getD (i - 1) "") "@") (t_test (e_op (e_var rfl (.int _)) e_int r_I0b)) fun h0 => t_and (t_test (e_op (e_op (e_var rfl (.str _)) e_int (r_ixS (σ := []) hc (by omega))) e_str r_inS)) fun _ => ?_) ?_
        · have h0 : (0 : Int) < (i : Nat) := of_decide_eq_true h0
          have ep : ws[i - 1]? = some (ws[i - 1]'(by omega)) := List.getElem?_eq_getElem (by omega)
          rw [getD_of ep]
          refine t_B (e_starts (e_ixL rfl e1T l1T (e_op (e_var rfl (.int _)) e_int r_I0i) ?_) e_str)
          rw [show ((i : Nat) : Int) - 1 = ((i - 1 : Nat) : Int) by omega]
          exact atI_nat (map_get ep)
        · congr 1
          simp
      have fin : ∀ H3, KeepB p2 HT H3 → Acc K H p2 ((((List.range i).flatMap (partAt ws)) ++ (if spaceAt ws i = true then [(" " : Str)] else [])).map PyData.str) H3 → tDrop (tBM K "list" rAppend (tVar 2) (tCons (tVar 4) tNil))
          { nx := fun σ3 H3_1 => (∃ x3 x4, σ3 = [some v, some (.ref p1), some (.ref p2), x3, x4] ∧ Acc K H p2 (((List.range (i + 1)).flatMap (partAt ws)).map PyData.str) H3_1) ∧ KeepB p2 H2 H3_1, ct := fun σ3 H3_1 => (∃ x3 x4, σ3 = [some v, some (.ref p1), some (.ref p2), x3, x4] ∧ Acc K H p2 (((List.range (i + 1)).flatMap (partAt ws)).map PyData.str) H3_1) ∧ KeepB p2 H2 H3_1, bk := (tRet (tM1 (fun x xs H Q => ∃ a p, ∃ ys : List Str, x = .str a ∧ xs = [.ref p] ∧ (SqL K H p (ys.map V.str) ∨ SqT K H p (ys.map V.str)) ∧ (ys.map (·.length)).sum + ys.length * a.length ≤ 16777216 ∧ Q (.str (Txt.join a ys)) H) (tC (.str "")) (tVar 2))) { nx := fun _ H' => Q .non H', rt := Q }, rt := Q }
          [some v, some (.ref p1), some (.ref p2), some (.int (i : Nat)), some (.str y)] H3 := fun H3 kb3 A3 => by
        refine s_app (l := 0) rfl A3 (e_var rfl (.str _)) (by
          have e1 : (if spaceAt ws i = true then [(" " : Str)] else []).length ≤ 1 := by split <;> simp
          rw [List.length_map, List.length_append]
          omega) fun H4 tk4 kb4 A4 => ⟨⟨_, _, rfl, ?_⟩, (kb.trans kb3).trans kb4⟩
        have A4 : Acc K H p2 _ H4 := A4
        rw [List.range_succ, List.flatMap_append, List.flatMap_cons, List.flatMap_nil, List.append_nil, partAt, getD_of hy, ← List.append_assoc, List.map_append]
        exact A4
      cases hsp : spaceAt ws i with
      | true =>
        rw [hsp] at tst fin
        refine q_yes tst rfl fun H3 s3 => ?_
        refine s_app (l := 0) rfl (A.ext s3) e_str (by rw [List.length_map]; omega) fun H4 tk4 kb4 A4 => fin H4 ((KeepB.of s3).trans kb4) ?_
        rw [if_pos rfl, List.map_append]
        exact A4
      | false =>
        rw [hsp] at tst fin
        refine q_no tst rfl fun H3 s3 => fin H3 (.of s3) ?_
        rw [if_neg Bool.false_ne_true, List.append_nil]
        exact A.ext s3
    · rintro σ' H' ⟨x3, x4, rfl, A⟩ kb
      rw [List.length_map] at A
      obtain ⟨xs, e, l⟩ := A.lst
      have el := TpL.strs (ws := partsW ws) l
      subst el
      refine ⟨⟨_, rfl⟩, _, rfl, "", p2, partsW ws, rfl, rfl, .inl (SqL.of e), ?_, ?_⟩
      · have := parts_sum ws (fun x hx => (wk x hx).2) ws.length (Nat.le_refl _)
        have e0 : ("" : Str).length = 0 := rfl
        rw [e0]
        show ((partsW ws).map (·.length)).sum + _ ≤ _
        unfold partsW
        omega
      · exact k _ _ A.same (.str _)
/-! check_depth, check_formula -/
def spCheckDepth (CTD : Addr) : Sp := fun vs H Q E => ∃ d : Int, vs = [.int d] ∧ (d ≤ 7 → Q .non H) ∧ (7 < d → E (.ref CTD) none H)
theorem scCheckDepth : FnScope ["depth"] ["depth"] (defScope sCheckDepth) := ⟨rfl, rfl, rfl, by decide +kernel, rfl, by decide +kernel, by decide +kernel⟩
theorem ok_checkdepth {CTD : Addr} {f : Addr} {fd : FuncData} (F : Fun K "check_depth" "check_depth" sCheckDepth f fd) (T : TxtSrc mg) (B : ExB K mg "TooDeep" CTD) : FnOk P w K mg base (L2.CX P w) 1 f fd ["depth"] (spCheckDepth CTD) := by
  have sc := scCheckDepth
  refine F.okX scCheckDepth (fun vs H Q E h => ?_) (fun cdv A outer s H vs Q E hr h => ?_)
  · obtain ⟨d, rfl, _⟩ := h
    rfl
  · obtain ⟨d, rfl, k1, k2⟩ := h
    refine ⟨_, (pss_one (ps_if (pt_cmpR op_gt (pv 0) (pe_gint rfl T.c_DEEPEST) (nomark _))
  (pss_one (ps_raise rfl (takes_of rfl rfl rfl rfl) (pmk_own PySem.F.excBase_ValueError B.x B.g B.k (raises_own B.b B.t) rfl)))
  pss_nil)), ?_⟩
    refine ⟨_, rfl, _, _, rfl, rfl, _, rfl, ?_⟩
    by_cases c : 7 < d
    · exact iteP (decide_eq_true c) (k2 c)
    · exact iteN (by simpa using c) (k1 (by omega))
def FRow.count (r : FRow) : Int := (r.pre.map fun q => (q.items.length : Int)).sum
def spCheckFormula (K : PySem.W.Frag) (n : Nat) (CTD CTL : Addr) : Sp := fun vs H Q E => ∃ (v : V) (r : FRow), vs = [v] ∧ Tp K H v r.d ∧ r.dep < n ∧ r.words.length ≤ 100000 ∧ (∀ x ∈ r.words, 1 ≤ x.length ∧ x.length ≤ 9) ∧
  (r.dep ≤ 7 → r.count ≤ 80 → (glueW r.words).length ≤ 400 → ∀ H', Same H H' → Q .non H') ∧ (7 < r.dep → ∀ H', Same H H' → E (.ref CTD) none H') ∧ (r.dep ≤ 7 → 80 < r.count ∨ 400 < (glueW r.words).length → ∀ H', Same H H' → E (.ref CTL) none H')
theorem scCheckFormula : FnScope ["formula", "items", "row"] ["formula"] (defScope sCheckFormula) := ⟨rfl, rfl, rfl, by decide +kernel, rfl, by decide +kernel, by decide +kernel⟩
theorem glue_len (ws : List Str) (h : ∀ x ∈ ws, x.length ≤ 9) : (glueW ws).length ≤ 10 * ws.length := by
  have e : ∀ l : List Str, (Txt.join "" l).length = (l.map (·.length)).sum := by
    intro l
    rw [TL.join_eq, str_len]
    have : ∀ l : List Str, (Str.join "" l).cps.toList.length = (l.map (·.length)).sum := by
      intro l
      induction l with
      | nil => rfl
      | cons x l ih =>
        cases l with
        | nil => simp [Str.join, str_len]
        | cons y r =>
          show (x ++ ("" : Str) ++ Str.join "" (y :: r)).cps.toList.length = _
          rw [List.map_cons, List.sum_cons, ← ih, str_len x]
          show ((x.cps ++ (#[] : Array Nat)) ++ (Str.join "" (y :: r)).cps).toList.length = _
          simp
    exact this l
  rw [glueW, e]
  exact parts_sum ws h ws.length (Nat.le_refl _)
theorem ok_checkformula {n : Nat} {CTD CTL : Addr} {f : Addr} {fd : FuncData} (F : Fun K "check_formula" "check_formula" sCheckFormula f fd) (T : TxtSrc mg) (B : ExB K mg "TooLarge" CTL) (hn : 1 ≤ n) (C_check_depth : Cal P w K mg base (L2.CX P w) 1 "check_depth" ["depth"] (spCheckDepth CTD))
    (C_depth_of : Cal P w K mg base CX0 (n + 2) "depth_of" ["row"] (spDepthOf K n)) (C_rows_of : Cal P w K mg base CX0 (n + 2) "rows_of" ["formula"] (spRowsOf K n)) (C_text_of : Cal P w K mg base CX0 (3 * n + 1) "text_of" ["formula"] (spTextOf K n)) : FnOk P w K mg base (L2.CX P w) (3 * n + 2) f fd ["formula"] (spCheckFormula K n CTD CTL) := by
  have sc := scCheckFormula
  refine F.okX scCheckFormula (fun vs H Q E h => ?_) (fun cdv A outer s H vs Q E hr h => ?_)
  · obtain ⟨v, r, rfl, _⟩ := h
    rfl
  · obtain ⟨v, r, rfl, t, dep, bnd, wk, k1, k2, k3⟩ := h
    refine ⟨_, (pss_cons (ps_expr (pe_cal C_check_depth (hr.mono (by omega)) rfl passX (pa_cons (pe_cal C_depth_of (hr.mono (by omega)) rfl pass0 (pa_cons (pv 0) pa_nil)) pa_nil)))
  (pss_cons (ps_set (i := 1) sc.nd rfl (Or.inl rfl) (pe_callB (cr_sum rfl) (by rfl) T.b_sum (by decide +kernel) (pa_cons (pe_lc (own := [("row", 2)]) rfl sc.nd (pi_list (pe_cal C_rows_of (hr.mono (by omega)) rfl pass0 (pa_cons (pv 0) pa_nil))) (blkOk_by (own := [("row", 2)]) (N := ["formula", "items", "row"]) (sc := defScope sCheckFormula) (by decide +kernel)) (fun _ _ _ _ _ => (pg_name (i := 2) sc.nd rfl (Or.inl rfl))) (fun _ _ _ _ _ => pts_nil) (fun _ _ _ _ _ => (pe_callB (r := rLenQ K) call_lenK (by rfl) T.b_len PySem.boot_len (pa_cons (pv 2) pa_nil)))) pa_nil)))
  (pss_one (ps_if (PW.pt (pw_or (pt_cmpR op_gt (pv 1) (pe_gint rfl T.c_MOST_ITEMS) (nomark _)) (pw_or1 (pt_cmpR op_gt (pe_callB call_len_str (by rfl) T.b_len PySem.boot_len (pa_cons (pe_cal C_text_of (hr.mono (by omega)) rfl pass0 (pa_cons (pv 0) pa_nil)) pa_nil)) (pe_gint rfl T.c_LONGEST) (nomark _)))))
  (pss_one (ps_raise rfl (takes_of rfl rfl rfl rfl) (pmk_own PySem.F.excBase_ValueError B.x B.g B.k (raises_own B.b B.t) rfl)))
  pss_nil)))), ?_⟩
    refine e_call (a_cons (e_var rfl t) a_nil) ⟨r, rfl, rfl, dep, bnd⟩ H (Same.refl _) _ fun vd H1 s1 td => ?_
    obtain rfl := tp_int td
    refine ⟨_, rfl, fun d7 => ?_, fun d7 => k2 (by omega) H1 s1⟩
    have d7' : r.dep ≤ 7 := by omega
    have t1 := t.stay (.of s1)
    refine q_set (e_sum (ns := r.pre.map fun q => (q.items.length : Int)) (l_is (l_lcL (K := K) (es := (r.pre.map fun q => (q.items.length : Int)).map PyData.int) (l_call (a_cons (e_var rfl t1) a_nil) ⟨r, rfl, rfl, dep, bnd⟩) (by simp) ?_ (fun x => rfl) ?_) rfl)) fun v2 H2 s2 t2 => ?_
    · have := inn_row r
      simp [FRow.pre]
      omega
    · intro i d e x H2 h1 h2 s2 tx
      obtain ⟨q, hq, rfl⟩ := get_map h1
      rw [List.map_map] at h2
      obtain ⟨q', hq', rfl⟩ := get_map h2
      rw [hq] at hq'
      cases hq'
      have ex : q.d = .tuple (q.items.map FItem.d) := by rw [FRow.d, FRow.ds_eq]
      refine e_is (e_lenT (ds := q.items.map FItem.d) (fun p xs H Q h hq => ⟨p, xs, rfl, h, fun _ => hq⟩) (e_var rfl (ex ▸ tx))) ?_
      simp
    obtain rfl := tp_int t2
    have t2 := t1.stay (.of s2)
    have ec : (r.pre.map fun q => (q.items.length : Int)).sum = r.count := rfl
    rw [ec]
    refine s_if (K := K) (t_or (t_test (e_op (e_var rfl (.int _)) e_int r_I0b)) fun h80 => t_test (e_op (d1 := .int (glueW r.words).length) ?_ e_int r_I0b)) (fun hb H3 s3 => ?_) fun hb H3 s3 => ?_
    · intro H3 s3 Q3 q3
      refine e_call (a_cons (e_var rfl t2) a_nil) ⟨r, rfl, rfl, dep, bnd, wk⟩ H3 s3 _ fun v4 H4 s4 t4 => ?_
      obtain rfl := tp_str t4
      have := glue_len r.words fun x hx => (wk x hx).2
      exact ⟨_, rfl, sz5 (by omega), q3 _ H4 s4 (.int _)⟩
    · refine k3 d7' ?_ H3 ((s1.trans s2).trans s3)
      simp only [Bool.or_eq_true, decide_eq_true_eq] at hb
      omega
    · simp only [Bool.or_eq_false_iff, decide_eq_false_iff_not] at hb
      exact k1 d7' (by omega) (by omega) H3 ((s1.trans s2).trans s3)
end
end Mg

set_option Elab.async false
set_option linter.all false
set_option maxRecDepth 100000
set_option maxHeartbeats 1000000
namespace Mg.Nw
open PySem PySem.Spec PyProof.Rows L2
/-! the data of older promises -/
mutual
def pd : PyData → Dt
  | .none => .non
  | .bool b => .bl b
  | .int i => .int i
  | .str x => .str x
  | .list l => .lst (pdL l)
  | .tuple l => .tup (pdL l)
  | .dict _ => .non
def pdL : List PyData → List Dt
  | [] => []
  | d :: ds => pd d :: pdL ds
end
theorem pdL_eq : ∀ ds : List PyData, pdL ds = ds.map pd
  | [] => rfl
  | d :: ds => by rw [pdL, pdL_eq ds, List.map_cons]
mutual
def tOnly : PyData → Bool
  | .list _ => false
  | .dict _ => false
  | .tuple l => tOnlyL l
  | _ => true
def tOnlyL : List PyData → Bool
  | [] => true
  | d :: ds => tOnly d && tOnlyL ds
end
theorem tOnlyL_eq : ∀ ds : List PyData, tOnlyL ds = ds.all tOnly
  | [] => rfl
  | d :: ds => by rw [tOnlyL, tOnlyL_eq ds, List.all_cons]
section
variable {M : Md} {A : AS} {K : PySem.W.Frag} {H0 H H1 H2 H' : Hp} {Γ Δ Γ' Γ1 : List Sl} {σ σ' : L2.St} {S : AS} {te ta tb tl : TE} {tas : TA}
theorem isl_of : ∀ {xs : List V} {ds : List Dt}, xs.length = ds.length → (∀ (i : Nat) (x : V) (d : Dt), xs[i]? = some x → ds[i]? = some d → IsD K S H x d) → IsL K S H xs ds
  | [], [], _, _ => .nil
  | [], _ :: _, e, _ => by simp at e
  | _ :: _, [], e, _ => by simp at e
  | x :: xs, d :: ds, e, h => .cons (h 0 x d rfl rfl) (isl_of (by simpa using e) fun i y z h1 h2 => h (i + 1) y z h1 h2)
theorem tp_isd {v : V} {d : PyData} (h : Tp K H v d) : IsD K S H v (pd d) := by
  induction h with
  | non => exact .non
  | bl b => exact .bl b
  | int i => exact .int i
  | str x => exact .str x
  | tup s hl _ ih =>
    rw [pd, pdL_eq]
    refine .tup s (isl_of (by rw [List.length_map, hl]) fun i x d h1 h2 => ?_)
    obtain ⟨e, he, rfl⟩ := Mg.get_map h2
    exact ih i x e h1 he
theorem tpl_isl {vs : List V} {ds : List PyData} : TpL K H vs ds → IsL K S H vs (ds.map pd)
  | .nil => .nil
  | .cons a b => .cons (tp_isd a) (tpl_isl b)
mutual
theorem isd_tp : ∀ (d : PyData), tOnly d = true → ∀ {v : V}, IsD K S H v (pd d) → Tp K H v d
  | .none, _, _, h => by cases h; exact .non
  | .bool b, _, _, h => by cases h; exact .bl _
  | .int b, _, _, h => by cases h; exact .int _
  | .str b, _, _, h => by cases h; exact .str _
  | .tuple l, t, _, h => by
    rw [pd] at h
    obtain ⟨a, xs, rfl, s, q⟩ := isd_tup h
    exact Tp.mk s (isl_tpl l t q)
  | .list _, t, _, _ => by cases t
  | .dict _, t, _, _ => by cases t
theorem isl_tpl : ∀ (ds : List PyData), tOnlyL ds = true → ∀ {vs : List V}, IsL K S H vs (pdL ds) → TpL K H vs ds
  | [], _, _, h => by
    rw [pdL] at h
    cases h
    exact .nil
  | d :: ds, t, _, h => by
    rw [pdL] at h
    rw [tOnlyL, Bool.and_eq_true] at t
    cases h with
    | cons a b => exact .cons (isd_tp d t.1 a) (isl_tpl ds t.2 b)
end
/-- calls of older promises -/
theorem x_callO {R : List PyData → PyData → Prop} {X : XK} {ds : List PyData} {d : PyData} (h : EA M tas Γ (pdL ds)) (t : tOnlyL ds = true) (r : R ds d) : E M (tCall (spR M.K R) [] X tas) Γ (pd d) := fun A H0 σ H e Q q => h A H0 σ H e _ fun vs H1 n1 l => by
  rw [List.append_nil]
  have e1 := e.nx n1
  exact ⟨ds, d, isl_tpl ds t l, r, fun v H2 sm hv => q v H2 (n1.trans (e1.same sm fun a h => sm.free h)) (tp_isd hv)⟩
theorem el_same (e : En M A H0 Γ σ H) (n : Nx M (SA A σ Γ) H H1) (s : Same H1 H2) {p : Addr} {xs : List V} {ds : List Dt} {Q : VK} (hp : H1 p = none) (h2 : H2 p = some (.lst xs)) (l : ∀ S, IsL M.K S H2 xs ds)
    (q : ∀ p xs H', H p = none → Nx M (SA A σ Γ) H H' → H' p = some (.lst xs) → IsL M.K (fun a => SA A σ Γ a ∨ a = p) H' xs ds → M.G (fun a => SA A σ Γ a ∨ a = p) H' → Q (.ref p) H') : Q (.ref p) H2 :=
  have c : ∀ a, (SA A σ Γ a ∨ a = p) → SA A σ Γ a ∨ H1 a = none := fun a h => h.elim .inl fun z => .inr (by rw [z]; exact hp)
  q p xs _ (n.free hp) (n.trans ((e.nx n).same s fun a h => s.free h)) h2 (l _) (M.gs (.of s) (M.gc c n.inv))
theorem xl_callO {R : List PyData → List PyData → Prop} {X : XK} {ds es : List PyData} (h : EA M tas Γ (pdL ds)) (t : tOnlyL ds = true) (r : R ds es) : EL M (tCall (spRL M.K R) [] X tas) Γ (pdL es) := fun A H0 σ H e Q q => h A H0 σ H e _ fun vs H1 n1 l => by
  rw [List.append_nil]
  exact ⟨ds, es, isl_tpl ds t l, r, fun p xs H2 hp sm h2 hx => el_same e n1 sm hp h2 (fun S => by rw [pdL_eq]; exact tpl_isl hx) q⟩
/-! formulas -/
def Sym.dt (s : Sym) : Dt := .tup [.str s.nm, .str s.cl, .int s.wd, .int s.ht, .int s.dp]
theorem pd_sym (s : Sym) : pd s.d = Sym.dt s := rfl
theorem pd_syms (ss : List Sym) : pd (symsD ss) = .tup (ss.map Sym.dt) := by
  unfold symsD
  rw [pd, pdL_eq, List.map_map]
  rfl
theorem pd_ints (ls : List Int) : pd (lensD ls) = .tup (ls.map Dt.int) := by
  unfold lensD
  rw [pd, pdL_eq, List.map_map]
  rfl
def fontT (ss : List Sym) (ls : List Int) : Dt := .tup [.tup (ss.map Sym.dt), .tup (ls.map Dt.int)]
theorem pd_font (ss : List Sym) (ls : List Int) : pd (fontD ss ls) = fontT ss ls := by
  unfold fontD
  rw [pd, pdL, pdL, pdL, pd_syms, pd_ints]
  rfl
theorem tOnly_font (ss : List Sym) (ls : List Int) : tOnly (fontD ss ls) = true := by
  unfold fontD symsD lensD
  rw [tOnly, tOnlyL, tOnlyL, tOnlyL, tOnly, tOnly, tOnlyL_eq, tOnlyL_eq, List.all_map, List.all_map]
  simp [Sym.d, tOnly, tOnlyL]
mutual
theorem tOnly_row : ∀ r : FRow, tOnlyL r.ds = true
  | .nil => rfl
  | .cons i r => by rw [FRow.ds, tOnlyL, tOnly_item i, tOnly_row r]; rfl
theorem tOnly_item : ∀ i : FItem, tOnly i.d = true
  | .mk n b a => by rw [FItem.d, tOnly, tOnlyL, tOnlyL, tOnlyL, tOnlyL, tOnly_nuc n, tOnly_scr b, tOnly_scr a]; rfl
theorem tOnly_scr : ∀ s : FScr, tOnly s.d = true
  | .no => rfl
  | .yes r => by rw [FScr.d, tOnly, tOnly_row r]
theorem tOnly_nuc : ∀ n : FNuc, tOnly n.d = true
  | .sym x => rfl
  | .group r => by simp only [FNuc.d, tOnly, tOnlyL, tOnly_row r]; rfl
  | .frac o u => by simp only [FNuc.d, tOnly, tOnlyL, tOnly_row o, tOnly_row u]; rfl
  | .root r => by simp only [FNuc.d, tOnly, tOnlyL, tOnly_row r]; rfl
  | .fence o c r => by
    simp only [FNuc.d, tOnly, tOnlyL, tOnly_row r]
    cases o <;> cases c <;> rfl
  | .grid g => by simp only [FNuc.d, tOnly, tOnlyL, tOnly_grid g]; rfl
theorem tOnly_grid : ∀ g : FGrid, tOnlyL g.ds = true
  | .nil => rfl
  | .cons c g => by rw [FGrid.ds, tOnlyL, tOnly, tOnly_cells c, tOnly_grid g]; rfl
theorem tOnly_cells : ∀ c : FCells, tOnlyL c.ds = true
  | .nil => rfl
  | .cons r c => by rw [FCells.ds, tOnlyL, tOnly, tOnly_row r, tOnly_cells c]; rfl
end
def optT : Option Str → Dt
  | none => .non
  | some x => .str x
def itemT (i : FItem) : Dt := pd i.d
def rowT (r : FRow) : Dt := .tup (r.items.map itemT)
def scrT : FScr → Dt
  | .no => .non
  | .yes r => rowT r
def nucT : FNuc → Dt
  | .sym x => .tup [.str "symbol", .str x]
  | .group r => .tup [.str "group", rowT r]
  | .frac o u => .tup [.str "frac", rowT o, rowT u]
  | .root r => .tup [.str "root", rowT r]
  | .fence o c r => .tup [.str "fence", optT o, optT c, rowT r]
  | .grid g => .tup [.str "grid", .tup (g.lines.map fun c => .tup (c.rows.map rowT))]
theorem pd_row (r : FRow) : pd r.d = rowT r := by
  rw [FRow.d, FRow.ds_eq, pd, pdL_eq, List.map_map]
  rfl
theorem pdL_row (r : FRow) : pdL r.ds = r.items.map itemT := by
  rw [FRow.ds_eq, pdL_eq, List.map_map]
  rfl
theorem pd_scr (s : FScr) : pd s.d = scrT s := by
  cases s with
  | no => rfl
  | yes r => exact pd_row r
theorem pd_nuc (n : FNuc) : pd n.d = nucT n := by
  cases n with
  | sym x => rfl
  | group r => simp only [FNuc.d, pd, pdL, pdL_row]; rfl
  | root r => simp only [FNuc.d, pd, pdL, pdL_row]; rfl
  | frac o u => simp only [FNuc.d, pd, pdL, pdL_row]; rfl
  | fence o c r =>
    simp only [FNuc.d, pd, pdL, pdL_row]
    cases o <;> cases c <;> rfl
  | grid g =>
    simp only [FNuc.d, pd, pdL, nucT]
    rw [FGrid.ds_eq, pdL_eq, List.map_map]
    congr 4
    apply List.map_congr_left
    intro c _
    show pd c.d = _
    rw [FCells.d, FCells.ds_eq, pd, pdL_eq, List.map_map]
    congr 1
    apply List.map_congr_left
    intro r _
    exact pd_row r
theorem itemT_eq (n : FNuc) (b a : FScr) : itemT (.mk n b a) = .tup [nucT n, scrT b, scrT a] := by
  rw [itemT, FItem.d, pd, pdL, pdL, pdL, pdL, pd_nuc, pd_scr, pd_scr]
/-! the law's helpers upon fonts -/
theorem x_lscaled {n s : Int} {X : XK} (h : EA M tas Γ [.int n, .int s]) (h0 : 0 ≤ s) (h3 : s ≤ 3) : E M (tCall spLScaled [] X tas) Γ (.int (scN n s)) := fun A H0 σ H e Q q => h A H0 σ H e _ fun vs H1 n1 l => by
  rw [List.append_nil]
  rw [isl_ints (ns := [n, s]) l]
  exact ⟨n, s, rfl, h0, h3, fun H2 sm => q _ H2 (n1.trans ((e.nx n1).same sm fun a h => sm.free h)) (.int _)⟩
theorem x_lgap {ss : List Sym} {ls : List Int} {i j : Nat} {x y : Str} {st : Int} {X : XK} (h : EA M tas Γ [fontT ss ls, .str x, .str y, .int st]) (l8 : ls.length = 8) (hi : cKINDS[i]? = some x) (hj : cKINDS[j]? = some y) (h0 : 0 ≤ st) (h3 : st ≤ 3) :
    E M (tCall (spLGap M.K) [] X tas) Γ (.int (spaceOf ls i j st)) := fun A H0 σ H e Q q => h A H0 σ H e _ fun vs H1 n1 l => by
  rw [List.append_nil]
  cases l with
  | cons a l => cases l with
  | cons b l => cases l with
  | cons c l => cases l with
  | cons d l =>
    cases l
    cases isd_str b
    cases isd_str c
    cases isd_int d
    exact ⟨_, ss, ls, i, j, x, y, st, rfl, isd_tp _ (tOnly_font ss ls) (by rw [pd_font]; exact a), l8, hi, hj, h0, h3, fun H2 sm => q _ H2 (n1.trans ((e.nx n1).same sm fun a h => sm.free h)) (.int _)⟩
theorem x_lkinds {ss : List Sym} {ls : List Int} {r : FRow} {X : XK} (h : EA M tas Γ [fontT ss ls, rowT r]) (kn : ∀ i ∈ r.items, nucKn ss i.nuc) (sl : ss.length ≤ 1000) (rl : r.items.length ≤ 100000) :
    EL M (tCall (spLKinds M.K) [] X tas) Γ ((rowCls ss r).map Dt.str) :=
  (xl_callO (ds := [fontD ss ls, r.d]) (es := (rowCls ss r).map PyData.str) (by rw [pdL, pdL, pdL, pd_font, pd_row]; exact h) (by rw [tOnlyL, tOnlyL, tOnlyL, tOnly_font, FRow.d, tOnly, tOnly_row]; rfl) ⟨ss, ls, r, rfl, rfl, kn, sl, rl⟩).is (by rw [pdL_eq, List.map_map]; rfl)
theorem x_lkind {ss : List Sym} {ls : List Int} {n : FNuc} {X : XK} (h : EA M tas Γ [fontT ss ls, nucT n]) (kn : nucKn ss n) (sl : ss.length ≤ 1000) : E M (tCall (spLKind M.K) [] X tas) Γ (.str (nucCl ss n)) :=
  x_callO (ds := [fontD ss ls, n.d]) (d := .str (nucCl ss n)) (by rw [pdL, pdL, pdL, pd_font, pd_nuc]; exact h) (by rw [tOnlyL, tOnlyL, tOnlyL, tOnly_font, tOnly_nuc]; rfl) ⟨ss, ls, n, rfl, rfl, kn, sl⟩
end
end Mg.Nw

set_option Elab.async false
set_option linter.all false
set_option maxRecDepth 100000
set_option maxHeartbeats 1000000
namespace Mg.Nw
open PySem PySem.Spec PyProof.Rows L2
/-! worlds that turn: M b, b tells how what may change stands -/
structure PoB (B : Type) where
  nx : B → List Sl → Prop
  rt : B → Dt → Prop
  bk : B → List Sl → Prop := fun _ _ => False
  ct : B → List Sl → Prop := fun _ _ => False
/-- worlds of one kind -/
structure Fam {B : Type} (M : B → Md) (K : PySem.W.Frag) (C : AS) : Prop where
  k : ∀ b, (M b).K = K
  c : ∀ b, (M b).C = C
def WB {B : Type} (M : B → Md) (b : B) (ts : TS) (Γ : List Sl) (P : PoB B) : Prop := ∀ A H0 D σ H, En (M b) A H0 Γ σ H →
  (∀ b' Γ' σ' H', P.nx b' Γ' → En (M b') A H0 Γ' σ' H' → Go A σ Γ H σ' Γ' H' → D.nx σ' H') →
  (∀ b' Γ' σ' H', P.bk b' Γ' → En (M b') A H0 Γ' σ' H' → Go A σ Γ H σ' Γ' H' → D.bk σ' H') →
  (∀ b' Γ' σ' H', P.ct b' Γ' → En (M b') A H0 Γ' σ' H' → Go A σ Γ H σ' Γ' H' → D.ct σ' H') →
  (∀ b' v d H', P.rt b' d → Nx (M b') A H0 H' → IsD (M b').K A H' v d → D.rt v H') → ts D σ H
/-- an expression that may turn the world: R tells the worlds and the data -/
def EB {B : Type} (M : B → Md) (b : B) (te : TE) (Γ : List Sl) (R : B → Dt → Prop) : Prop := ∀ A H0 σ H, En (M b) A H0 Γ σ H → ∀ Q : VK, (∀ b' v d H', R b' d → Nx (M b') (SA A σ Γ) H H' → IsD (M b').K (SA A σ Γ) H' v d → Q v H') → te σ H Q
section
variable {B : Type} {M : B → Md} {b b' : B} {K : PySem.W.Frag} {C A : AS} {H0 H H1 H' : Hp} {Γ Δ Γ' Γ1 : List Sl} {σ σ' σ1 : L2.St} {d : Dt} {ds : List Dt} {te : TE} {t : TT} {c : Bool} {tu tw tz ts : TS} {P : PoB B} {g : TG} {D : Ends} {wi : TI} {js : List Nat} {R : B → Dt → Prop}
theorem En.turn (F : Fam M K C) (e : En (M b) A H0 Γ σ H) (n : Nx (M b') (SA A σ Γ) H H1) : En (M b') A H0 Γ σ H1 := by
  have hk : (M b').K = (M b).K := by rw [F.k, F.k]
  have hc : (M b').C = (M b).C := by rw [F.c, F.c]
  have sf : Fr (SA A σ Γ) H H1 := n.fr.mono n.cS
  refine ⟨e.len, fun i s h => ?_, e.inj, ?_, e.new, e.nA, fun a h => ?_, n.inv, fun a h => e.cA a (by rw [← hc]; exact h)⟩
  · have q := e.at' i s h
    cases s with
    | any => exact q
    | f d =>
      obtain ⟨v, h1, h2⟩ := q
      exact ⟨v, h1, by rw [hk]; exact h2.stay sf⟩
    | o ds =>
      obtain ⟨p, xs, h1, h2, h3⟩ := q
      refine ⟨p, xs, h1, n.fr.no h2 fun z => ?_, by rw [hk]; exact h3.stay sf⟩
      rw [hc] at z
      exact e.ownC ⟨i, ds, h, h1⟩ z
  · rw [hc]
    exact e.fr.trans (by rw [← hc]; exact n.fr)
  · by_cases z : (M b').C a
    · exact n.al a z
    · obtain ⟨o, ho⟩ := e.av a h
      exact ⟨o, n.fr.no ho z⟩
theorem Nx.goB (F : Fam M K C) (e : En (M b) A H0 Γ σ H) (n : Nx (M b') (SA A σ Γ) H H1) : Go A σ Γ H σ Γ H1 := ⟨n.fr.mono n.cS, fun _ h => .inl h, fun a h => by
  cases z : H a with
  | none => rfl
  | some o =>
    by_cases c : (M b').C a
    · obtain ⟨o, ho⟩ := n.al a c
      rw [h] at ho
      cases ho
    · rw [n.fr.no z c] at h
      cases h⟩
theorem WB.go (k : WB M b' tz Γ1 P) (e1 : En (M b') A H0 Γ1 σ1 H1) (g1 : Go A σ Γ H σ1 Γ1 H1)
    (kn : ∀ b' Γ' σ' H', P.nx b' Γ' → En (M b') A H0 Γ' σ' H' → Go A σ Γ H σ' Γ' H' → D.nx σ' H') (kb : ∀ b' Γ' σ' H', P.bk b' Γ' → En (M b') A H0 Γ' σ' H' → Go A σ Γ H σ' Γ' H' → D.bk σ' H')
    (kc : ∀ b' Γ' σ' H', P.ct b' Γ' → En (M b') A H0 Γ' σ' H' → Go A σ Γ H σ' Γ' H' → D.ct σ' H') (kr : ∀ b' v d H', P.rt b' d → Nx (M b') A H0 H' → IsD (M b').K A H' v d → D.rt v H') : tz D σ1 H1 :=
  k A H0 D σ1 H1 e1 (fun b' Γ' σ' H' p e' g' => kn b' Γ' σ' H' p e' (g1.trans e1 g')) (fun b' Γ' σ' H' p e' g' => kb b' Γ' σ' H' p e' (g1.trans e1 g')) (fun b' Γ' σ' H' p e' g' => kc b' Γ' σ' H' p e' (g1.trans e1 g')) kr
theorem wb_of (h : W (M b) ts Γ ⟨P.nx b, P.rt b, P.bk b, P.ct b⟩) : WB M b ts Γ P := fun A H0 D σ H e kn kb kc kr =>
  h A H0 D σ H e (fun Γ' σ' H' p => kn b Γ' σ' H' p) (fun Γ' σ' H' p => kb b Γ' σ' H' p) (fun Γ' σ' H' p => kc b Γ' σ' H' p) (fun v d H' p => kr b v d H' p)
theorem wb_seq (h : WB M b ts Γ { P with nx := fun b' Γ' => WB M b' tz Γ' P }) : WB M b (tSeq ts tz) Γ P := fun A H0 D σ H e kn kb kc kr =>
  h A H0 { D with nx := tz D } σ H e (fun b' Γ' σ' H' p e' g' => WB.go (D := D) (P := P) p e' g' kn kb kc kr) kb kc kr
/-- a statement that leaves the world -/
theorem wb_seqW (h : W (M b) ts Γ ⟨fun Γ' => WB M b tz Γ' P, P.rt b, P.bk b, P.ct b⟩) : WB M b (tSeq ts tz) Γ P := wb_seq (wb_of h)
theorem wb_sub (s : Sub Γ Δ) (h : WB M b ts Δ P) : WB M b ts Γ P := fun A H0 D σ H e kn kb kc kr =>
  WB.go (P := P) h (e.sub s) (Go.refl.sub s) kn kb kc kr
theorem sb_drop (F : Fam M K C) (h : EB M b te Γ R) (k : ∀ b' d, R b' d → P.nx b' Γ) : WB M b (tDrop te) Γ P := fun A H0 D σ H e kn kb kc kr => h A H0 σ H e _ fun b' v d H1 r n1 tv => kn b' _ _ _ (k b' d r) (e.turn F n1) (n1.goB F e)
theorem wb_drop (F : Fam M K C) (h : EB M b te Γ R) (k : ∀ b' d, R b' d → WB M b' tz Γ P) : WB M b (tSeq (tDrop te) tz) Γ P := wb_seq (sb_drop F h k)
theorem sb_set (F : Fam M K C) {i : Nat} (h : EB M b te Γ R) (k : ∀ b' d, R b' d → P.nx b' (Γ.set i (.f d))) : WB M b (tAsg te (gName i)) Γ P := fun A H0 D σ H e kn kb kc kr => h A H0 σ H e _ fun b' v d H1 r n1 tv => by
  have e1 := (e.turn F n1).setf (i := i) tv
  exact kn b' _ _ _ (k b' d r) e1 ((n1.goB F e).trans (e.turn F n1) Go.setf)
theorem wb_set (F : Fam M K C) {i : Nat} (h : EB M b te Γ R) (k : ∀ b' d, R b' d → WB M b' tz (Γ.set i (.f d)) P) : WB M b (tSeq (tAsg te (gName i)) tz) Γ P := wb_seq (sb_set F h k)
theorem wb_if (h : ET (M b) t Γ c) (h1 : c = true → WB M b tu Γ P) (h2 : c = false → WB M b tw Γ P) : WB M b (tIfS t tu tw) Γ P := fun A H0 D σ H e kn kb kc kr => h A H0 σ H e _ fun H1 n1 => by
  cases c with
  | true => exact iteT (WB.go (P := P) (h1 rfl) (e.nx n1) n1.go kn kb kc kr)
  | false => exact iteF (WB.go (P := P) (h2 rfl) (e.nx n1) n1.go kn kb kc kr)
theorem wb_for (F : Fam M K C) (h : IT (M b) wi Γ ds) (I : Nat → B → List Sl → Prop) (h0 : I 0 b Γ)
    (hs : ∀ i b' Γi d, I i b' Γi → ds[i]? = some d → ∃ Δ Γ1 js, Sub Γi Δ ∧ GT K g Δ d Γ1 js ∧ WB M b' tu Γ1 { nx := I (i + 1), ct := I (i + 1), bk := P.nx, rt := P.rt }) (hd : ∀ b' Γn, I ds.length b' Γn → P.nx b' Γn) : WB M b (tFor wi g tu) Γ P := fun A H0 D σ H e kn kb kc kr =>
  h A H0 σ H e _ fun J H1 n1 ok => by
    have e1 := e.nx n1
    refine Mg.for_word (n := ds.length) (fun i σ' H' => ∃ bi Γi, I i bi Γi ∧ En (M bi) A H0 Γi σ' H' ∧ Go A σ Γ H1 σ' Γi H') ⟨b, Γ, h0, e1, .refl⟩ (fun i σ' H' hi ⟨bi, Γi, _, q⟩ => (ok H' q.2.fr q.2.al).1 i hi) (fun σ' H' ⟨bi, Γi, _, q⟩ => (ok H' q.2.fr q.2.al).2.1) (fun i x σ' H' H'' hi q y => ?_) (fun σ' H' ⟨bi, Γi, p, q⟩ => kn _ _ _ _ (hd _ _ p) q.1 (n1.go.trans e1 q.2))
    obtain ⟨bi, Γi, pi, e2, g2⟩ := q
    obtain ⟨sm, al, dat⟩ := (ok H' g2.fr g2.al).2.2 i x H'' y
    obtain ⟨Δ, Γ1, js, sb, tg, body⟩ := hs i bi Γi _ pi (List.getElem?_eq_getElem hi)
    have g2 := g2.sub sb
    have e2 := e2.sub sb
    have n3 := e2.same sm al
    have dx := dat _ (List.getElem?_eq_getElem hi) (SA A σ' Δ) (fun a z => z.elim (fun z => .inl (.inl z)) fun z => (g2.ow a z).elim (fun z => .inl (.inr z)) .inr) e2.sv
    rw [F.k] at dx
    refine tg (M bi) A H0 σ' H'' x (F.k bi) (e2.nx n3) dx _ fun σ3 e3 t3 => ?_
    have g3 : Go A σ Γ H1 σ3 Γ1 H'' := (g2.trans e2 n3.go).trans (e2.nx n3) t3.go
    refine body A H0 _ σ3 H'' e3 (fun b' Γ' σ4 H4 p e4 g4 => ⟨b', Γ', p, e4, g3.trans e3 g4⟩) (fun b' Γ' σ4 H4 p e4 g4 => kn _ _ _ _ p e4 (n1.go.trans e1 (g3.trans e3 g4))) (fun b' Γ' σ4 H4 p e4 g4 => ⟨b', Γ', p, e4, g3.trans e3 g4⟩) kr
/-! objects -/
/-- a method's call, a field, a call by any promise -/
theorem x_meth {M : Md} {P : AS → Hp → V → Prop} {CC : Addr} {m : Str} {sp : Sp} {X : XK} {ta : TE} {tas : TA} (ho : E M ta Γ (.obj P)) (hP : ∀ S H v, P S H v → ∃ a dx fs, v = .ref a ∧ H a = some (.ins CC dx fs) ∧ fs.lookup m = none) (hs : EA M tas Γ ds)
    (h : ∀ S v vs H Q, P S H v → IsL M.K S H vs ds → (∀ v' H', Same H H' → IsD M.K S H' v' d → Q v' H') → sp (v :: vs) H Q X) : E M (tMeth CC m sp [] X ta tas) Γ d := fun A H0 σ H e Q q => ho A H0 σ H e _ fun v H1 n1 tv => by
  have pv := isd_obj tv
  obtain ⟨a, dx, fs, rfl, h1, h2⟩ := hP _ _ _ pv
  refine ⟨a, dx, fs, rfl, h1, h2, hs A H0 σ H1 (e.nx n1) _ fun vs H2 n2 l => ?_⟩
  rw [List.append_nil]
  have e2 := (e.nx n1).nx n2
  exact h (SA A σ Γ) _ vs H2 Q (isd_obj (tv.stay n2.sf)) l fun v' H3 sm hv => q v' H3 ((n1.trans n2).trans (e2.same sm fun a h => sm.free h)) hv
theorem x_fld {M : Md} {P : AS → Hp → V → Prop} {f : Str} {ta : TE} (ho : E M ta Γ (.obj P)) (hP : ∀ S H v, P S H v → ∃ a CC dx fs u, v = .ref a ∧ H a = some (.ins CC dx fs) ∧ Cls M.K CC ∧ NoAttr M.K CC f ∧ fs.lookup f = some u ∧ IsD M.K S H u d) : E M (tFld M.K ta f) Γ d := fun A H0 σ H e Q q => ho A H0 σ H e _ fun v H1 n1 tv => by
  obtain ⟨a, CC, dx, fs, u, rfl, h1, h2, h3, h4, h5⟩ := hP _ _ _ (isd_obj tv)
  exact ⟨a, CC, dx, fs, u, rfl, h1, h2, h3, h4, q u H1 n1 h5⟩
theorem x_callG {M : Md} {sp : Sp} {X : XK} {tas : TA} (hs : EA M tas Γ ds) (h : ∀ S vs H Q, (∀ a, S a → ∃ o, H a = some o) → IsL M.K S H vs ds → (∀ v' H', Same H H' → IsD M.K S H' v' d → Q v' H') → sp vs H Q X) : E M (tCall sp [] X tas) Γ d := fun A H0 σ H e Q q => hs A H0 σ H e _ fun vs H1 n1 l => by
  rw [List.append_nil]
  have e1 := e.nx n1
  exact h (SA A σ Γ) vs H1 Q e1.sv l fun v' H3 sm hv => q v' H3 (n1.trans (e1.same sm fun a h => sm.free h)) hv
end
end Mg.Nw

set_option Elab.async false
set_option linter.all false
set_option maxRecDepth 100000
set_option maxHeartbeats 1000000
namespace Mg
open PySem L2
/-! formulas whose symbols and delimiters are of a kind, whose grids are small and even -/
section
variable (P : Str → Prop) (D : Option Str → Prop)
mutual
def FRow.good : FRow → Prop
  | .nil => True
  | .cons i r => i.good ∧ r.good
def FItem.good : FItem → Prop
  | .mk n b a => n.good ∧ b.good ∧ a.good
def FScr.good : FScr → Prop
  | .no => True
  | .yes r => r.good
def FNuc.good : FNuc → Prop
  | .sym x => P x
  | .group r => r.good
  | .frac o u => o.good ∧ u.good
  | .root r => r.good
  | .fence o c r => D o ∧ D c ∧ r.good
  | .grid g => g.good ∧ (1 ≤ g.lines.length ∧ g.lines.length ≤ 6) ∧ ∃ m, 1 ≤ m ∧ m ≤ 6 ∧ ∀ c ∈ g.lines, c.rows.length = m
def FGrid.good : FGrid → Prop
  | .nil => True
  | .cons c g => c.good ∧ g.good
def FCells.good : FCells → Prop
  | .nil => True
  | .cons r c => r.good ∧ c.good
end
theorem FRow.good_iff : ∀ {r : FRow}, r.good P D ↔ ∀ i ∈ r.items, i.good P D
  | .nil => by simp [FRow.good, FRow.items]
  | .cons i r => by rw [FRow.good, FRow.items, List.forall_mem_cons, ← FRow.good_iff (r := r)]
theorem FCells.good_iff : ∀ {r : FCells}, r.good P D ↔ ∀ i ∈ r.rows, i.good P D
  | .nil => by simp [FCells.good, FCells.rows]
  | .cons i r => by rw [FCells.good, FCells.rows, List.forall_mem_cons, ← FCells.good_iff (r := r)]
theorem FGrid.good_iff : ∀ {r : FGrid}, r.good P D ↔ ∀ i ∈ r.lines, i.good P D
  | .nil => by simp [FGrid.good, FGrid.lines]
  | .cons i r => by rw [FGrid.good, FGrid.lines, List.forall_mem_cons, ← FGrid.good_iff (r := r)]
end
/-! the words are of a kind, too -/
section
variable {P : Str → Prop} {D : Option Str → Prop} {W : Str → Prop}
structure WKind (P : Str → Prop) (D : Option Str → Prop) (W : Str → Prop) : Prop where
  p : ∀ x, P x → W x
  d : ∀ o, D o → W (delimW o)
  m : ∀ x ∈ ([("{" : Str), "}", "_", "^", "&", "~", "@frac", "@root", "@left", "@right", "@grid"] : List Str), W x
mutual
theorem words_row (K : WKind P D W) : ∀ {r : FRow}, r.good P D → ∀ x ∈ r.words, W x
  | .nil, _, x, h => nomatch h
  | .cons i r, g, x, h => (List.mem_append.mp h).elim (words_it K g.1 x) (words_row K g.2 x)
theorem words_it (K : WKind P D W) : ∀ {r : FItem}, r.good P D → ∀ x ∈ r.words, W x
  | .mk n b a, g, x, h => (List.mem_append.mp h).elim (words_nu K g.1 x) fun h => (List.mem_append.mp h).elim (words_sc K (s := "_") (K.m _ (by decide)) g.2.1 x) (words_sc K (s := "^") (K.m _ (by decide)) g.2.2 x)
theorem words_sc (K : WKind P D W) {s : Str} (hs : W s) : ∀ {r : FScr}, r.good P D → ∀ x ∈ r.words s, W x
  | .no, _, x, h => nomatch h
  | .yes r, g, x, h => by
    simp only [FScr.words, List.mem_cons, List.mem_append, List.not_mem_nil, or_false] at h
    rcases h with rfl | rfl | h | rfl
    · exact hs
    · exact K.m _ (by decide)
    · exact words_row K g x h
    · exact K.m _ (by decide)
theorem words_nu (K : WKind P D W) : ∀ {r : FNuc}, r.good P D → ∀ x ∈ r.words, W x
  | .sym y, g, x, h => by
    cases List.mem_singleton.mp h
    exact K.p _ g
  | .group r, g, x, h => by
    simp only [FNuc.words, List.mem_cons, List.mem_append, List.not_mem_nil, or_false] at h
    rcases h with rfl | h | rfl
    · exact K.m _ (by decide)
    · exact words_row K g x h
    · exact K.m _ (by decide)
  | .root r, g, x, h => by
    simp only [FNuc.words, List.mem_cons, List.mem_append, List.not_mem_nil, or_false] at h
    rcases h with rfl | rfl | h | rfl
    · exact K.m _ (by decide)
    · exact K.m _ (by decide)
    · exact words_row K g x h
    · exact K.m _ (by decide)
  | .frac o u, g, x, h => by
    simp only [FNuc.words, List.mem_cons, List.mem_append, List.not_mem_nil, or_false] at h
    rcases h with rfl | rfl | h | rfl | rfl | h | rfl
    · exact K.m _ (by decide)
    · exact K.m _ (by decide)
    · exact words_row K g.1 x h
    · exact K.m _ (by decide)
    · exact K.m _ (by decide)
    · exact words_row K g.2 x h
    · exact K.m _ (by decide)
  | .fence o c r, g, x, h => by
    simp only [FNuc.words, List.mem_cons, List.mem_append, List.not_mem_nil, or_false] at h
    rcases h with rfl | rfl | h | rfl | rfl
    · exact K.m _ (by decide)
    · exact K.d _ g.1
    · exact words_row K g.2.2 x h
    · exact K.m _ (by decide)
    · exact K.d _ g.2.1
  | .grid q, g, x, h => by
    simp only [FNuc.words, List.mem_cons, List.mem_append, List.not_mem_nil, or_false] at h
    rcases h with rfl | h | rfl
    · exact K.m _ (by decide)
    · exact words_gr K (s := "{") (K.m _ (by decide)) g.1 x h
    · exact K.m _ (by decide)
theorem words_gr (K : WKind P D W) {s : Str} (hs : W s) : ∀ {r : FGrid}, r.good P D → ∀ x ∈ r.words s, W x
  | .nil, _, x, h => nomatch h
  | .cons i r, g, x, h => (List.mem_append.mp h).elim (words_ce K hs g.1 x) (words_gr K (s := "~") (K.m _ (by decide)) g.2 x)
theorem words_ce (K : WKind P D W) {s : Str} (hs : W s) : ∀ {r : FCells}, r.good P D → ∀ x ∈ r.words s, W x
  | .nil, _, x, h => nomatch h
  | .cons i r, g, x, h => by
    simp only [FCells.words, List.mem_cons, List.mem_append] at h
    rcases h with rfl | h | h
    · exact hs
    · exact words_row K g.1 x h
    · exact words_ce K (s := "&") (K.m _ (by decide)) g.2 x h
end
end
end Mg

set_option Elab.async false
set_option linter.all false
set_option maxRecDepth 100000
set_option maxHeartbeats 1000000
namespace Mg
open PySem L2
/-! texts as they are written: trees whose leaves are words -/
mutual
inductive CRow where
  | nil | cons (i : CItem) (r : CRow)
inductive CItem where
  | mk (n : CNuc) (s : CScr)
inductive CScr where
  | no | b (x : CArg) | a (x : CArg) | ba (x y : CArg) | ab (x y : CArg)
inductive CArg where
  | one (x : Str) | brace (r : CRow)
inductive CNuc where
  | sym (x : Str) | group (r : CRow) | frac (o u : CArg) | root (r : CArg) | fence (o c : Str) (r : CRow) | grid (g : CGrid)
inductive CGrid where
  | nil | cons (c : CCells) (g : CGrid)
inductive CCells where
  | nil | cons (r : CRow) (c : CCells)
end
mutual
def CRow.ws : CRow → List Str
  | .nil => []
  | .cons i r => i.ws ++ r.ws
def CItem.ws : CItem → List Str
  | .mk n s => n.ws ++ s.ws
def CScr.ws : CScr → List Str
  | .no => []
  | .b x => "_" :: x.ws
  | .a x => "^" :: x.ws
  | .ba x y => "_" :: (x.ws ++ ("^" : Str) :: y.ws)
  | .ab x y => "^" :: (x.ws ++ ("_" : Str) :: y.ws)
def CArg.ws : CArg → List Str
  | .one x => [x]
  | .brace r => "{" :: (r.ws ++ [("}" : Str)])
def CNuc.ws : CNuc → List Str
  | .sym x => [x]
  | .group r => "{" :: (r.ws ++ [("}" : Str)])
  | .frac o u => "@frac" :: (o.ws ++ u.ws)
  | .root r => "@root" :: r.ws
  | .fence o c r => "@left" :: o :: (r.ws ++ [("@right" : Str), c])
  | .grid g => "@grid" :: (g.ws "{" ++ [("}" : Str)])
def CGrid.ws (s : Str) : CGrid → List Str
  | .nil => []
  | .cons c g => c.ws s ++ g.ws "~"
def CCells.ws (s : Str) : CCells → List Str
  | .nil => []
  | .cons r c => s :: (r.ws ++ c.ws "&")
end
def optW (x : Str) : Option Str := if x = "." then none else some x
mutual
def CRow.f : CRow → FRow
  | .nil => .nil
  | .cons i r => .cons i.f r.f
def CItem.f : CItem → FItem
  | .mk n s => .mk n.f s.lo s.hi
def CScr.lo : CScr → FScr
  | .no => .no
  | .b x => .yes x.f
  | .a _ => .no
  | .ba x _ => .yes x.f
  | .ab _ y => .yes y.f
def CScr.hi : CScr → FScr
  | .no => .no
  | .b _ => .no
  | .a x => .yes x.f
  | .ba _ y => .yes y.f
  | .ab x _ => .yes x.f
def CArg.f : CArg → FRow
  | .one x => .cons (.mk (.sym x) .no .no) .nil
  | .brace r => r.f
def CNuc.f : CNuc → FNuc
  | .sym x => .sym x
  | .group r => .group r.f
  | .frac o u => .frac o.f u.f
  | .root r => .root r.f
  | .fence o c r => .fence (optW o) (optW c) r.f
  | .grid g => .grid g.f
def CGrid.f : CGrid → FGrid
  | .nil => .nil
  | .cons c g => .cons c.f g.f
def CCells.f : CCells → FCells
  | .nil => .nil
  | .cons r c => .cons r.f c.f
end
mutual
def CRow.h : CRow → Nat
  | .nil => 0
  | .cons i r => max i.h r.h
def CItem.h : CItem → Nat
  | .mk n s => max n.h s.h
def CScr.h : CScr → Nat
  | .no => 0
  | .b x => x.h + 1
  | .a x => x.h + 1
  | .ba x y => max (x.h + 1) (y.h + 1)
  | .ab x y => max (x.h + 1) (y.h + 1)
def CArg.h : CArg → Nat
  | .one _ => 0
  | .brace r => r.h
def CNuc.h : CNuc → Nat
  | .sym _ => 0
  | .group r => r.h + 1
  | .frac o u => max (o.h + 1) (u.h + 1)
  | .root r => r.h + 1
  | .fence _ _ r => r.h + 1
  | .grid g => g.h
def CGrid.h : CGrid → Nat
  | .nil => 0
  | .cons c g => max c.h g.h
def CCells.h : CCells → Nat
  | .nil => 0
  | .cons r c => max (r.h + 1) c.h
end
def CRow.items : CRow → List CItem
  | .nil => []
  | .cons i r => i :: r.items
def CGrid.lines : CGrid → List CCells
  | .nil => []
  | .cons c g => c :: g.lines
def CCells.rows : CCells → List CRow
  | .nil => []
  | .cons r c => r :: c.rows
def Sy (x : Str) : Prop := x.length ≤ 1000 ∧ isSymbol x = true
mutual
def CRow.ok : CRow → Prop
  | .nil => True
  | .cons i r => i.ok ∧ r.ok
def CItem.ok : CItem → Prop
  | .mk n s => n.ok ∧ s.ok
def CScr.ok : CScr → Prop
  | .no => True
  | .b x => x.ok
  | .a x => x.ok
  | .ba x y => x.ok ∧ y.ok
  | .ab x y => x.ok ∧ y.ok
def CArg.ok : CArg → Prop
  | .one x => Sy x
  | .brace r => r.ok
def CNuc.ok : CNuc → Prop
  | .sym x => Sy x
  | .group r => r.ok
  | .frac o u => o.ok ∧ u.ok
  | .root r => r.ok
  | .fence o c r => Sy o ∧ Sy c ∧ r.ok
  | .grid g => g.ok ∧ (1 ≤ g.lines.length ∧ g.lines.length ≤ 6) ∧ ∃ m, 1 ≤ m ∧ m ≤ 6 ∧ ∀ c ∈ g.lines, c.rows.length = m
def CGrid.ok : CGrid → Prop
  | .nil => True
  | .cons c g => c.ok ∧ g.ok
def CCells.ok : CCells → Prop
  | .nil => True
  | .cons r c => r.ok ∧ c.ok
end
theorem CRow.ds_eq : ∀ r : CRow, r.f.ds = r.items.map fun i => i.f.d
  | .nil => rfl
  | .cons i r => by rw [CRow.f, FRow.ds, CRow.items, List.map_cons, CRow.ds_eq r]
theorem CGrid.ds_eq : ∀ g : CGrid, g.f.ds = g.lines.map fun c => c.f.d
  | .nil => rfl
  | .cons c g => by rw [CGrid.f, FGrid.ds, CGrid.lines, List.map_cons, CGrid.ds_eq g, FCells.d]
theorem CCells.ds_eq : ∀ c : CCells, c.f.ds = c.rows.map fun r => r.f.d
  | .nil => rfl
  | .cons r c => by rw [CCells.f, FCells.ds, CCells.rows, List.map_cons, CCells.ds_eq c, FRow.d]
theorem CRow.ws_eq : ∀ r : CRow, r.ws = r.items.flatMap CItem.ws
  | .nil => rfl
  | .cons i r => by rw [CRow.ws, CRow.items, List.flatMap_cons, CRow.ws_eq r]
theorem CRow.ok_iff : ∀ {r : CRow}, r.ok ↔ ∀ i ∈ r.items, i.ok
  | .nil => by simp [CRow.ok, CRow.items]
  | .cons i r => by rw [CRow.ok, CRow.items, List.forall_mem_cons, ← CRow.ok_iff (r := r)]
theorem CCells.ok_iff : ∀ {r : CCells}, r.ok ↔ ∀ i ∈ r.rows, i.ok
  | .nil => by simp [CCells.ok, CCells.rows]
  | .cons i r => by rw [CCells.ok, CCells.rows, List.forall_mem_cons, ← CCells.ok_iff (r := r)]
theorem CGrid.ok_iff : ∀ {r : CGrid}, r.ok ↔ ∀ i ∈ r.lines, i.ok
  | .nil => by simp [CGrid.ok, CGrid.lines]
  | .cons i r => by rw [CGrid.ok, CGrid.lines, List.forall_mem_cons, ← CGrid.ok_iff (r := r)]
theorem CRow.h_le {n : Nat} : ∀ {r : CRow}, r.h ≤ n ↔ ∀ i ∈ r.items, i.h ≤ n
  | .nil => by simp [CRow.h, CRow.items]
  | .cons i r => by rw [CRow.h, CRow.items, List.forall_mem_cons, ← CRow.h_le (r := r)]; omega
theorem CCells.h_le {n : Nat} : ∀ {c : CCells}, c.h ≤ n ↔ ∀ r ∈ c.rows, r.h + 1 ≤ n
  | .nil => by simp [CCells.h, CCells.rows]
  | .cons r c => by rw [CCells.h, CCells.rows, List.forall_mem_cons, ← CCells.h_le (c := c)]; omega
theorem CGrid.h_le {n : Nat} : ∀ {c : CGrid}, c.h ≤ n ↔ ∀ r ∈ c.lines, r.h ≤ n
  | .nil => by simp [CGrid.h, CGrid.lines]
  | .cons r c => by rw [CGrid.h, CGrid.lines, List.forall_mem_cons, ← CGrid.h_le (c := c)]; omega
/-! what the words at a place are -/
def At (ws : List Str) (i : Nat) (us : List Str) : Prop := us <+: ws.drop i
section
variable {ws us vs : List Str} {x : Str} {i : Nat}
theorem at_cons : At ws i (x :: us) ↔ ws[i]? = some x ∧ At ws (i + 1) us := by
  unfold At
  constructor
  · rintro ⟨t, h⟩
    have h0 : (ws.drop i)[0]? = some x := by rw [← h]; rfl
    rw [List.getElem?_drop, Nat.add_zero] at h0
    refine ⟨h0, t, ?_⟩
    have := congrArg (List.drop 1) h
    rw [List.drop_drop] at this
    exact this
  · rintro ⟨h, t, e⟩
    refine ⟨t, ?_⟩
    have hl : i < ws.length := (List.getElem?_eq_some_iff.mp h).1
    rw [List.drop_eq_getElem_cons hl, ← e]
    have : ws[i] = x := (List.getElem?_eq_some_iff.mp h).2
    rw [this]
    rfl
theorem at_nil : At ws i [] := List.nil_prefix
theorem at_app : At ws i (us ++ vs) ↔ At ws i us ∧ At ws (i + us.length) vs := by
  induction us generalizing i with
  | nil => exact ⟨fun h => ⟨at_nil, h⟩, fun h => h.2⟩
  | cons x us ih =>
    rw [List.cons_append, at_cons, at_cons, ih, List.length_cons, show i + (us.length + 1) = i + 1 + us.length by omega]
    exact ⟨fun ⟨a, b, c⟩ => ⟨⟨a, b⟩, c⟩, fun ⟨⟨a, b⟩, c⟩ => ⟨a, b, c⟩⟩
end
/-! the first word of an item -/
def stopWs : List Str := ["end", "}", "@right", "&", "~"]
def firstOk (x : Str) : Prop := x ∉ stopWs ∧ x ≠ "_" ∧ x ≠ "^"
instance (x : Str) : Decidable (firstOk x) := inferInstanceAs (Decidable (x ∉ stopWs ∧ x ≠ "_" ∧ x ≠ "^"))
theorem sy_ne {x y : Str} (h : Sy x) (e : isSymbol y = false) : x ≠ y := fun z => by
  rw [z] at h
  rw [h.2] at e
  cases e
theorem sy_first {x : Str} (h : Sy x) : firstOk x := by
  refine ⟨fun z => ?_, sy_ne h (by decide +kernel), sy_ne h (by decide +kernel)⟩
  simp only [stopWs, List.mem_cons, List.not_mem_nil, or_false] at z
  rcases z with z | z | z | z | z <;> exact sy_ne h (by decide +kernel) z
theorem CNuc.first : ∀ {n : CNuc}, n.ok → ∃ x r, n.ws = x :: r ∧ firstOk x
  | .sym x, h => ⟨x, [], rfl, sy_first h⟩
  | .group r, h => ⟨"{", _, rfl, by decide +kernel⟩
  | .frac o u, h => ⟨"@frac", _, rfl, by decide +kernel⟩
  | .root r, h => ⟨"@root", _, rfl, by decide +kernel⟩
  | .fence o c r, h => ⟨"@left", _, rfl, by decide +kernel⟩
  | .grid g, h => ⟨"@grid", _, rfl, by decide +kernel⟩
theorem CItem.first : ∀ {n : CItem}, n.ok → ∃ x r, n.ws = x :: r ∧ firstOk x
  | .mk n s, h => by
    obtain ⟨x, r, e, f⟩ := CNuc.first h.1
    exact ⟨x, r ++ s.ws, by rw [CItem.ws, e]; rfl, f⟩
/-! the tree of a formula's normal text -/
mutual
def FRow.t : FRow → CRow
  | .nil => .nil
  | .cons i r => .cons i.t r.t
def FItem.t : FItem → CItem
  | .mk n b a => .mk n.t (scrT b.t1 a.t1)
def FScr.t1 : FScr → Option CRow
  | .no => none
  | .yes r => some r.t
def FNuc.t : FNuc → CNuc
  | .sym x => .sym x
  | .group r => .group r.t
  | .frac o u => .frac (.brace o.t) (.brace u.t)
  | .root r => .root (.brace r.t)
  | .fence o c r => .fence (delimW o) (delimW c) r.t
  | .grid g => .grid g.t
def FGrid.t : FGrid → CGrid
  | .nil => .nil
  | .cons c g => .cons c.t g.t
def FCells.t : FCells → CCells
  | .nil => .nil
  | .cons r c => .cons r.t c.t
def scrT : Option CRow → Option CRow → CScr
  | none, none => .no
  | some b, none => .b (.brace b)
  | none, some a => .a (.brace a)
  | some b, some a => .ba (.brace b) (.brace a)
end
theorem FGrid.t_lines : ∀ g : FGrid, g.t.lines = g.lines.map FCells.t
  | .nil => rfl
  | .cons c g => by rw [FGrid.t, CGrid.lines, FGrid.lines, List.map_cons, FGrid.t_lines g]
theorem FCells.t_rows : ∀ g : FCells, g.t.rows = g.rows.map FRow.t
  | .nil => rfl
  | .cons c g => by rw [FCells.t, CCells.rows, FCells.rows, List.map_cons, FCells.t_rows g]
section
variable {P : Str → Prop} {D : Option Str → Prop}
mutual
theorem FRow.t_ws : ∀ r : FRow, r.t.ws = r.words
  | .nil => rfl
  | .cons i r => by rw [FRow.t, CRow.ws, FRow.words, FItem.t_ws i, FRow.t_ws r]
theorem FItem.t_ws : ∀ i : FItem, i.t.ws = i.words
  | .mk n .no .no => by rw [FItem.t, CItem.ws, FItem.words, FNuc.t_ws n]; rfl
  | .mk n (.yes b) .no => by
    rw [FItem.t, CItem.ws, FItem.words, FNuc.t_ws n]
    show n.words ++ (("_" : Str) :: ("{" : Str) :: (b.t.ws ++ _)) = n.words ++ (("_" : Str) :: ("{" : Str) :: (b.words ++ _) ++ [])
    rw [FRow.t_ws b, List.append_nil]
  | .mk n .no (.yes a) => by
    rw [FItem.t, CItem.ws, FItem.words, FNuc.t_ws n]
    show n.words ++ (("^" : Str) :: ("{" : Str) :: (a.t.ws ++ _)) = n.words ++ (("^" : Str) :: ("{" : Str) :: (a.words ++ _))
    rw [FRow.t_ws a]
  | .mk n (.yes b) (.yes a) => by
    rw [FItem.t, CItem.ws, FItem.words, FNuc.t_ws n]
    show n.words ++ (("_" : Str) :: ((("{" : Str) :: (b.t.ws ++ [("}" : Str)])) ++ ("^" : Str) :: ("{" : Str) :: (a.t.ws ++ [("}" : Str)]))) = n.words ++ ((("_" : Str) :: ("{" : Str) :: (b.words ++ [("}" : Str)])) ++ (("^" : Str) :: ("{" : Str) :: (a.words ++ [("}" : Str)])))
    rw [FRow.t_ws b, FRow.t_ws a]
    rfl
theorem FNuc.t_ws : ∀ n : FNuc, n.t.ws = n.words
  | .sym x => rfl
  | .group r => by show ("{" : Str) :: (r.t.ws ++ _) = ("{" : Str) :: (r.words ++ _); rw [FRow.t_ws r]
  | .frac o u => by
    show ("@frac" : Str) :: ((("{" : Str) :: (o.t.ws ++ [("}" : Str)])) ++ (("{" : Str) :: (u.t.ws ++ [("}" : Str)]))) = ("@frac" : Str) :: ("{" : Str) :: (o.words ++ (("}" : Str) :: ("{" : Str) :: (u.words ++ [("}" : Str)])))
    rw [FRow.t_ws o, FRow.t_ws u]
    simp
  | .root r => by show ("@root" : Str) :: ("{" : Str) :: (r.t.ws ++ _) = ("@root" : Str) :: ("{" : Str) :: (r.words ++ _); rw [FRow.t_ws r]
  | .fence o c r => by show ("@left" : Str) :: delimW o :: (r.t.ws ++ _) = ("@left" : Str) :: delimW o :: (r.words ++ _); rw [FRow.t_ws r]
  | .grid g => by show ("@grid" : Str) :: (g.t.ws "{" ++ _) = ("@grid" : Str) :: (g.words "{" ++ _); rw [FGrid.t_ws g]
theorem FGrid.t_ws : ∀ (g : FGrid) {s : Str}, g.t.ws s = g.words s
  | .nil, s => rfl
  | .cons c g, s => by rw [FGrid.t, CGrid.ws, FGrid.words, FCells.t_ws c, FGrid.t_ws g]
theorem FCells.t_ws : ∀ (g : FCells) {s : Str}, g.t.ws s = g.words s
  | .nil, s => rfl
  | .cons c g, s => by rw [FCells.t, CCells.ws, FCells.words, FRow.t_ws c, FCells.t_ws g]
end
mutual
theorem FRow.t_h : ∀ r : FRow, r.t.h = r.dep
  | .nil => rfl
  | .cons i r => by rw [FRow.t, CRow.h, FRow.dep, FItem.t_h i, FRow.t_h r]
theorem FItem.t_h : ∀ i : FItem, i.t.h = i.dep
  | .mk n .no .no => by rw [FItem.t, CItem.h, FItem.dep, FNuc.t_h n]; rfl
  | .mk n (.yes b) .no => by
    rw [FItem.t, CItem.h, FItem.dep, FNuc.t_h n]
    show max n.dep (b.t.h + 1) = max n.dep (max (b.dep + 1) 0)
    rw [FRow.t_h b]
    omega
  | .mk n .no (.yes a) => by
    rw [FItem.t, CItem.h, FItem.dep, FNuc.t_h n]
    show max n.dep (a.t.h + 1) = max n.dep (max 0 (a.dep + 1))
    rw [FRow.t_h a]
    omega
  | .mk n (.yes b) (.yes a) => by
    rw [FItem.t, CItem.h, FItem.dep, FNuc.t_h n]
    show max n.dep (max (b.t.h + 1) (a.t.h + 1)) = max n.dep (max (b.dep + 1) (a.dep + 1))
    rw [FRow.t_h b, FRow.t_h a]
theorem FNuc.t_h : ∀ n : FNuc, n.t.h = n.dep
  | .sym x => rfl
  | .group r => by show r.t.h + 1 = r.dep + 1; rw [FRow.t_h r]
  | .frac o u => by show max (o.t.h + 1) (u.t.h + 1) = max (o.dep + 1) (u.dep + 1); rw [FRow.t_h o, FRow.t_h u]
  | .root r => by show r.t.h + 1 = r.dep + 1; rw [FRow.t_h r]
  | .fence o c r => by show r.t.h + 1 = r.dep + 1; rw [FRow.t_h r]
  | .grid g => by show g.t.h = g.dep; rw [FGrid.t_h g]
theorem FGrid.t_h : ∀ (g : FGrid), g.t.h = g.dep
  | .nil => rfl
  | .cons c g => by rw [FGrid.t, CGrid.h, FGrid.dep, FCells.t_h c, FGrid.t_h g]
theorem FCells.t_h : ∀ (g : FCells), g.t.h = g.dep
  | .nil => rfl
  | .cons c g => by rw [FCells.t, CCells.h, FCells.dep, FRow.t_h c, FCells.t_h g]
end
mutual
theorem FRow.t_f (hD : ∀ o, D o → optW (delimW o) = o) : ∀ r : FRow, r.good P D → r.t.f = r
  | .nil, _ => rfl
  | .cons i r, g => by rw [FRow.t, CRow.f, FItem.t_f hD i g.1, FRow.t_f hD r g.2]
theorem FItem.t_f (hD : ∀ o, D o → optW (delimW o) = o) : ∀ i : FItem, i.good P D → i.t.f = i
  | .mk n .no .no, g => by rw [FItem.t, CItem.f, FNuc.t_f hD n g.1]; rfl
  | .mk n (.yes b) .no, g => by
    rw [FItem.t, CItem.f, FNuc.t_f hD n g.1]
    show FItem.mk n (.yes b.t.f) .no = _
    rw [FRow.t_f hD b g.2.1]
  | .mk n .no (.yes a), g => by
    rw [FItem.t, CItem.f, FNuc.t_f hD n g.1]
    show FItem.mk n .no (.yes a.t.f) = _
    rw [FRow.t_f hD a g.2.2]
  | .mk n (.yes b) (.yes a), g => by
    rw [FItem.t, CItem.f, FNuc.t_f hD n g.1]
    show FItem.mk n (.yes b.t.f) (.yes a.t.f) = _
    rw [FRow.t_f hD b g.2.1, FRow.t_f hD a g.2.2]
theorem FNuc.t_f (hD : ∀ o, D o → optW (delimW o) = o) : ∀ n : FNuc, n.good P D → n.t.f = n
  | .sym x, _ => rfl
  | .group r, g => by show FNuc.group r.t.f = _; rw [FRow.t_f hD r g]
  | .frac o u, g => by show FNuc.frac o.t.f u.t.f = _; rw [FRow.t_f hD o g.1, FRow.t_f hD u g.2]
  | .root r, g => by show FNuc.root r.t.f = _; rw [FRow.t_f hD r g]
  | .fence o c r, g => by show FNuc.fence (optW (delimW o)) (optW (delimW c)) r.t.f = _; rw [FRow.t_f hD r g.2.2, hD o g.1, hD c g.2.1]
  | .grid g, h => by show FNuc.grid g.t.f = _; rw [FGrid.t_f hD g h.1]
theorem FGrid.t_f (hD : ∀ o, D o → optW (delimW o) = o) : ∀ (g : FGrid), g.good P D → g.t.f = g
  | .nil, _ => rfl
  | .cons c g, h => by rw [FGrid.t, CGrid.f, FCells.t_f hD c h.1, FGrid.t_f hD g h.2]
theorem FCells.t_f (hD : ∀ o, D o → optW (delimW o) = o) : ∀ (g : FCells), g.good P D → g.t.f = g
  | .nil, _ => rfl
  | .cons c g, h => by rw [FCells.t, CCells.f, FRow.t_f hD c h.1, FCells.t_f hD g h.2]
end
mutual
theorem FRow.t_ok (hP : ∀ x, P x → Sy x) (hD : ∀ o, D o → Sy (delimW o)) : ∀ r : FRow, r.good P D → r.t.ok
  | .nil, _ => trivial
  | .cons i r, g => ⟨FItem.t_ok hP hD i g.1, FRow.t_ok hP hD r g.2⟩
theorem FItem.t_ok (hP : ∀ x, P x → Sy x) (hD : ∀ o, D o → Sy (delimW o)) : ∀ i : FItem, i.good P D → i.t.ok
  | .mk n .no .no, g => ⟨FNuc.t_ok hP hD n g.1, trivial⟩
  | .mk n (.yes b) .no, g => ⟨FNuc.t_ok hP hD n g.1, FRow.t_ok hP hD b g.2.1⟩
  | .mk n .no (.yes a), g => ⟨FNuc.t_ok hP hD n g.1, FRow.t_ok hP hD a g.2.2⟩
  | .mk n (.yes b) (.yes a), g => ⟨FNuc.t_ok hP hD n g.1, FRow.t_ok hP hD b g.2.1, FRow.t_ok hP hD a g.2.2⟩
theorem FNuc.t_ok (hP : ∀ x, P x → Sy x) (hD : ∀ o, D o → Sy (delimW o)) : ∀ n : FNuc, n.good P D → n.t.ok
  | .sym x, g => hP x g
  | .group r, g => FRow.t_ok hP hD r g
  | .frac o u, g => ⟨FRow.t_ok hP hD o g.1, FRow.t_ok hP hD u g.2⟩
  | .root r, g => FRow.t_ok hP hD r g
  | .fence o c r, g => ⟨hD o g.1, hD c g.2.1, FRow.t_ok hP hD r g.2.2⟩
  | .grid g, ⟨h, ⟨h1, h2⟩, m, m1, m2, h3⟩ => by
    refine ⟨FGrid.t_ok hP hD g h, ⟨by rw [FGrid.t_lines, List.length_map]; exact h1, by rw [FGrid.t_lines, List.length_map]; exact h2⟩, m, m1, m2, fun c hc => ?_⟩
    rw [FGrid.t_lines] at hc
    obtain ⟨c0, hc0, rfl⟩ := List.mem_map.mp hc
    rw [FCells.t_rows, List.length_map]
    exact h3 c0 hc0
theorem FGrid.t_ok (hP : ∀ x, P x → Sy x) (hD : ∀ o, D o → Sy (delimW o)) : ∀ (g : FGrid), g.good P D → g.t.ok
  | .nil, _ => trivial
  | .cons c g, h => ⟨FCells.t_ok hP hD c h.1, FGrid.t_ok hP hD g h.2⟩
theorem FCells.t_ok (hP : ∀ x, P x → Sy x) (hD : ∀ o, D o → Sy (delimW o)) : ∀ (g : FCells), g.good P D → g.t.ok
  | .nil, _ => trivial
  | .cons c g, h => ⟨FRow.t_ok hP hD c h.1, FCells.t_ok hP hD g h.2⟩
end
end
end Mg

set_option Elab.async false
set_option linter.all false
set_option maxRecDepth 100000
set_option maxHeartbeats 400000
namespace Mg
open PySem L2
abbrev sCommandAt : Stmt := top 19
abbrev sTokenAt : Stmt := top 18
def lets : List Nat := cLETTERS.cps.toList
/-- how many letters stand at the front -/
def runL : List Nat → Nat
  | [] => 0
  | c :: r => if c ∈ lets then runL r + 1 else 0
theorem run_in : ∀ {m : List Nat} {i : Nat}, i < runL m → ∃ c, m[i]? = some c ∧ c ∈ lets
  | [], i, h => by cases h
  | c :: r, i, h => by
    unfold runL at h
    split at h
    · rename_i hc
      cases i with
      | zero => exact ⟨c, rfl, hc⟩
      | succ i => exact run_in (m := r) (Nat.lt_of_succ_lt_succ h)
    · cases h
theorem run_out : ∀ {m : List Nat} {c : Nat}, m[runL m]? = some c → c ∉ lets
  | [], c, h => by simp at h
  | d :: r, c, h => by
    unfold runL at h
    split at h
    · exact run_out (m := r) (by simpa using h)
    · rename_i hd
      have e : d = c := by simpa using h
      exact e ▸ hd
theorem run_le : ∀ (m : List Nat), runL m ≤ m.length
  | [] => Nat.le_refl _
  | c :: r => by
    unfold runL
    split
    · exact Nat.succ_le_succ (run_le r)
    · exact Nat.zero_le _
/-- the word of a command at a place of a text: the sign there and the letters behind it; no command: bad -/
def cmdW (l : List Nat) (n : Nat) : Str := SX.S ((l.drop n).take (1 + runL (l.drop (n + 1))))
def cmdAt (l : List Nat) (n : Nat) : Str := if isCommand (cmdW l n) = true then cmdW l n else "bad"
structure TxtTok (mg : Str → Option Value) : Prop where
  b_len : mg "len" = none
  c_LETTERS : ∃ t, mg "LETTERS" = some (.str cLETTERS t)
  c_SIGNS : ∃ t, mg "SIGNS" = some (.str cSIGNS t)
  c_MARKS : ∃ t, mg "MARKS" = some (.str "{}^_&~" t)
  c_BAD : ∃ t, mg "BAD" = some (.str "bad" t)
  c_END : ∃ t, mg "END" = some (.str "end" t)
section
variable {P : Program} {w : World} {K : PySem.W.Frag} {mg : Str → Option Value} {base : Heap}
def spCmdAt : Sp := fun vs H Q _ => ∃ (t : Str) (n : Nat), vs = [.str t, .int (n : Int)] ∧ t.length ≤ 1000 ∧ n < t.length ∧ ∀ H', Same H H' → Q (.str (cmdAt t.cps.toList n)) H'
theorem scCmdAt : FnScope ["text", "at", "end", "word"] ["text", "at"] (defScope sCommandAt) := ⟨rfl, rfl, rfl, by decide +kernel, rfl, by decide +kernel, by decide +kernel⟩
theorem ok_cmdat {f : Addr} {fd : FuncData} (F : Fun K "_command_at" "_command_at" sCommandAt f fd) (T : TxtTok mg) (C_is_command : Cal P w K mg base CX0 1 "is_command" ["word"] spIsCommand) : FnOk P w K mg base CX0 2 f fd ["text", "at"] spCmdAt := by
  have sc := scCmdAt
  refine F.ok scCmdAt (fun vs H Q E h => ?_) (fun cdv A outer s H vs Q E hr h => ?_)
  · obtain ⟨t, n, rfl, _⟩ := h
    rfl
  · obtain ⟨t, n, rfl, ht, hn, k⟩ := h
    have hris_command : Room 1 _ := hr
    have big : t.length ≤ sizeLine := Nat.le_of_lt (small1000 ht)
    refine ⟨_, (pss_cons (ps_set (i := 2) sc.nd rfl (Or.inl rfl) (pe_op op_add (pv 1) pe_int))
  (pss_cons (ps_while PassesOwn.never (PW.pt (pw_and (pt_cmpR op_lt (pv 2) (pe_callB call_len_str (by rfl) T.b_len PySem.boot_len (pa_cons (pv 0) pa_nil)) (nomark _)) (pw_and1 (pt_cmpR op_in_sign (pe_ix ix_str (pv 0) (pv 2) (fun _ _ => rfl)) (pe_gstr rfl T.c_LETTERS) (by rfl)))))
  (pss_one (ps_aug (i := 2) sc.nd rfl (Or.inl rfl) pe_int ip_add)))
  (pss_cons (ps_set (i := 3) sc.nd rfl (Or.inl rfl) (pe_slice sl_str (pv 0) (po_some (pv 1)) (po_some (pv 2))))
  (pss_one (ps_ret (pe_ifExp (pt_val (pe_cal C_is_command hris_command rfl pass0 (pa_cons (pv 3) pa_nil))) (pv 3) (pe_gstr rfl T.c_BAD))))))), ?_⟩
    obtain ⟨l, hl⟩ : ∃ l, t.cps.toList = l := ⟨_, rfl⟩
    have tl : t.length = l.length := by rw [← hl]; rfl
    refine ⟨_, rfl, _, _, rfl, rfl, ?_⟩
    have dl : (l.drop (n + 1)).length = l.length - (n + 1) := List.length_drop
    have rl := run_le (l.drop (n + 1))
    have ew : cutS t (some (n : Int)) (some ((n : Int) + 1 + ((runL (l.drop (n + 1)) : Nat) : Int))) = cmdW l n := by
      have e1 : ((n : Int) + 1 + ((runL (l.drop (n + 1)) : Nat) : Int)) = ((n + 1 + runL (l.drop (n + 1)) : Nat) : Int) := by omega
      unfold cutS cmdW
      rw [e1, HT.sIx_nat, HT.sIx_nat, hl, tl, Nat.min_eq_left (by omega), Nat.min_eq_left (by omega), show n + 1 + runL (l.drop (n + 1)) - n = 1 + runL (l.drop (n + 1)) by omega]
    have wl : (cmdW l n).length ≤ 1000 := by
      unfold cmdW
      rw [SX.S_len, List.length_take, List.length_drop]
      omega
    have fin : (tSeq (tAsg (tSl rSlS (tVar 0) (tPart (tVar 1)) (tPart (tVar 2))) (gName 3)) (tRet (tIf (tB (tCall spIsCommand [] E0 (tCons (tVar 3) tNil))) (tVar 3) (tC (.str "bad"))))) { nx := fun _ H' => Q .non H', rt := Q } [some (.str t), some (.int (n : Int)), some (.int ((n : Int) + 1 + ((runL (l.drop (n + 1)) : Nat) : Int))), none] H := by
      refine ⟨_, rfl, _, rfl, _, rfl, _, rfl, _, rfl, t, rfl, big, ?_⟩
      rw [ew]
      refine ⟨_, rfl, cmdW l n, rfl, wl, fun H1 s1 => ⟨_, rfl, ?_⟩⟩
      have q := k H1 s1
      rw [hl] at q
      unfold cmdAt at q
      cases hc : isCommand (cmdW l n) with
      | true =>
        rw [hc, if_pos rfl] at q
        exact iteT ⟨_, rfl, q⟩
      | false =>
        rw [hc, if_neg Bool.false_ne_true] at q
        exact iteF q
    refine ⟨fun m σ H' => ∃ i : Nat, i ≤ runL (l.drop (n + 1)) ∧ σ = [some (.str t), some (.int (n : Int)), some (.int ((n : Int) + 1 + (i : Int))), none] ∧ H' = H ∧ m = l.length - i, ⟨_, 0, Nat.zero_le _, by simp; rfl, rfl, rfl⟩, ?_⟩
    rintro m σ H' ⟨i, hi, rfl, rfl, rfl⟩
    by_cases c1 : n + 1 + i < l.length
    · refine ⟨_, rfl, _, rfl, t, rfl, big, _, _, rfl, rfl, _, rfl, iteP (decide_eq_true (by rw [tl]; omega)) ?_⟩
      obtain ⟨ch, ec⟩ : ∃ ch, l[n + 1 + i]? = some ch := ⟨_, List.getElem?_eq_getElem c1⟩
      have ed : (l.drop (n + 1))[i]? = some ch := by rw [List.getElem?_drop, ec]
      have ea : atI t.cps.toList ((n : Int) + 1 + (i : Int)) = some ch := by
        rw [hl, show ((n : Int) + 1 + (i : Int)) = ((n + 1 + i : Nat) : Int) by omega]
        exact atI_nat ec
      refine ⟨_, rfl, _, rfl, t, _, _, rfl, rfl, big, ea, _, cLETTERS, rfl, rfl, _, rfl, ?_⟩
      by_cases c2 : i < runL (l.drop (n + 1))
      · obtain ⟨c, q1, q2⟩ := run_in c2
        rw [ed] at q1
        cases q1
        refine iteP (decide_eq_true q2) ?_
        exact ⟨fun σ' H'' => σ' = [some (.str t), some (.int (n : Int)), some (.int ((n : Int) + 1 + ((i + 1 : Nat) : Int))), none] ∧ H'' = H', fun σ' H'' p => ⟨l.length - (i + 1), by omega, i + 1, c2, p.1, p.2, rfl⟩, _, rfl, _, _, rfl, rfl, by simp [Int.add_assoc], rfl⟩
      · have ei : i = runL (l.drop (n + 1)) := by omega
        rw [ei] at ed
        refine iteN (by rw [decide_eq_true_eq]; exact run_out ed) ?_
        subst ei
        exact fin
    · refine ⟨_, rfl, _, rfl, t, rfl, big, _, _, rfl, rfl, _, rfl, iteN (by rw [decide_eq_true_eq, tl]; omega) ?_⟩
      have ei : i = runL (l.drop (n + 1)) := by omega
      subst ei
      exact fin
/-! ### _token_at -/
def cMARKS : Str := "{}^_&~"
def tokAt (l : List Nat) (n : Nat) : Str := match l[n]? with
  | none => "bad"
  | some c => if (⟨#[c]⟩ : Str) = "@" then cmdAt l n else if c ∈ cSIGNS.cps.toList ∨ c ∈ cMARKS.cps.toList then ⟨#[c]⟩ else "bad"
def spTokAt : Sp := fun vs H Q _ => ∃ (t : Str) (n : Nat), vs = [.str t, .int (n : Int)] ∧ t.length ≤ 1000 ∧ n < t.length ∧ ∀ H', Same H H' → Q (.str (tokAt t.cps.toList n)) H'
theorem scTokAt : FnScope ["text", "at", "first"] ["text", "at"] (defScope sTokenAt) := ⟨rfl, rfl, rfl, by decide +kernel, rfl, by decide +kernel, by decide +kernel⟩
theorem ok_tokat {f : Addr} {fd : FuncData} (F : Fun K "_token_at" "_token_at" sTokenAt f fd) (T : TxtTok mg) (C_command_at : Cal P w K mg base CX0 2 "_command_at" ["text", "at"] spCmdAt) : FnOk P w K mg base CX0 3 f fd ["text", "at"] spTokAt := by
  have sc := scTokAt
  refine F.ok scTokAt (fun vs H Q E h => ?_) (fun cdv A outer s H vs Q E hr h => ?_)
  · obtain ⟨t, n, rfl, _⟩ := h
    rfl
  · obtain ⟨t, n, rfl, ht, hn, k⟩ := h
    have hrcommand_at : Room 2 _ := hr
    have big : t.length ≤ sizeLine := Nat.le_of_lt (small1000 ht)
    refine ⟨_, (pss_cons (ps_set (i := 2) sc.nd rfl (Or.inl rfl) (pe_ix ix_str (pv 0) (pv 1) (fun _ _ => rfl)))
  (pss_cons (ps_if (pt_cmpR op_eq (pv 2) pe_str (nomark _))
  (pss_one (ps_ret (pe_cal C_command_at hrcommand_at rfl pass0 (pa_cons (pv 0) (pa_cons (pv 1) pa_nil)))))
  pss_nil)
  (pss_one (ps_ret (pe_ifExp (PW.pt (pw_or (pt_cmpR op_in_sign (pv 2) (pe_gstr rfl T.c_SIGNS) (by rfl)) (pw_or1 (pt_cmpR op_in_sign (pv 2) (pe_gstr rfl T.c_MARKS) (by rfl))))) (pv 2) (pe_gstr rfl T.c_BAD)))))), ?_⟩
    obtain ⟨l, hl⟩ : ∃ l, t.cps.toList = l := ⟨_, rfl⟩
    have tl : t.length = l.length := by rw [← hl]; rfl
    obtain ⟨c, ec⟩ : ∃ c, l[n]? = some c := ⟨_, List.getElem?_eq_getElem (by omega)⟩
    have kk : ∀ w : Str, tokAt l n = w → ∀ H', Same H H' → Q (.str w) H' := fun w e H' s => by
      have q := k H' s
      rw [hl, e] at q
      exact q
    unfold tokAt at kk
    rw [ec] at kk
    refine ⟨_, rfl, _, rfl, t, _, c, rfl, rfl, big, by rw [hl]; exact atI_nat ec, ?_⟩
    refine ⟨_, rfl, rfl, _, rfl, ?_⟩
    by_cases c1 : (⟨#[c]⟩ : Str) = "@"
    · refine iteP (by rw [decide_eq_true_eq, c1]) ?_
      exact ⟨_, rfl, _, rfl, t, n, rfl, ht, hn, fun H1 s1 => kk _ (by rw [hl]; exact if_pos c1) H1 s1⟩
    · refine iteN (by rw [decide_eq_true_eq]; intro z; injection z with z; exact c1 z) ?_
      refine ⟨_, rfl, c, cSIGNS, rfl, rfl, _, rfl, ?_⟩
      by_cases c2 : c ∈ cSIGNS.cps.toList
      · refine iteP (decide_eq_true c2) (iteT ⟨_, rfl, kk _ ?_ H (Same.refl _)⟩)
        show (if (⟨#[c]⟩ : Str) = "@" then cmdAt l n else if c ∈ cSIGNS.cps.toList ∨ c ∈ cMARKS.cps.toList then ⟨#[c]⟩ else "bad") = _
        rw [if_neg c1, if_pos (.inl c2)]
      · refine iteN (by rw [decide_eq_true_eq]; exact c2) ?_
        refine ⟨_, rfl, c, cMARKS, rfl, rfl, _, rfl, ?_⟩
        by_cases c3 : c ∈ cMARKS.cps.toList
        · refine iteP (decide_eq_true c3) ⟨_, rfl, kk _ ?_ H (Same.refl _)⟩
          show (if (⟨#[c]⟩ : Str) = "@" then cmdAt l n else if c ∈ cSIGNS.cps.toList ∨ c ∈ cMARKS.cps.toList then ⟨#[c]⟩ else "bad") = _
          rw [if_neg c1, if_pos (.inr c3)]
        · refine iteN (by rw [decide_eq_true_eq]; exact c3) (kk _ ?_ H (Same.refl _))
          show (if (⟨#[c]⟩ : Str) = "@" then cmdAt l n else if c ∈ cSIGNS.cps.toList ∨ c ∈ cMARKS.cps.toList then ⟨#[c]⟩ else "bad") = _
          rw [if_neg c1, if_neg (fun z => z.elim c2 c3)]
/-! ### tokens_of -/
abbrev sTokensOf : Stmt := top 17
theorem cmdW_len (l : List Nat) (n : Nat) (h : n < l.length) : 1 ≤ (cmdW l n).length ∧ n + (cmdW l n).length ≤ l.length := by
  have rl := run_le (l.drop (n + 1))
  have dl : (l.drop (n + 1)).length = l.length - (n + 1) := List.length_drop
  unfold cmdW
  rw [SX.S_len, List.length_take, List.length_drop]
  omega
theorem tokAt_len {l : List Nat} {n : Nat} (h : n < l.length) (hb : tokAt l n ≠ "bad") : 1 ≤ (tokAt l n).length ∧ n + (tokAt l n).length ≤ l.length := by
  unfold tokAt at hb ⊢
  rw [List.getElem?_eq_getElem h] at hb ⊢
  dsimp only at hb ⊢
  by_cases c1 : (⟨#[l[n]]⟩ : Str) = "@"
  · rw [if_pos c1] at hb ⊢
    unfold cmdAt at hb ⊢
    split at hb
    · rename_i hc
      rw [if_pos hc]
      exact cmdW_len l n h
    · exact absurd rfl hb
  · rw [if_neg c1] at hb ⊢
    split at hb
    · rename_i hc
      rw [if_pos hc]
      exact ⟨Nat.le_refl 1, h⟩
    · exact absurd rfl hb
/-- the tokens of a text from a place on -/
def toksAt (l : List Nat) (n : Nat) : List (Nat × Str) :=
  if h : n < l.length then
    if (⟨#[l[n]]⟩ : Str) = " " then toksAt l (n + 1)
    else if tokAt l n = "bad" then [(n, "bad")] else (n, tokAt l n) :: toksAt l (n + max 1 (tokAt l n).length)
  else [(n, "end")]
termination_by l.length - n
def TokL (K : PySem.W.Frag) (H : Hp) (xs : List V) (ts : List (Nat × Str)) : Prop := xs.length = ts.length ∧ ∀ (j : Nat) (v : V) (p : Nat × Str), xs[j]? = some v → ts[j]? = some p → ∃ a, v = .ref a ∧ SqT K H a [.int (p.1 : Int), .str p.2]
theorem TokL.stay {H H' : Hp} {xs : List V} {ts : List (Nat × Str)} (h : TokL K H xs ts) (s : TupK H H') : TokL K H' xs ts := ⟨h.1, fun j v p h1 h2 => by
  obtain ⟨a, e, q⟩ := h.2 j v p h1 h2
  exact ⟨a, e, s.seq q⟩⟩
theorem TokL.snoc {H : Hp} {xs : List V} {ts : List (Nat × Str)} {a : Addr} {n : Nat} {x : Str} (h : TokL K H xs ts) (ha : SqT K H a [.int (n : Int), .str x]) : TokL K H (xs ++ [.ref a]) (ts ++ [(n, x)]) := by
  refine ⟨by rw [List.length_append, List.length_append, h.1]; rfl, fun j v p h1 h2 => ?_⟩
  by_cases hj : j < xs.length
  · rw [List.getElem?_append_left hj] at h1
    rw [List.getElem?_append_left (by rw [← h.1]; exact hj)] at h2
    exact h.2 j v p h1 h2
  · have ej : j = xs.length := by
      have := (List.getElem?_eq_some_iff.mp h1).1
      rw [List.length_append, List.length_singleton] at this
      omega
    subst ej
    rw [List.getElem?_append_right (Nat.le_refl _), Nat.sub_self] at h1
    rw [List.getElem?_append_right (by rw [h.1]; exact Nat.le_refl _), h.1, Nat.sub_self] at h2
    cases h1
    cases h2
    exact ⟨a, rfl, ha⟩
def spTokensOf (K : PySem.W.Frag) : Sp := fun vs H Q _ => ∃ (t : Str), vs = [.str t] ∧ t.length ≤ 1000 ∧ ∀ (p : Addr) (xs : List V) (H' : Hp), H p = none → Same H H' → H' p = some (.lst xs) → TokL K H' xs (toksAt t.cps.toList 0) → Q (.ref p) H'
theorem scTokensOf : FnScope ["text", "found", "at", "token"] ["text"] (defScope sTokensOf) := ⟨rfl, rfl, rfl, by decide +kernel, rfl, by decide +kernel, by decide +kernel⟩
theorem ok_tokens {f : Addr} {fd : FuncData} (F : Fun K "tokens_of" "tokens_of" sTokensOf f fd) (T : TxtTok mg) (C_token_at : Cal P w K mg base CX0 3 "_token_at" ["text", "at"] spTokAt) : FnOk P w K mg base CX0 4 f fd ["text"] (spTokensOf K) := by
  have sc := scTokensOf
  refine F.ok scTokensOf (fun vs H Q E h => ?_) (fun cdv A outer s H vs Q E hr h => ?_)
  · obtain ⟨t, rfl, _⟩ := h
    rfl
  · obtain ⟨t, rfl, ht, k⟩ := h
    have hrtoken_at : Room 3 _ := hr
    have big : t.length ≤ sizeLine := Nat.le_of_lt (small1000 ht)
    refine ⟨_, (pss_cons (ps_set (i := 1) sc.nd rfl (Or.inl rfl) (pe_lst pa_nil))
  (pss_cons (ps_set (i := 2) sc.nd rfl (Or.inl rfl) pe_int)
  (pss_cons (ps_while PassesOwn.never (pt_cmpR op_lt (pv 2) (pe_callB call_len_str (by rfl) T.b_len PySem.boot_len (pa_cons (pv 0) pa_nil)) (nomark _))
  (pss_one (ps_if (pt_cmpR op_eq (pe_ix ix_str (pv 0) (pv 2) (fun _ _ => rfl)) pe_str (nomark _))
  (pss_one (ps_aug (i := 2) sc.nd rfl (Or.inl rfl) pe_int ip_add))
  (pss_cons (ps_set (i := 3) sc.nd rfl (Or.inl rfl) (pe_cal C_token_at hrtoken_at rfl pass0 (pa_cons (pv 0) (pa_cons (pv 2) pa_nil))))
  (pss_cons (ps_expr (pe_bm PySem.F.plainAttrs_list PySem.F.slot_list_append PySem.F.type_list_append mt_append (pv 1) (pa_cons (pe_tup (pa_cons (pv 2) (pa_cons (pv 3) pa_nil))) pa_nil)))
  (pss_cons (ps_if (pt_cmpR op_eq (pv 3) (pe_gstr rfl T.c_BAD) (nomark _))
  (pss_one (ps_ret (pv 1)))
  pss_nil)
  (pss_one (ps_aug (i := 2) sc.nd rfl (Or.inl rfl) (pe_callB call_len_str (by rfl) T.b_len PySem.boot_len (pa_cons (pv 3) pa_nil)) ip_add))))))))
  (pss_cons (ps_expr (pe_bm PySem.F.plainAttrs_list PySem.F.slot_list_append PySem.F.type_list_append mt_append (pv 1) (pa_cons (pe_tup (pa_cons (pv 2) (pa_cons (pe_gstr rfl T.c_END) pa_nil))) pa_nil)))
  (pss_one (ps_ret (pv 1))))))), ?_⟩
    obtain ⟨l, hl⟩ : ∃ l, t.cps.toList = l := ⟨_, rfl⟩
    have tl : t.length = l.length := by rw [← hl]; rfl
    rw [hl] at k
    refine ⟨Nat.zero_le _, fun p np => ?_⟩
    refine ⟨fun m σ H' => ∃ (n : Nat) (x3 : Option V) (xs : List V) (pre : List (Nat × Str)), n ≤ l.length ∧ m = l.length - n ∧ σ = [some (.str t), some (.ref p), some (.int (n : Int)), x3] ∧ Same H H' ∧ H' p = some (.lst xs) ∧ TokL K H' xs pre ∧ pre.length ≤ n ∧ pre ++ toksAt l n = toksAt l 0,
      ⟨_, 0, none, [], [], Nat.zero_le _, rfl, rfl, same_new np, upd_same, ⟨rfl, fun j v q h => by simp at h⟩, Nat.le_refl _, rfl⟩, ?_⟩
    rintro m σ H' ⟨n, x3, xs, pre, hn, rfl, rfl, s1, eP, tk, pl, et⟩
    by_cases c1 : n < l.length
    · refine ⟨_, rfl, _, rfl, t, rfl, big, _, _, rfl, rfl, _, rfl, iteP (decide_eq_true (by rw [tl]; omega)) ?_⟩
      have ec : l[n]? = some l[n] := List.getElem?_eq_getElem c1
      have ea : atI t.cps.toList (n : Int) = some l[n] := by rw [hl]; exact atI_nat ec
      refine ⟨fun σ' H'' => ∃ (n' : Nat) (x3 : Option V) (xs : List V) (pre : List (Nat × Str)), n < n' ∧ n' ≤ l.length ∧ σ' = [some (.str t), some (.ref p), some (.int (n' : Int)), x3] ∧ Same H H'' ∧ H'' p = some (.lst xs) ∧ TokL K H'' xs pre ∧ pre.length ≤ n' ∧ pre ++ toksAt l n' = toksAt l 0,
        fun σ' H'' ⟨n', x3, xs, pre, q1, q2, q3⟩ => ⟨l.length - n', by omega, n', x3, xs, pre, q2, rfl, q3⟩, ?_⟩
      refine ⟨_, rfl, _, rfl, t, _, _, rfl, rfl, big, ea, rfl, _, rfl, ?_⟩
      by_cases c2 : (⟨#[l[n]]⟩ : Str) = " "
      · refine iteP (by rw [decide_eq_true_eq, c2]) ?_
        refine ⟨_, rfl, _, _, rfl, rfl, n + 1, x3, xs, pre, Nat.lt_succ_self _, c1, rfl, s1, eP, tk, by omega, ?_⟩
        rw [← et, toksAt.eq_1 l n, dif_pos c1, if_pos c2]
      · refine iteN (by rw [decide_eq_true_eq]; intro z; injection z with z; exact c2 z) ?_
        refine ⟨_, rfl, _, rfl, t, n, rfl, ht, by omega, fun H1 s2 => ?_⟩
        rw [hl]
        have eP1 := s2 _ _ eP
        refine ⟨_, rfl, .inl ⟨rfl, _, SqL.of eP1⟩, _, rfl, _, rfl, (by show 2 ≤ sizeLine; decide), fun tt nt => ?_⟩
        have st : Same H1 (upd H1 tt (.tup [.int (n : Int), .str (tokAt l n)])) := same_new nt
        have ntp : tt ≠ p := fun e => by
          rw [e, eP1] at nt
          cases nt
        refine ⟨p, _, _, rfl, rfl, st _ _ eP1, by rw [tk.1]; exact small1000 (by omega), ?_⟩
        have kt : TupK (upd H1 tt (.tup [.int (n : Int), .str (tokAt l n)])) (upd (upd H1 tt (.tup [.int (n : Int), .str (tokAt l n)])) p (.lst (xs ++ [.ref tt]))) := TupK.keep keep_upd (st _ _ eP1)
        have tk3 := (tk.stay (((TupK.of s2).trans (TupK.of st)).trans kt)).snoc (a := tt) (n := n) (x := tokAt l n) (SqT.of ((upd_ne ntp).trans upd_same))
        have s3 : Same H (upd (upd H1 tt (.tup [.int (n : Int), .str (tokAt l n)])) p (.lst (xs ++ [.ref tt]))) := same_upd_new ((s1.trans s2).trans st) np
        refine ⟨_, rfl, rfl, _, rfl, ?_⟩
        by_cases c3 : tokAt l n = "bad"
        · refine iteP (by rw [decide_eq_true_eq, c3]) ⟨_, rfl, k p _ _ np s3 upd_same ?_⟩
          rw [← et, toksAt.eq_1 l n, dif_pos c1, if_neg c2, if_pos c3]
          rw [c3] at tk3 ⊢
          exact tk3
        · refine iteN (by rw [decide_eq_true_eq]; intro z; injection z with z; exact c3 z) ?_
          obtain ⟨w1, w2⟩ := tokAt_len c1 c3
          refine ⟨_, rfl, _, rfl, tokAt l n, rfl, Nat.le_of_lt (small1000 (by omega)), _, _, rfl, rfl, n + (tokAt l n).length, _, _, _, by omega, w2, by rfl, s3, upd_same, tk3, by rw [List.length_append, List.length_singleton]; omega, ?_⟩
          rw [← et, toksAt.eq_1 l n, dif_pos c1, if_neg c2, if_neg c3, Nat.max_eq_right w1, List.append_assoc]
          rfl
    · refine ⟨_, rfl, _, rfl, t, rfl, big, _, _, rfl, rfl, _, rfl, iteN (by rw [decide_eq_true_eq, tl]; omega) ?_⟩
      refine ⟨_, rfl, .inl ⟨rfl, _, SqL.of eP⟩, _, rfl, (by show 2 ≤ sizeLine; decide), fun tt nt => ?_⟩
      have st : Same H' (upd H' tt (.tup [.int (n : Int), .str "end"])) := same_new nt
      have ntp : tt ≠ p := fun e => by
        rw [e, eP] at nt
        cases nt
      refine ⟨p, _, _, rfl, rfl, st _ _ eP, by rw [tk.1]; exact small1000 (by omega), ?_⟩
      have kt : TupK (upd H' tt (.tup [.int (n : Int), .str "end"])) (upd (upd H' tt (.tup [.int (n : Int), .str "end"])) p (.lst (xs ++ [.ref tt]))) := TupK.keep keep_upd (st _ _ eP)
      have tk3 := (tk.stay ((TupK.of st).trans kt)).snoc (a := tt) (n := n) (x := "end") (SqT.of ((upd_ne ntp).trans upd_same))
      refine ⟨_, rfl, k p _ _ np (same_upd_new (s1.trans st) np) upd_same ?_⟩
      rw [← et, toksAt.eq_1 l n, dif_neg c1]
      exact tk3
end
end Mg

set_option Elab.async false
set_option linter.all false
set_option maxRecDepth 100000
set_option maxHeartbeats 1000000
namespace Mg
open PySem L2
/-! an object that reads a list of words, at a place -/
def rf (tl : Addr) (i : Nat) : List (Str × V) := [("_tokens", .ref tl), ("_at", .int (i : Int))]
theorem nTA : ¬ (("_tokens" : Str) = "_at") := by decide +kernel
theorem rf_tok (tl : Addr) (i : Nat) : (rf tl i).lookup ("_tokens" : Str) = some (.ref tl) := by
  unfold rf
  rw [List.lookup_cons_self]
theorem rf_at (tl : Addr) (i : Nat) : (rf tl i).lookup ("_at" : Str) = some (.int (i : Int)) := by
  have e : (("_at" : Str) == "_tokens") = false := by decide +kernel
  unfold rf
  rw [List.lookup_cons, e]
  show List.lookup ("_at" : Str) [("_at", V.int (i : Int))] = _
  rw [List.lookup_cons_self]
theorem rf_no {tl : Addr} {i : Nat} {m : Str} (h1 : (m == "_tokens") = false) (h2 : (m == "_at") = false) : (rf tl i).lookup m = none := by
  unfold rf
  rw [List.lookup_cons, h1]
  show List.lookup m [("_at", V.int (i : Int))] = _
  rw [List.lookup_cons, h2]
  rfl
theorem rf_put (tl : Addr) (i j : Nat) : putF "_at" (.int (j : Int)) (rf tl i) = rf tl j := by
  unfold rf
  rw [putF, if_neg nTA, putF, if_pos rfl]
theorem rf_new (tl : Addr) (j : Nat) : putF "_at" (.int (j : Int)) (putF "_tokens" (.ref tl) []) = rf tl j := by
  show putF "_at" (.int (j : Int)) [(("_tokens" : Str), V.ref tl)] = rf tl j
  rw [putF, if_neg nTA]
  rfl
abbrev up1 (H : Hp) (p C dx tl : Addr) (j : Nat) : Hp := upd H p (.ins C dx (rf tl j))
structure TxtR (K : PySem.W.Frag) (C : Addr) : Prop where
  cl : Cls K C
  nT : NoAttr K C "_tokens"
  nA : NoAttr K C "_at"
structure RdAt (K : PySem.W.Frag) (C p tl : Addr) (ws : List Str) (i : Nat) (H : Hp) : Prop where
  ob : ∃ dx, H p = some (.ins C dx (rf tl i))
  tk : ∃ xs, H tl = some (.lst xs) ∧ xs.length = ws.length ∧ ∀ (j : Nat) (v : V) (x : Str), xs[j]? = some v → ws[j]? = some x → ∃ (a : Addr) (n : Int), v = .ref a ∧ SqT K H a [.int n, .str x]
  sz : ws.length ≤ 1000000
section
variable {K : PySem.W.Frag} {C p tl q : Addr} {ws us : List Str} {i j k : Nat} {H H' H0 H1 : Hp} {σ : L2.St} {te ta tb : TE} {tas : TA} {d : PyData} {ds es : List PyData} {tz tu : TS} {D : Ends} {x : Str} {E : XK} {m : Str}
theorem RdAt.ne (a : RdAt K C p tl ws i H) : tl ≠ p := fun e => by
  obtain ⟨dx, h⟩ := a.ob
  obtain ⟨xs, h2, _⟩ := a.tk
  rw [e, h] at h2
  cases h2
theorem RdAt.tup (a : RdAt K C p tl ws i H) (s : KeepB p H H') : TupK H H' := fun b ys h => by
  obtain ⟨dx, hp⟩ := a.ob
  have n : ∀ o, H b = some o → (∀ D x f, o ≠ .ins D x f) → b ≠ p := fun o e z q => by
    rw [q, hp] at e
    exact z _ _ _ (Option.some.inj e).symm
  rcases h with h | ⟨o, h⟩
  · exact .inl (s _ _ h (n _ h fun _ _ _ z => nomatch z))
  · exact .inr ⟨o, s _ _ h (n _ h fun _ _ _ z => nomatch z)⟩
theorem RdAt.move (a : RdAt K C p tl ws i H) (t : TupK H H') (ht : H' tl = H tl) (hp : ∃ dx, H' p = some (.ins C dx (rf tl j))) : RdAt K C p tl ws j H' := by
  obtain ⟨xs, h1, h2, h3⟩ := a.tk
  refine ⟨hp, ⟨xs, ht.trans h1, h2, fun n v x e1 e2 => ?_⟩, a.sz⟩
  obtain ⟨b, z, e, sq⟩ := h3 n v x e1 e2
  exact ⟨b, z, e, t.seq sq⟩
theorem RdAt.same (a : RdAt K C p tl ws i H) (s : Same H H') : RdAt K C p tl ws i H' := by
  obtain ⟨dx, hp⟩ := a.ob
  obtain ⟨xs, h1, _⟩ := a.tk
  exact a.move (.of s) ((s _ _ h1).trans h1.symm) ⟨dx, s _ _ hp⟩
/-- a list that the object does not know, changed -/
theorem RdAt.upd (a : RdAt K C p tl ws i H) {xs ys : List V} (e : H q = some (.lst xs)) (n : q ≠ tl) : RdAt K C p tl ws i (upd H q (.lst ys)) := by
  obtain ⟨dx, hp⟩ := a.ob
  have np : p ≠ q := fun z => by
    rw [← z, hp] at e
    cases e
  exact a.move (.keep keep_upd e) (upd_ne (Ne.symm n)) ⟨dx, (upd_ne np).trans hp⟩
theorem RdAt.tok (a : RdAt K C p tl ws i H) (hx : ws[i]? = some x) : ∃ xs b n, H tl = some (.lst xs) ∧ atI xs (i : Int) = some (.ref b) ∧ SqT K H b [.int n, .str x] := by
  obtain ⟨xs, h1, h2, h3⟩ := a.tk
  have hi : i < xs.length := by
    rw [h2]
    exact (List.getElem?_eq_some_iff.mp hx).1
  obtain ⟨b, n, e, sq⟩ := h3 i xs[i] x (List.getElem?_eq_getElem hi) hx
  exact ⟨xs, b, n, h1, by rw [← e]; exact atI_nat (List.getElem?_eq_getElem hi), sq⟩
theorem RdAt.next (a : RdAt K C p tl ws i H) {dx : Addr} (hp : H p = some (.ins C dx (rf tl i))) : RdAt K C p tl ws (i + 1) (Mg.up1 H p C dx tl (i + 1)) := a.move (a.tup keep_upd) (upd_ne a.ne) ⟨dx, upd_same⟩
/-- what a method of the object promises -/
def spRd (K : PySem.W.Frag) (C : Addr) (R : List PyData → List Str → Nat → Nat → PyData → Prop) : Sp := fun vs H Q _ => ∃ (p tl : Addr) (ws : List Str) (i j : Nat) (us : List V) (ds : List PyData) (d : PyData), vs = .ref p :: us ∧ TpL K H us ds ∧ RdAt K C p tl ws i H ∧ R ds ws i j d ∧
  ∀ v H', KeepB p H H' → RdAt K C p tl ws j H' → Tp K H' v d → Q v H'
/-- what an expression makes of it -/
def EvR (K : PySem.W.Frag) (C p tl : Addr) (ws : List Str) (te : TE) (σ : L2.St) (H : Hp) (i j : Nat) (d : PyData) : Prop := ∀ H1, KeepB p H H1 → RdAt K C p tl ws i H1 → ∀ Q : VK, (∀ v H2, KeepB p H1 H2 → RdAt K C p tl ws j H2 → Tp K H2 v d → Q v H2) → te σ H1 Q
def EvRA (K : PySem.W.Frag) (C p tl : Addr) (ws : List Str) (ta : TA) (σ : L2.St) (H : Hp) (i j : Nat) (ds : List PyData) : Prop := ∀ H1, KeepB p H H1 → RdAt K C p tl ws i H1 → ∀ Q : List V → Hp → Prop, (∀ vs H2, KeepB p H1 H2 → RdAt K C p tl ws j H2 → TpL K H2 vs ds → Q vs H2) → ta σ H1 Q
theorem r_pure (h : ∀ H1, KeepB p H H1 → EvD K te σ H1 d) : EvR K C p tl ws te σ H i i d := fun H1 kb a Q q => h H1 kb H1 (Same.refl _) Q fun v H2 s t => q v H2 (.of s) (a.same s) t
theorem ra_pure (h : ∀ H1, KeepB p H H1 → EvDA K tas σ H1 ds) : EvRA K C p tl ws tas σ H i i ds := fun H1 kb a Q q => h H1 kb H1 (Same.refl _) Q fun v H2 s t => q v H2 (.of s) (a.same s) t
theorem r_var {n : Nat} {v : V} (a : RdAt K C p tl ws k H) (h : σ[n]? = some (some v)) (t : Tp K H v d) : EvR K C p tl ws (tVar n) σ H i i d := r_pure fun H1 kb => e_var h (t.stay (a.tup kb))
theorem ra_nil : EvRA K C p tl ws tNil σ H i i [] := ra_pure fun _ _ => a_nil
theorem ra_cons (h : EvR K C p tl ws te σ H i j d) (hs : EvRA K C p tl ws tas σ H j k ds) : EvRA K C p tl ws (tCons te tas) σ H i k (d :: ds) := fun H1 kb a Q q =>
  h H1 kb a _ fun v H2 k2 a2 t => hs H2 (kb.trans k2) a2 _ fun vs H3 k3 a3 l => q _ H3 (k2.trans k3) a3 (.cons (t.stay (a2.tup k3)) l)
theorem r_tup (h : EvRA K C p tl ws tas σ H i j ds) (hl : ds.length ≤ 1000) : EvR K C p tl ws (tTup tas) σ H i j (.tuple ds) := fun H1 kb a Q q => h H1 kb a _ fun vs H2 k2 a2 l =>
  ⟨by rw [l.len]; exact sz5 (by omega), fun c hc => q _ _ (k2.trans (.of (same_new hc))) (a2.same (same_new hc)) (.mk (SqT.of upd_same) (l.stay (.of (same_new hc))))⟩
theorem r_call {R : List PyData → List Str → Nat → Nat → PyData → Prop} (h0 : σ[0]? = some (some (.ref p))) (h1 : (m == "_tokens") = false) (h2 : (m == "_at") = false) (ha : EvRA K C p tl ws tas σ H i k ds) (r : R ds ws k j d) : EvR K C p tl ws (tMeth C m (spRd K C R) [] E (tVar 0) tas) σ H i j d := fun H1 kb a Q q => by
  obtain ⟨dx, hp⟩ := a.ob
  refine ⟨_, h0, p, dx, _, rfl, hp, rf_no h1 h2, ha H1 kb a _ fun vs H2 k2 a2 l => ?_⟩
  exact ⟨p, tl, ws, k, j, vs, ds, d, by rw [List.append_nil], l, a2, r, fun v H3 k3 a3 t => q v H3 (k2.trans k3) a3 t⟩
theorem r_if {t : TT} {b : Bool} (h : ∀ H1, KeepB p H H1 → RdAt K C p tl ws i H1 → ∀ Q : Bool → Hp → Prop, (∀ H2, KeepB p H1 H2 → RdAt K C p tl ws k H2 → Q b H2) → t σ H1 Q) (h1 : b = true → EvR K C p tl ws ta σ H k j d) (h2 : b = false → EvR K C p tl ws tb σ H k j d) : EvR K C p tl ws (tIf t ta tb) σ H i j d := fun H1 kb a Q q => h H1 kb a _ fun H2 k2 a2 => by
  cases b with
  | true => exact iteT (h1 rfl H2 (kb.trans k2) a2 Q fun v H3 k3 a3 t3 => q v H3 (k2.trans k3) a3 t3)
  | false => exact iteF (h2 rfl H2 (kb.trans k2) a2 Q fun v H3 k3 a3 t3 => q v H3 (k2.trans k3) a3 t3)
/-- statements -/
theorem g_set {n : Nat} (h : EvR K C p tl ws te σ H i j d) (a : RdAt K C p tl ws i H) (q : ∀ v H', KeepB p H H' → RdAt K C p tl ws j H' → Tp K H' v d → tz D (σ.set n (some v)) H') : tSeq (tAsg te (gName n)) tz D σ H := h H (.refl _ _) a _ q
theorem g_drop (h : EvR K C p tl ws te σ H i j d) (a : RdAt K C p tl ws i H) (q : ∀ H', KeepB p H H' → RdAt K C p tl ws j H' → tz D σ H') : tSeq (tDrop te) tz D σ H := h H (.refl _ _) a _ fun v H' kb a' _ => q H' kb a'
theorem g_dropE (h : EvR K C p tl ws te σ H i j d) (a : RdAt K C p tl ws i H) (q : ∀ H', KeepB p H H' → RdAt K C p tl ws j H' → D.nx σ H') : tDrop te D σ H := h H (.refl _ _) a _ fun v H' kb a' _ => q H' kb a'
theorem g_ret (h : EvR K C p tl ws te σ H i j d) (a : RdAt K C p tl ws i H) (q : ∀ v H', KeepB p H H' → RdAt K C p tl ws j H' → Tp K H' v d → D.rt v H') : tRet te D σ H := h H (.refl _ _) a _ q
/-- tests of the word at the place -/
def EvRT (K : PySem.W.Frag) (C p tl : Addr) (ws : List Str) (tt : TT) (σ : L2.St) (H : Hp) (i : Nat) (b : Bool) : Prop := ∀ H1, KeepB p H H1 → RdAt K C p tl ws i H1 → ∀ Q : Bool → Hp → Prop, (∀ H2, KeepB p H1 H2 → RdAt K C p tl ws i H2 → Q b H2) → tt σ H1 Q
theorem rt_eq {r : R2} {b : Bool} {x y : Str} (h : EvR K C p tl ws te σ H i i (.str x)) (hr : RD K r (.str x) (.str y) (.bool b)) : EvRT K C p tl ws (tTest (tOp r te (tC (.str y)))) σ H i b := fun H1 kb a Q q => h H1 kb a _ fun v H2 k2 a2 t =>
  hr v _ H2 _ t (.str y) fun u H3 s3 t3 => ⟨b, tp_bool t3, q H3 (k2.trans (.of s3)) (a2.same s3)⟩
theorem g_when {t : TT} {b : Bool} (h : EvRT K C p tl ws t σ H i b) (a : RdAt K C p tl ws i H) (h1 : b = true → ∀ H', KeepB p H H' → RdAt K C p tl ws i H' → tu { D with nx := tz D } σ H') (h2 : b = false → ∀ H', KeepB p H H' → RdAt K C p tl ws i H' → tz D σ H') : tSeq (tIfS t tu tNext) tz D σ H := h H (.refl _ _) a _ fun H' kb a' => by
  cases b with
  | true => exact iteT (h1 rfl H' kb a')
  | false => exact iteF (h2 rfl H' kb a')
end
end Mg

set_option Elab.async false
set_option linter.all false
set_option maxRecDepth 100000
set_option maxHeartbeats 1000000
namespace Mg
open PySem L2 StX
abbrev sRInit : Stmt := inClass (top 25) 0
abbrev sRRead : Stmt := inClass (top 25) 1
abbrev sPeek : Stmt := inClass (top 25) 2
abbrev sAccept : Stmt := inClass (top 25) 3
abbrev sRSymbol : Stmt := inClass (top 25) 4
abbrev sRRow : Stmt := inClass (top 25) 5
abbrev sRItem : Stmt := inClass (top 25) 6
abbrev sRNucleus : Stmt := inClass (top 25) 7
abbrev sRBraced : Stmt := inClass (top 25) 8
abbrev sArgument : Stmt := inClass (top 25) 9
abbrev sRFence : Stmt := inClass (top 25) 10
abbrev sDelimiter : Stmt := inClass (top 25) 11
abbrev sRGrid : Stmt := inClass (top 25) 12
abbrev sRCells : Stmt := inClass (top 25) 13
abbrev sCheckDepth0 : Stmt := top 26
abbrev sCellStops : Stmt := top 27
structure TxtRd (K : PySem.W.Frag) (mg : Str → Option Value) (C : Addr) : Prop extends TxtR K C where
  b_len : mg "len" = none
  b_tuple : mg "tuple" = none
  c_END : ∃ t, mg "END" = some (.str "end" t)
  c_DEEPEST : ∃ t, mg "DEEPEST" = some (.int 7 t)
  c_MOST_CELLS : ∃ t, mg "MOST_CELLS" = some (.int 6 t)
section
variable {P : Program} {w : World} {K : PySem.W.Frag} {mg : Str → Option Value} {base : Heap} {C : Addr}
abbrev RR := List PyData → List Str → Nat → Nat → PyData → Prop
def RPeek : RR := fun ds ws i j d => ds = [] ∧ j = i ∧ ∃ x, ws[i]? = some x ∧ d = .str x
def RAcc : RR := fun ds ws i j d => ∃ x, ds = [.str x] ∧ j = i + 1 ∧ ws[i]? = some x ∧ d = .none
def RSym : RR := fun ds ws i j d => ds = [] ∧ j = i + 1 ∧ ∃ x, ws[i]? = some x ∧ Sy x ∧ d = .str x
def RDelim : RR := fun ds ws i j d => ds = [] ∧ j = i + 1 ∧ ∃ x, ws[i]? = some x ∧ Sy x ∧ d = optD (optW x)
theorem scPeek : FnScope ["self"] ["self"] (defScope sPeek) := ⟨rfl, rfl, rfl, by decide +kernel, rfl, by decide +kernel, by decide +kernel⟩
theorem ok_peek {f : Addr} {fd : FuncData} (F : Fun K "_peek" "Reader._peek" sPeek f fd) (T : TxtRd K mg C) : FnOk P w K mg base CX0 1 f fd ["self"] (spRd K C RPeek) := by
  have sc := scPeek
  refine F.ok scPeek (fun vs H Q E h => ?_) (fun cdv A outer s H vs Q E hr h => ?_)
  · obtain ⟨p, tl, ws, i, j, us, ds, d, rfl, l, a, ⟨rfl, _⟩, _⟩ := h
    cases l
    rfl
  · obtain ⟨p, tl, ws, i, j, us, ds, d, rfl, l, a, ⟨rfl, rfl, x, hx, rfl⟩, k⟩ := h
    cases l
    refine ⟨_, (pss_one (ps_ret (pe_ix ix_tup (pe_ix ix_list (pe_fld (pv 0) rfl) (pe_fld (pv 0) rfl) (fun _ _ => rfl)) pe_int (fun _ _ => rfl)))), ?_⟩
    obtain ⟨xs, b, n, h1, h2, h3⟩ := a.tok hx
    obtain ⟨dx, hp⟩ := a.ob
    exact ⟨_, rfl, p, C, dx, _, _, rfl, hp, T.cl, T.nT, rf_tok _ _, _, rfl, p, C, dx, _, _, rfl, hp, T.cl, T.nA, rf_at _ _, tl, xs, _, _, rfl, rfl, SqL.of h1, h2, b, _, 1, .str x, rfl, rfl, h3, rfl, k _ _ (.refl _ _) a (.str x)⟩
theorem scAccept : FnScope ["self", "wanted", "place", "word"] ["self", "wanted"] (defScope sAccept) := ⟨rfl, rfl, rfl, by decide +kernel, rfl, by decide +kernel, by decide +kernel⟩
theorem ok_accept {f : Addr} {fd : FuncData} (F : Fun K "_accept" "Reader._accept" sAccept f fd) (T : TxtRd K mg C) : FnOk P w K mg base CX0 1 f fd ["self", "wanted"] (spRd K C RAcc) := by
  have sc := scAccept
  refine F.ok scAccept (fun vs H Q E h => ?_) (fun cdv A outer s H vs Q E hr h => ?_)
  · obtain ⟨p, tl, ws, i, j, us, ds, d, rfl, l, a, ⟨x, rfl, _⟩, _⟩ := h
    cases l with
    | cons _ l => cases l; rfl
  · obtain ⟨p, tl, ws, i, j, us, ds, d, rfl, l, a, ⟨x, rfl, rfl, hx, rfl⟩, k⟩ := h
    cases l with
    | cons t l => cases l with
    | nil =>
    cases tp_str t
    refine ⟨_, (pss_cons (ps_asg (pe_ix ix_list (pe_fld (pv 0) rfl) (pe_fld (pv 0) rfl) (fun _ _ => rfl)) (pg_tup rfl (pgs_cons (pg_name (i := 2) sc.nd rfl (Or.inl rfl)) (pgs_cons (pg_name (i := 3) sc.nd rfl (Or.inl rfl)) pgs_nil))))
  (pss_cons (ps_if (pt_cmpR op_ne (pv 3) (pv 1) (nomark _))
  (pss_one ps_never)
  pss_nil)
  (pss_one (ps_fldaug (pv 0) pe_int in_add)))), ?_⟩
    obtain ⟨xs, b, n, h1, h2, h3⟩ := a.tok hx
    obtain ⟨dx, hp⟩ := a.ob
    refine ⟨_, rfl, p, C, dx, _, _, rfl, hp, T.cl, T.nT, rf_tok _ _, _, rfl, p, C, dx, _, _, rfl, hp, T.cl, T.nA, rf_at _ _, tl, xs, _, _, rfl, rfl, SqL.of h1, h2, b, _, rfl, h3, rfl, V.int _, _, rfl, V.str _, _, rfl, rfl, ?_⟩
    refine q_no (K := K) (b := !decide (x = x)) (t_test (e_op (e_var rfl (.str x)) (e_var rfl (.str x)) r_neS)) (by simp) fun H1 s1 => ?_
    have a1 := a.same s1
    have hp1 := s1 _ _ hp
    refine ⟨_, rfl, p, C, dx, _, _, rfl, hp1, T.cl, T.nA, rf_at _ _, _, _, rfl, rfl, dx, _, hp1, (by show 2 < 1000; decide), ?_⟩
    have e : putF "_at" (.int ((i : Int) + 1)) (rf tl i) = rf tl (i + 1) := rf_put tl i (i + 1)
    rw [e]
    exact k _ _ ((KeepB.of s1).trans keep_upd) (a1.next hp1) .non
theorem scRSymbol : FnScope ["self", "place", "word"] ["self"] (defScope sRSymbol) := ⟨rfl, rfl, rfl, by decide +kernel, rfl, by decide +kernel, by decide +kernel⟩
theorem ok_rsymbol {f : Addr} {fd : FuncData} (F : Fun K "_symbol" "Reader._symbol" sRSymbol f fd) (T : TxtRd K mg C) (C_is_symbol : Cal P w K mg base CX0 2 "is_symbol" ["word"] spIsSymbol) : FnOk P w K mg base CX0 3 f fd ["self"] (spRd K C RSym) := by
  have sc := scRSymbol
  refine F.ok scRSymbol (fun vs H Q E h => ?_) (fun cdv A outer s H vs Q E hr h => ?_)
  · obtain ⟨p, tl, ws, i, j, us, ds, d, rfl, l, a, ⟨rfl, _⟩, _⟩ := h
    cases l
    rfl
  · obtain ⟨p, tl, ws, i, j, us, ds, d, rfl, l, a, ⟨rfl, rfl, x, hx, ⟨xl, xs'⟩, rfl⟩, k⟩ := h
    cases l
    refine ⟨_, (pss_cons (ps_asg (pe_ix ix_list (pe_fld (pv 0) rfl) (pe_fld (pv 0) rfl) (fun _ _ => rfl)) (pg_tup rfl (pgs_cons (pg_name (i := 1) sc.nd rfl (Or.inl rfl)) (pgs_cons (pg_name (i := 2) sc.nd rfl (Or.inl rfl)) pgs_nil))))
  (pss_cons (ps_if (pt_not (pt_val (pe_cal C_is_symbol (hr.mono (by omega)) rfl pass0 (pa_cons (pv 2) pa_nil))))
  (pss_one ps_never)
  pss_nil)
  (pss_cons (ps_fldaug (pv 0) pe_int in_add)
  (pss_one (ps_ret (pv 2)))))), ?_⟩
    obtain ⟨xs, b, n, h1, h2, h3⟩ := a.tok hx
    obtain ⟨dx, hp⟩ := a.ob
    refine ⟨_, rfl, p, C, dx, _, _, rfl, hp, T.cl, T.nT, rf_tok _ _, _, rfl, p, C, dx, _, _, rfl, hp, T.cl, T.nA, rf_at _ _, tl, xs, _, _, rfl, rfl, SqL.of h1, h2, b, _, rfl, h3, rfl, V.int _, _, rfl, V.str _, _, rfl, rfl, ?_⟩
    dsimp only
    refine q_no (K := K) (b := !true) (t_not (t_B (e_callV (us := [.str x]) (fun H1 s1 Q q => ⟨_, rfl, q H1 (.refl _)⟩) fun H1 s1 Q q => ⟨x, rfl, xl, fun H2 s2 => q _ H2 s2 (by rw [xs']; exact .bl true)⟩))) rfl fun H1 s1 => ?_
    have a1 := a.same s1
    have hp1 := s1 _ _ hp
    refine ⟨_, rfl, p, C, dx, _, _, rfl, hp1, T.cl, T.nA, rf_at _ _, _, _, rfl, rfl, dx, _, hp1, (by show 2 < 1000; decide), ?_⟩
    have e : putF "_at" (.int ((i : Int) + 1)) (rf tl i) = rf tl (i + 1) := rf_put tl i (i + 1)
    rw [e]
    exact ⟨_, rfl, k _ _ ((KeepB.of s1).trans keep_upd) (a1.next hp1) (.str x)⟩
theorem scDelimiter : FnScope ["self", "name"] ["self"] (defScope sDelimiter) := ⟨rfl, rfl, rfl, by decide +kernel, rfl, by decide +kernel, by decide +kernel⟩
theorem ok_delimiter {f : Addr} {fd : FuncData} (F : Fun K "_delimiter" "Reader._delimiter" sDelimiter f fd) (T : TxtRd K mg C) (C_symbol : CalM P w K mg base CX0 3 C "_symbol" ["self"] (spRd K C RSym)) : FnOk P w K mg base CX0 4 f fd ["self"] (spRd K C RDelim) := by
  have sc := scDelimiter
  refine F.ok scDelimiter (fun vs H Q E h => ?_) (fun cdv A outer s H vs Q E hr h => ?_)
  · obtain ⟨p, tl, ws, i, j, us, ds, d, rfl, l, a, ⟨rfl, _⟩, _⟩ := h
    cases l
    rfl
  · obtain ⟨p, tl, ws, i, j, us, ds, d, rfl, l, a, ⟨rfl, rfl, x, hx, sx, rfl⟩, k⟩ := h
    cases l
    refine ⟨_, (pss_cons (ps_set (i := 1) sc.nd rfl (Or.inl rfl) (pe_calm0 (pv 0) T.cl C_symbol (hr.mono (by omega)) pass0))
  (pss_one (ps_ret (pe_ifExp (pt_cmpR op_eq (pv 1) pe_str (nomark _)) pe_non (pv 1))))), ?_⟩
    refine g_set (r_call rfl (by decide +kernel) (by decide +kernel) ra_nil (⟨rfl, rfl, x, hx, sx, rfl⟩ : RSym [] ws i (i + 1) (.str x))) a fun v H1 k1 a1 t1 => ?_
    cases tp_str t1
    refine g_ret (j := i + 1) (d := optD (optW x)) (r_if (b := decide (x = ".")) (rt_eq (r_var a1 rfl (.str x)) r_eqS) (fun z => ?_) fun z => ?_) a1 fun v H2 k2 a2 t2 => k v H2 (k1.trans k2) a2 t2
    · have z := of_decide_eq_true z
      subst z
      exact r_pure fun _ _ => e_non
    · have z := of_decide_eq_false z
      rw [show optW x = some x from if_neg z]
      exact r_var a1 rfl (.str x)
/-! check_depth, where nothing is raised -/
def spCheckDepth0 : Sp := fun vs H Q _ => ∃ n : Int, vs = [.int n] ∧ n ≤ 7 ∧ Q .non H
theorem scCheckDepth0 : FnScope ["depth"] ["depth"] (defScope sCheckDepth0) := ⟨rfl, rfl, rfl, by decide +kernel, rfl, by decide +kernel, by decide +kernel⟩
theorem ok_checkdepth0 {f : Addr} {fd : FuncData} (F : Fun K "check_depth" "check_depth" sCheckDepth0 f fd) (T : TxtRd K mg C) : FnOk P w K mg base CX0 1 f fd ["depth"] spCheckDepth0 := by
  have sc := scCheckDepth0
  refine F.ok scCheckDepth0 (fun vs H Q E h => ?_) (fun cdv A outer s H vs Q E hr h => ?_)
  · obtain ⟨n, rfl, _⟩ := h
    rfl
  · obtain ⟨n, rfl, hn, k⟩ := h
    refine ⟨_, (pss_one (ps_if (pt_cmpR op_gt (pv 0) (pe_gint rfl T.c_DEEPEST) (nomark _)) (pss_one ps_never) pss_nil)), ?_⟩
    exact ⟨_, rfl, _, _, rfl, rfl, _, rfl, iteN (by simp; omega) k⟩
/-! cell_stops -/
def RStops (ds : List PyData) (d : PyData) : Prop := ∃ (c : Int) (m : PyData) (ends : List Str), ds = [.int c, m, .tuple (ends.map .str)] ∧ ends.length ≤ 10 ∧ ((m = .none ∧ d = if c < 6 then .tuple ((("&" : Str) :: ends).map .str) else .tuple (ends.map .str)) ∨ ∃ n : Int, m = .int n ∧ d = if c < n then .tuple [.str "&"] else .tuple (ends.map .str))
theorem scCellStops : FnScope ["count", "many", "ends"] ["count", "many", "ends"] (defScope sCellStops) := ⟨rfl, rfl, rfl, by decide +kernel, rfl, by decide +kernel, by decide +kernel⟩
theorem a_is {σ : L2.St} {H : Hp} {tas : TA} {ds es : List PyData} (h : EvDA K tas σ H ds) (e : ds = es) : EvDA K tas σ H es := e ▸ h
theorem e_star {σ : L2.St} {H : Hp} {te : TE} {tas : TA} {ds es : List PyData} (h : EvD K te σ H (.tuple ds)) (hs : EvDA K tas σ H es) : EvDA K (tStar K te tas) σ H (ds ++ es) := fun H1 s Q q =>
  h H1 s _ fun v H2 s2 hd => by
    obtain ⟨p, xs, rfl, sq, l⟩ := hd.inv
    exact ⟨p, xs, rfl, .inl sq, hs H2 (s.trans s2) _ fun vs H3 s3 hds => q _ H3 (s2.trans s3) ((l.stay (.of s3)).app hds)⟩
theorem ok_cellstops {f : Addr} {fd : FuncData} (F : Fun K "cell_stops" "cell_stops" sCellStops f fd) (T : TxtRd K mg C) : FnOk P w K mg base CX0 1 f fd ["count", "many", "ends"] (spR K RStops) := by
  have sc := scCellStops
  refine F.ok scCellStops (fun vs H Q E h => ?_) (fun cdv A outer s H vs Q E hr h => ?_)
  · obtain ⟨ds, d, l, ⟨c, m, ends, rfl, _⟩, _⟩ := h
    cases l with
    | cons _ l => cases l with
    | cons _ l => cases l with
    | cons _ l => cases l; rfl
  · obtain ⟨ds, d, l, ⟨c, m, ends, rfl, hl, hc⟩, k⟩ := h
    cases l with
    | cons t1 l => cases l with
    | cons t2 l => cases l with
    | cons t3 l => cases l with
    | nil =>
    cases tp_int t1
    refine ⟨_, (pss_cons (ps_if (pt_cmpR op_isN (pv 1) pe_non (nomark _))
  (pss_one (ps_ret (pe_ifExp (pt_cmpR op_lt (pv 0) (pe_gint rfl T.c_MOST_CELLS) (nomark _)) (pe_tup (pa_cons pe_str (pa_star (pv 2) pa_nil))) (pv 2))))
  pss_nil)
  (pss_one (ps_ret (pe_ifExp (pt_cmpR op_lt (pv 0) (pv 1) (nomark _)) (pe_tup (pa_cons pe_str pa_nil)) (pv 2))))), ?_⟩
    rcases hc with ⟨rfl, e⟩ | ⟨n, rfl, e⟩
    · refine q_yes (b := noneD .none) (t_test (e_op (e_var rfl t2) e_non r_isN)) rfl fun H1 s1 => ?_
      refine retD k s1 (d := d) (e_if (b := decide (c < 6)) (t_test (e_op (e_var rfl (.int c)) e_int r_I0b)) (fun z => ?_) fun z => ?_) rfl
      · rw [e, if_pos (of_decide_eq_true z)]
        refine e_tup (a_cons e_str (a_is (e_star (e_var rfl (t3.stay (.of s1))) a_nil) (List.append_nil _))) ?_
        rw [List.length_map, List.length_cons]
        omega
      · rw [e, if_neg (of_decide_eq_false z)]
        exact e_var rfl (t3.stay (.of s1))
    · refine q_no (b := noneD (.int n)) (t_test (e_op (e_var rfl t2) e_non r_isN)) rfl fun H1 s1 => ?_
      refine retD k s1 (d := d) (e_if (b := decide (c < n)) (t_test (e_op (e_var rfl (.int c)) (e_var rfl (t2.stay (.of s1))) r_I0b)) (fun z => ?_) fun z => ?_) rfl
      · rw [e, if_pos (of_decide_eq_true z)]
        exact e_tup (a_cons e_str a_nil) (by decide)
      · rw [e, if_neg (of_decide_eq_false z)]
        exact e_var rfl (t3.stay (.of s1))
end
end Mg

set_option Elab.async false
set_option linter.all false
set_option maxRecDepth 100000
set_option maxHeartbeats 1000000
namespace Mg
open PySem L2 StX
section
variable {K : PySem.W.Frag} {C p tl q : Addr} {ws us : List Str} {i j k : Nat} {H H' H0 H1 : Hp} {σ : L2.St} {te ta tb : TE} {tas : TA} {d : PyData} {ds es : List PyData} {tz tu tw : TS} {D : Ends} {x : Str} {E : XK} {m : Str}
theorem keepB_new {o : HO} (s : KeepB p H H') (h : H q = none) : KeepB p H (upd H' q o) := fun b x e n => by
  rw [upd_ne (ne_of_none e h)]
  exact s b x e n
theorem rt_notIn {n : Nat} {v : V} {stops : List Str} (h : EvR K C p tl ws te σ H i i (.str x)) (a : RdAt K C p tl ws k H) (hv : σ[n]? = some (some v)) (tv : Tp K H v (.tuple (stops.map .str))) : EvRT K C p tl ws (tTest (tOp (rIn K true) te (tVar n))) σ H i (!(stops.any fun r => r == x)) := fun H1 kb b Q q => h H1 kb b _ fun v2 H2 k2 a2 t => by
  cases tp_str t
  obtain ⟨c, xs, rfl, sq, l⟩ := (tv.stay (a.tup (kb.trans k2))).inv
  obtain rfl := l.strs
  refine ⟨_, hv, c, _, rfl, .inr sq, rfl, flat_strs2 _, !(stops.any fun r => r == x), ?_, q H2 k2 a2⟩
  show V.bl (!inV (V.str x) _) = _
  rw [in_strs]
theorem rt_none {n : Nat} {v : V} {d : PyData} (a : RdAt K C p tl ws k H) (hv : σ[n]? = some (some v)) (tv : Tp K H v d) : EvRT K C p tl ws (tTest (tOp (fun x y H Q => y = .non ∧ Q (.bl (decide (x = .non))) H) (tVar n) (tC .non))) σ H i (noneD d) := fun H1 kb b Q q =>
  ⟨v, hv, rfl, _, (by rw [none_dec (tv.stay (a.tup kb))]), q H1 (.refl _ _) b⟩
theorem rt_and {t u : TT} {b c : Bool} (h : EvRT K C p tl ws t σ H i b) (h2 : b = true → EvRT K C p tl ws u σ H i c) : EvRT K C p tl ws (tAnd t u) σ H i (b && c) := fun H1 kb a Q q => h H1 kb a _ fun H2 k2 a2 => by
  cases b with
  | true => exact iteT (h2 rfl H2 (kb.trans k2) a2 Q fun H3 k3 a3 => q H3 (k2.trans k3) a3)
  | false => exact iteF (q H2 k2 a2)
theorem rt_is {t : TT} {b c : Bool} (h : EvRT K C p tl ws t σ H i b) (e : b = c) : EvRT K C p tl ws t σ H i c := e ▸ h
theorem g_if {t : TT} {b : Bool} (h : EvRT K C p tl ws t σ H i b) (a : RdAt K C p tl ws i H) (h1 : b = true → ∀ H', KeepB p H H' → RdAt K C p tl ws i H' → tu D σ H') (h2 : b = false → ∀ H', KeepB p H H' → RdAt K C p tl ws i H' → tw D σ H') : tIfS t tu tw D σ H := h H (.refl _ _) a _ fun H' kb a' => by
  cases b with
  | true => exact iteT (h1 rfl H' kb a')
  | false => exact iteF (h2 rfl H' kb a')
theorem g_app {n : Nat} {xs : List V} {as : List PyData} (hq : σ[n]? = some (some (.ref q))) (e : H q = some (.lst xs)) (l : TpL K H xs as) (np : q ≠ p) (nt : q ≠ tl) (h : EvR K C p tl ws te σ H i j d) (a : RdAt K C p tl ws i H) (z : as.length < 1000000)
    (f : ∀ v H1, KeepB p H H1 → RdAt K C p tl ws j (upd H1 q (.lst (xs ++ [v]))) → TpL K (upd H1 q (.lst (xs ++ [v]))) (xs ++ [v]) (as ++ [d]) → D.nx σ (upd H1 q (.lst (xs ++ [v])))) : tDrop (tBM K "list" rAppend (tVar n) (tCons te tNil)) D σ H := by
  refine ⟨_, hq, .inl ⟨rfl, _, SqL.of e⟩, h H (.refl _ _) a _ fun v H1 kb a1 tv => ?_⟩
  have e1 := kb _ _ e np
  exact ⟨q, xs, v, rfl, rfl, e1, by rw [l.len]; exact sz6 z, f v H1 kb (a1.upd e1 nt) (((l.stay (a.tup kb)).app (.one tv)).stay (.keep keep_upd e1))⟩
end
/-! what the methods read -/
def RBraced (n : Nat) : RR := fun ds ws i j d => ∃ (r : CRow) (dep : Int), ds = [.int dep] ∧ r.ok ∧ r.h < n ∧ dep + (r.h : Int) ≤ 7 ∧ At ws i ("{" :: (r.ws ++ [("}" : Str)])) ∧ j = i + (r.ws.length + 2) ∧ d = r.f.d
def RArg (n : Nat) : RR := fun ds ws i j d => ∃ (r : CArg) (dep : Int), ds = [.int dep] ∧ r.ok ∧ r.h < n ∧ dep + (r.h : Int) ≤ 7 ∧ At ws i r.ws ∧ j = i + r.ws.length ∧ d = r.f.d
def RRow (n : Nat) : RR := fun ds ws i j d => ∃ (r : CRow) (dep : Int) (stops : List Str), ds = [.int dep, .tuple (stops.map .str)] ∧ (∀ x ∈ stops, x ∈ stopWs) ∧ r.ok ∧ r.h < n ∧ dep + (r.h : Int) ≤ 7 ∧ (∃ x : Str, x ∈ stops ∧ At ws i (r.ws ++ [x])) ∧ j = i + r.ws.length ∧ d = r.f.d
def RFence (n : Nat) : RR := fun ds ws i j d => ∃ (o c : Str) (r : CRow) (dep : Int), ds = [.int dep] ∧ Sy o ∧ Sy c ∧ r.ok ∧ r.h < n ∧ dep + (r.h : Int) ≤ 7 ∧ At ws i (CNuc.fence o c r).ws ∧ j = i + (CNuc.fence o c r).ws.length ∧ d = (CNuc.fence o c r).f.d
def restW : List CRow → List Str
  | [] => []
  | r :: rs => "&" :: (r.ws ++ restW rs)
def cellW : List CRow → List Str
  | [] => []
  | r :: rs => r.ws ++ restW rs
def RCells (n : Nat) : RR := fun ds ws i j d => ∃ (rs : List CRow) (dep : Int) (m : PyData) (ends : List Str), ds = [.int dep, m, .tuple (ends.map .str)] ∧ (∀ x ∈ ends, x ∈ stopWs) ∧ ends.length ≤ 5 ∧ 1 ≤ rs.length ∧ rs.length ≤ 6 ∧ (∀ r ∈ rs, r.ok ∧ r.h < n ∧ dep + (r.h : Int) ≤ 7) ∧ (m = .none ∨ m = .int (rs.length : Int)) ∧
  (∃ x : Str, x ∈ ends ∧ x ≠ "&" ∧ At ws i (cellW rs ++ [x])) ∧ j = i + (cellW rs).length ∧ d = .tuple (rs.map fun r => r.f.d)
def RGrid (n : Nat) : RR := fun ds ws i j d => ∃ (g : CGrid) (dep : Int), ds = [.int dep] ∧ (CNuc.grid g).ok ∧ g.h ≤ n ∧ dep + (g.h : Int) ≤ 8 ∧ At ws i (CNuc.grid g).ws ∧ j = i + (CNuc.grid g).ws.length ∧ d = (CNuc.grid g).f.d
def RNuc (n : Nat) : RR := fun ds ws i j d => ∃ (r : CNuc) (dep : Int), ds = [.int dep] ∧ r.ok ∧ r.h ≤ n ∧ dep + (r.h : Int) ≤ 7 ∧ At ws i r.ws ∧ j = i + r.ws.length ∧ d = r.f.d
def RItem (n : Nat) : RR := fun ds ws i j d => ∃ (r : CItem) (dep : Int), ds = [.int dep] ∧ r.ok ∧ r.h ≤ n ∧ dep + (r.h : Int) ≤ 7 ∧ (∃ x : Str, x ≠ "_" ∧ x ≠ "^" ∧ At ws i (r.ws ++ [x])) ∧ j = i + r.ws.length ∧ d = r.f.d
/-! cells in their lines -/
theorem cells_restW : ∀ c : CCells, c.ws "&" = restW c.rows
  | .nil => rfl
  | .cons r c => by rw [CCells.ws, CCells.rows, restW, cells_restW c]
theorem cells_cellW {s : Str} : ∀ c : CCells, c.rows ≠ [] → c.ws s = s :: cellW c.rows
  | .nil, h => absurd rfl h
  | .cons r c, _ => by rw [CCells.ws, CCells.rows, cellW, cells_restW c]
section
variable {P : Program} {w : World} {K : PySem.W.Frag} {mg : Str → Option Value} {base : Heap} {C : Addr}
theorem scRBraced : FnScope ["self", "depth", "row"] ["self", "depth"] (defScope sRBraced) := ⟨rfl, rfl, rfl, by decide +kernel, rfl, by decide +kernel, by decide +kernel⟩
theorem ok_rbraced {n : Nat} {f : Addr} {fd : FuncData} (F : Fun K "_braced" "Reader._braced" sRBraced f fd) (T : TxtRd K mg C) (C_accept : CalM P w K mg base CX0 1 C "_accept" ["self", "wanted"] (spRd K C RAcc)) (C_row : CalM P w K mg base CX0 (6 * n + 4) C "_row" ["self", "depth", "stops"] (spRd K C (RRow n))) : FnOk P w K mg base CX0 (6 * n + 5) f fd ["self", "depth"] (spRd K C (RBraced n)) := by
  have sc := scRBraced
  refine F.ok scRBraced (fun vs H Q E h => ?_) (fun cdv A outer s H vs Q E hr h => ?_)
  · obtain ⟨p, tl, ws, i, j, us, ds, d, rfl, l, a, ⟨r, dep, rfl, _⟩, _⟩ := h
    cases l with
    | cons _ l => cases l; rfl
  · obtain ⟨p, tl, ws, i, j, us, ds, d, rfl, l, a, ⟨r, dep, rfl, ok, hn, hd, hw, rfl, rfl⟩, k⟩ := h
    cases l with
    | cons t l => cases l with
    | nil =>
    cases tp_int t
    refine ⟨_, (pss_cons (ps_expr (pe_calm (pv 0) T.cl C_accept (hr.mono (by omega)) pass0 (pa_cons pe_str pa_nil)))
  (pss_cons (ps_set (i := 2) sc.nd rfl (Or.inl rfl) (pe_calm (pv 0) T.cl C_row (hr.mono (by omega)) pass0 (pa_cons (pv 1) (pa_cons (pe_tup (pa_cons pe_str pa_nil)) pa_nil))))
  (pss_cons (ps_expr (pe_calm (pv 0) T.cl C_accept (hr.mono (by omega)) pass0 (pa_cons pe_str pa_nil)))
  (pss_one (ps_ret (pv 2)))))), ?_⟩
    obtain ⟨w1, w2⟩ := at_cons.mp hw
    obtain ⟨w3, w4⟩ := at_app.mp w2
    obtain ⟨w5, _⟩ := at_cons.mp w4
    refine g_drop (r_call rfl (by decide +kernel) (by decide +kernel) (ra_pure fun _ _ => a_cons e_str a_nil) (⟨"{", rfl, rfl, w1, rfl⟩ : RAcc [.str "{"] ws i (i + 1) .none)) a fun H1 k1 a1 => ?_
    refine g_set (r_call rfl (by decide +kernel) (by decide +kernel) (ra_pure fun _ _ => a_cons (e_var rfl (.int dep)) (a_cons (e_tup (ds := [.str "}"]) (a_cons e_str a_nil) (by decide)) a_nil)) (⟨r, dep, ["}"], rfl, by decide +kernel, ok, hn, hd, ⟨"}", by decide +kernel, w2⟩, rfl, rfl⟩ : RRow n _ ws (i + 1) (i + 1 + r.ws.length) r.f.d)) a1 fun v H2 k2 a2 t2 => ?_
    refine g_drop (r_call rfl (by decide +kernel) (by decide +kernel) (ra_pure fun _ _ => a_cons e_str a_nil) (⟨"}", rfl, rfl, w5, rfl⟩ : RAcc [.str "}"] ws (i + 1 + r.ws.length) (i + 1 + r.ws.length + 1) .none)) a2 fun H3 k3 a3 => ?_
    refine g_ret (r_var (i := i + 1 + r.ws.length + 1) a3 rfl (t2.stay (a2.tup k3))) a3 fun v' H4 k4 a4 t4 => k v' H4 (((k1.trans k2).trans k3).trans k4) ?_ t4
    rw [show i + (r.ws.length + 2) = i + 1 + r.ws.length + 1 by omega]
    exact a4
theorem scArgument : FnScope ["self", "depth", "name"] ["self", "depth"] (defScope sArgument) := ⟨rfl, rfl, rfl, by decide +kernel, rfl, by decide +kernel, by decide +kernel⟩
theorem ok_argument {n : Nat} {f : Addr} {fd : FuncData} (F : Fun K "_argument" "Reader._argument" sArgument f fd) (T : TxtRd K mg C) (C_peek : CalM P w K mg base CX0 1 C "_peek" ["self"] (spRd K C RPeek)) (C_symbol : CalM P w K mg base CX0 3 C "_symbol" ["self"] (spRd K C RSym)) (C_check_depth : Cal P w K mg base CX0 1 "check_depth" ["depth"] spCheckDepth0) (C_braced : CalM P w K mg base CX0 (6 * n + 5) C "_braced" ["self", "depth"] (spRd K C (RBraced n))) :
    FnOk P w K mg base CX0 (6 * n + 6) f fd ["self", "depth"] (spRd K C (RArg n)) := by
  have sc := scArgument
  refine F.ok scArgument (fun vs H Q E h => ?_) (fun cdv A outer s H vs Q E hr h => ?_)
  · obtain ⟨p, tl, ws, i, j, us, ds, d, rfl, l, a, ⟨r, dep, rfl, _⟩, _⟩ := h
    cases l with
    | cons _ l => cases l; rfl
  · obtain ⟨p, tl, ws, i, j, us, ds, d, rfl, l, a, ⟨r, dep, rfl, ok, hn, hd, hw, rfl, rfl⟩, k⟩ := h
    cases l with
    | cons t l => cases l with
    | nil =>
    cases tp_int t
    refine ⟨_, (pss_cons (ps_if (pt_cmpR op_eq (pe_calm0 (pv 0) T.cl C_peek (hr.mono (by omega)) pass0) pe_str (nomark _))
  (pss_one (ps_ret (pe_calm (pv 0) T.cl C_braced (hr.mono (by omega)) pass0 (pa_cons (pv 1) pa_nil))))
  pss_nil)
  (pss_cons (ps_set (i := 2) sc.nd rfl (Or.inl rfl) (pe_calm0 (pv 0) T.cl C_symbol (hr.mono (by omega)) pass0))
  (pss_cons (ps_expr (pe_cal C_check_depth (hr.mono (by omega)) rfl pass0 (pa_cons (pv 1) pa_nil)))
  (pss_one (ps_ret (pe_tup (pa_cons (pe_tup (pa_cons (pe_tup (pa_cons pe_str (pa_cons (pv 2) pa_nil))) (pa_cons pe_non (pa_cons pe_non pa_nil)))) pa_nil))))))), ?_⟩
    have pk : ∀ {x : Str} {H : Hp} {E : XK}, ws[i]? = some x → EvR K C p tl ws (tMeth C "_peek" (spRd K C RPeek) [] E (tVar 0) tNil) (L2.start ["self", "depth", "name"] [.ref p, .int dep]) H i i (.str x) := fun hx => r_call rfl (by decide +kernel) (by decide +kernel) ra_nil ⟨rfl, rfl, _, hx, rfl⟩
    cases r with
    | brace r =>
      refine g_when (b := decide (("{" : Str) = "{")) (rt_eq (pk (at_cons.mp hw).1) r_eqS) a (fun _ H1 k1 a1 => ?_) (fun z => absurd z (by decide +kernel))
      refine g_ret (r_call rfl (by decide +kernel) (by decide +kernel) (ra_pure fun _ _ => a_cons (e_var rfl (.int dep)) a_nil) (⟨r, dep, rfl, ok, hn, hd, hw, rfl, rfl⟩ : RBraced n _ ws i (i + (r.ws.length + 2)) r.f.d)) a1 fun v' H4 k4 a4 t4 => k v' H4 (k1.trans k4) ?_ t4
      rw [show (CArg.brace r).ws.length = r.ws.length + 2 by simp [CArg.ws]]
      exact a4
    | one x =>
      have hx : ws[i]? = some x := (at_cons.mp hw).1
      have ok : Sy x := ok
      refine g_when (b := decide (x = "{")) (rt_eq (pk hx) r_eqS) a (fun z => absurd (of_decide_eq_true z) (sy_ne ok (by decide +kernel))) fun _ H1 k1 a1 => ?_
      refine g_set (r_call rfl (by decide +kernel) (by decide +kernel) ra_nil (⟨rfl, rfl, x, hx, ok, rfl⟩ : RSym [] ws i (i + 1) (.str x))) a1 fun v H2 k2 a2 t2 => ?_
      cases tp_str t2
      refine ⟨_, rfl, dep, rfl, by have : (0 : Int) ≤ ((CArg.one x).h : Int) := Int.ofNat_nonneg _; omega, ?_⟩
      refine g_ret (i := i + 1) (r_pure fun _ _ => e_tup (ds := [.tuple [.tuple [.str "symbol", .str x], .none, .none]]) (a_cons (e_tup (a_cons (e_tup (a_cons e_str (a_cons (e_var rfl (.str x)) a_nil)) (Nat.le_of_ble_eq_true rfl)) (a_cons e_non (a_cons e_non a_nil))) (Nat.le_of_ble_eq_true rfl)) a_nil) (Nat.le_of_ble_eq_true rfl)) a2 fun v' H4 k4 a4 t4 => k v' H4 ((k1.trans k2).trans k4) a4 t4
theorem scRFence : FnScope ["self", "depth", "opening", "row"] ["self", "depth"] (defScope sRFence) := ⟨rfl, rfl, rfl, by decide +kernel, rfl, by decide +kernel, by decide +kernel⟩
theorem ok_rfence {n : Nat} {f : Addr} {fd : FuncData} (F : Fun K "_fence" "Reader._fence" sRFence f fd) (T : TxtRd K mg C) (C_accept : CalM P w K mg base CX0 1 C "_accept" ["self", "wanted"] (spRd K C RAcc)) (C_delimiter : CalM P w K mg base CX0 4 C "_delimiter" ["self"] (spRd K C RDelim)) (C_row : CalM P w K mg base CX0 (6 * n + 4) C "_row" ["self", "depth", "stops"] (spRd K C (RRow n))) :
    FnOk P w K mg base CX0 (6 * n + 5) f fd ["self", "depth"] (spRd K C (RFence n)) := by
  have sc := scRFence
  refine F.ok scRFence (fun vs H Q E h => ?_) (fun cdv A outer s H vs Q E hr h => ?_)
  · obtain ⟨p, tl, ws, i, j, us, ds, d, rfl, l, a, ⟨o, c, r, dep, rfl, _⟩, _⟩ := h
    cases l with
    | cons _ l => cases l; rfl
  · obtain ⟨p, tl, ws, i, j, us, ds, d, rfl, l, a, ⟨o, c, r, dep, rfl, so, sc', ok, hn, hd, hw, rfl, rfl⟩, k⟩ := h
    cases l with
    | cons t l => cases l with
    | nil =>
    cases tp_int t
    refine ⟨_, (pss_cons (ps_expr (pe_calm (pv 0) T.cl C_accept (hr.mono (by omega)) pass0 (pa_cons pe_str pa_nil)))
  (pss_cons (ps_set (i := 2) sc.nd rfl (Or.inl rfl) (pe_calm0 (pv 0) T.cl C_delimiter (hr.mono (by omega)) pass0))
  (pss_cons (ps_set (i := 3) sc.nd rfl (Or.inl rfl) (pe_calm (pv 0) T.cl C_row (hr.mono (by omega)) pass0 (pa_cons (pv 1) (pa_cons (pe_tup (pa_cons pe_str pa_nil)) pa_nil))))
  (pss_cons (ps_expr (pe_calm (pv 0) T.cl C_accept (hr.mono (by omega)) pass0 (pa_cons pe_str pa_nil)))
  (pss_one (ps_ret (pe_tup (pa_cons pe_str (pa_cons (pv 2) (pa_cons (pe_calm0 (pv 0) T.cl C_delimiter (hr.mono (by omega)) pass0) (pa_cons (pv 3) pa_nil))))))))))), ?_⟩
    obtain ⟨w1, w2⟩ := at_cons.mp hw
    obtain ⟨w2, w3⟩ := at_cons.mp w2
    obtain ⟨w4, w5⟩ := at_app.mp w3
    obtain ⟨w5, w6⟩ := at_cons.mp w5
    obtain ⟨w6, _⟩ := at_cons.mp w6
    have w7 : At ws (i + 1 + 1) (r.ws ++ [("@right" : Str)]) := at_app.mpr ⟨w4, at_cons.mpr ⟨w5, at_nil⟩⟩
    refine g_drop (r_call rfl (by decide +kernel) (by decide +kernel) (ra_pure fun _ _ => a_cons e_str a_nil) (⟨"@left", rfl, rfl, w1, rfl⟩ : RAcc [.str "@left"] ws i (i + 1) .none)) a fun H1 k1 a1 => ?_
    refine g_set (r_call rfl (by decide +kernel) (by decide +kernel) ra_nil (⟨rfl, rfl, o, w2, so, rfl⟩ : RDelim [] ws (i + 1) (i + 1 + 1) (optD (optW o)))) a1 fun v2 H2 k2 a2 t2 => ?_
    refine g_set (r_call rfl (by decide +kernel) (by decide +kernel) (ra_pure fun _ _ => a_cons (e_var rfl (.int dep)) (a_cons (e_tup (ds := [.str "@right"]) (a_cons e_str a_nil) (by decide)) a_nil)) (⟨r, dep, ["@right"], rfl, by decide +kernel, ok, hn, hd, ⟨"@right", by decide +kernel, w7⟩, rfl, rfl⟩ : RRow n _ ws (i + 1 + 1) (i + 1 + 1 + r.ws.length) r.f.d)) a2 fun v3 H3 k3 a3 t3 => ?_
    refine g_drop (r_call rfl (by decide +kernel) (by decide +kernel) (ra_pure fun _ _ => a_cons e_str a_nil) (⟨"@right", rfl, rfl, w5, rfl⟩ : RAcc [.str "@right"] ws (i + 1 + 1 + r.ws.length) (i + 1 + 1 + r.ws.length + 1) .none)) a3 fun H4 k4 a4 => ?_
    refine g_ret (r_tup (ds := [.str "fence", optD (optW o), optD (optW c), r.f.d]) (ra_cons (r_pure fun _ _ => e_str) (ra_cons (r_var a4 rfl ((t2.stay (a2.tup k3)).stay (a3.tup k4))) (ra_cons (r_call rfl (by decide +kernel) (by decide +kernel) ra_nil (⟨rfl, rfl, c, w6, sc', rfl⟩ : RDelim [] ws (i + 1 + 1 + r.ws.length + 1) (i + 1 + 1 + r.ws.length + 1 + 1) (optD (optW c)))) (ra_cons (r_var a4 rfl (t3.stay (a3.tup k4))) ra_nil)))) (Nat.le_of_ble_eq_true rfl)) a4 fun v' H5 k5 a5 t5 => k v' H5 ((((k1.trans k2).trans k3).trans k4).trans k5) ?_ t5
    rw [show (CNuc.fence o c r).ws.length = r.ws.length + 4 by simp [CNuc.ws], show i + (r.ws.length + 4) = i + 1 + 1 + r.ws.length + 1 + 1 by omega]
    exact a5
end
end Mg

set_option Elab.async false
set_option linter.all false
set_option maxRecDepth 100000
set_option maxHeartbeats 1000000
namespace Mg
open PySem L2 StX
section
variable {P : Program} {w : World} {K : PySem.W.Frag} {mg : Str → Option Value} {base : Heap} {C : Addr}
theorem scRRow : FnScope ["self", "depth", "stops", "items"] ["self", "depth", "stops"] (defScope sRRow) := ⟨rfl, rfl, rfl, by decide +kernel, rfl, by decide +kernel, by decide +kernel⟩
theorem ok_rrow {n : Nat} {f : Addr} {fd : FuncData} (F : Fun K "_row" "Reader._row" sRRow f fd) (T : TxtRd K mg C) (C_peek : CalM P w K mg base CX0 1 C "_peek" ["self"] (spRd K C RPeek)) (C_check_depth : Cal P w K mg base CX0 1 "check_depth" ["depth"] spCheckDepth0) (C_item : CalM P w K mg base CX0 (6 * n + 8) C "_item" ["self", "depth"] (spRd K C (RItem n))) :
    FnOk P w K mg base CX0 (6 * n + 10) f fd ["self", "depth", "stops"] (spRd K C (RRow (n + 1))) := by
  have sc := scRRow
  refine F.ok scRRow (fun vs H Q E h => ?_) (fun cdv A outer s H vs Q E hr h => ?_)
  · obtain ⟨p, tl, ws, i, j, us, ds, d, rfl, l, a, ⟨r, dep, stops, rfl, _⟩, _⟩ := h
    cases l with
    | cons _ l => cases l with
    | cons _ l => cases l; rfl
  · obtain ⟨p, tl, ws, i, j, us, ds, d, rfl, l, a, ⟨r, dep, stops, rfl, hst, ok, hn, hd, ⟨x, hx, hw⟩, rfl, rfl⟩, k⟩ := h
    cases l with
    | cons t l => cases l with
    | cons t2 l => cases l with
    | nil =>
    rename_i vst
    cases tp_int t
    refine ⟨_, (pss_cons (ps_expr (pe_cal C_check_depth (hr.mono (by omega)) rfl pass0 (pa_cons (pv 1) pa_nil)))
  (pss_cons (ps_set (i := 3) sc.nd rfl (Or.inl rfl) (pe_lst pa_nil))
  (pss_cons (ps_while PassesOwn.never (pt_cmpR op_notIn_seq (pe_calm0 (pv 0) T.cl C_peek (hr.mono (by omega)) pass0) (pv 2) (by rfl))
  (pss_one (ps_expr (pe_bm PySem.F.plainAttrs_list PySem.F.slot_list_append PySem.F.type_list_append mt_append (pv 3) (pa_cons (pe_calm (pv 0) T.cl C_item (hr.mono (by omega)) pass0 (pa_cons (pv 1) pa_nil)) pa_nil)))))
  (pss_one (ps_ret (pe_callTy call_tuple_of (by rfl) T.b_tuple (by decide +kernel) (pa_cons (pv 3) pa_nil))))))), ?_⟩
    have h0 : (0 : Int) ≤ (r.h : Int) := Int.ofNat_nonneg _
    refine ⟨_, rfl, dep, rfl, by omega, ?_⟩
    refine ⟨Nat.zero_le _, fun q nq => ?_⟩
    have ne1 : q ≠ p := fun e => by
      obtain ⟨dx, hp⟩ := a.ob
      rw [e, hp] at nq
      cases nq
    have ne2 : q ≠ tl := fun e => by
      obtain ⟨xs, hp, _⟩ := a.tk
      rw [e, hp] at nq
      cases nq
    have okI := CRow.ok_iff.mp ok
    have hI := (CRow.h_le (n := r.h)).mp (Nat.le_refl _)
    have hL : r.items.length ≤ 1000000 := by
      have h1 : r.items.length ≤ r.ws.length := by
        rw [CRow.ws_eq]
        have : ∀ L : List CItem, (∀ z ∈ L, z.ok) → L.length ≤ (L.flatMap CItem.ws).length := by
          intro L
          induction L with
          | nil => intro _; exact Nat.zero_le _
          | cons z L ih =>
            intro h
            obtain ⟨y, r', e, _⟩ := CItem.first (h z (List.mem_cons_self))
            have := ih fun y hy => h y (List.mem_cons_of_mem _ hy)
            rw [List.flatMap_cons, List.length_append, List.length_cons, e, List.length_cons]
            omega
        exact this r.items okI
      have h2 : r.ws.length ≤ ws.length := by
        obtain ⟨z, hz⟩ := hw
        have := congrArg List.length hz
        rw [List.length_append, List.length_append, List.length_drop] at this
        omega
      exact Nat.le_trans h1 (Nat.le_trans h2 a.sz)
    refine ⟨fun m σ H' => ∃ (done rest : List CItem) (xs : List V), m = rest.length ∧ r.items = done ++ rest ∧ σ = [some (.ref p), some (.int dep), some vst, some (.ref q)] ∧ KeepB p H H' ∧ RdAt K C p tl ws (i + (done.flatMap CItem.ws).length) H' ∧ H' q = some (.lst xs) ∧ TpL K H' xs (done.map fun z => z.f.d),
      ⟨_, [], r.items, [], rfl, rfl, rfl, KeepB.of (same_new nq), a.same (same_new nq), upd_same, .nil⟩, ?_⟩
    rintro m σ H' ⟨done, rest, xs, rfl, er, rfl, kb, a1, eq, lx⟩
    have hw' : At ws (i + (done.flatMap CItem.ws).length) (rest.flatMap CItem.ws ++ [x]) := by
      rw [CRow.ws_eq, er, List.flatMap_append, List.append_assoc] at hw
      exact (at_app.mp hw).2
    have tst := t2.stay (a.tup kb)
    have pk : ∀ {y : Str}, ws[i + (done.flatMap CItem.ws).length]? = some y → EvRT K C p tl ws (tTest (tOp (rIn K true) (tMeth C "_peek" (spRd K C RPeek) [] E0 (tVar 0) tNil) (tVar 2))) [some (.ref p), some (.int dep), some vst, some (.ref q)] H' (i + (done.flatMap CItem.ws).length) (!(stops.any fun r => r == y)) := fun hy =>
      rt_notIn (r_call rfl (by decide +kernel) (by decide +kernel) ra_nil ⟨rfl, rfl, _, hy, rfl⟩) a1 rfl tst
    cases rest with
    | nil =>
      have hx0 := (at_cons.mp hw').1
      refine pk hx0 H' (.refl _ _) a1 _ fun H2 k2 a2 => ?_
      have e : (!(stops.any fun r => r == x)) = false := by
        have : (stops.any fun r => r == x) = true := List.any_eq_true.mpr ⟨x, hx, by simp⟩
        rw [this]
        rfl
      refine iteN (by rw [e]; decide) ?_
      have eq2 := k2 _ _ eq ne1
      rw [List.append_nil] at er
      refine ⟨_, rfl, q, xs, rfl, .inl ⟨SqL.of eq2, fun c hc => ?_⟩⟩
      refine k _ _ ((kb.trans k2).trans (.of (same_new hc))) ?_ ?_
      · rw [CRow.ws_eq, er]
        exact a2.same (same_new hc)
      · show Tp K _ _ (.tuple r.f.ds)
        rw [CRow.ds_eq, er]
        exact .mk (SqT.of upd_same) ((lx.stay (a1.tup k2)).stay (.of (same_new hc)))
    | cons it rest =>
      have oki := okI it (by rw [er]; simp)
      obtain ⟨y, r', ey, fy⟩ := CItem.first oki
      have hw2 : At ws (i + (done.flatMap CItem.ws).length) (it.ws ++ (rest.flatMap CItem.ws ++ [x])) := by
        rw [List.flatMap_cons, List.append_assoc] at hw'
        exact hw'
      have hy : ws[i + (done.flatMap CItem.ws).length]? = some y := by
        rw [ey] at hw2
        exact (at_cons.mp hw2).1
      refine pk hy H' (.refl _ _) a1 _ fun H2 k2 a2 => ?_
      have e : (!(stops.any fun r => r == y)) = true := by
        have : (stops.any fun r => r == y) = false := List.any_eq_false.mpr fun z hz => by
          have : z ≠ y := fun e => fy.1 (e ▸ hst z hz)
          simpa using this
        rw [this]
        rfl
      refine iteP e ?_
      have nxt : ∃ z : Str, z ≠ "_" ∧ z ≠ "^" ∧ At ws (i + (done.flatMap CItem.ws).length) (it.ws ++ [z]) := by
        obtain ⟨g1, g2⟩ := at_app.mp hw2
        cases rest with
        | nil =>
          have hs := hst x hx
          refine ⟨x, fun e => ?_, fun e => ?_, at_app.mpr ⟨g1, g2⟩⟩
          · rw [e] at hs; exact absurd hs (by decide +kernel)
          · rw [e] at hs; exact absurd hs (by decide +kernel)
        | cons it2 rest =>
          obtain ⟨y2, r2, ey2, fy2⟩ := CItem.first (okI it2 (by rw [er]; simp))
          rw [List.flatMap_cons, ey2] at g2
          exact ⟨y2, fy2.2.1, fy2.2.2, at_app.mpr ⟨g1, at_cons.mpr ⟨(at_cons.mp g2).1, at_nil⟩⟩⟩
      have hit : it.h ≤ r.h := hI it (by rw [er]; simp)
      have eq2 := k2 _ _ eq ne1
      have len : done.length + (rest.length + 1) = r.items.length := by rw [er, List.length_append, List.length_cons]
      refine ⟨_, fun σ' H'' h => h, g_app (n := 3) rfl eq2 (lx.stay (a1.tup k2)) ne1 ne2 (r_call (R := RItem n) (j := i + (done.flatMap CItem.ws).length + it.ws.length) (d := it.f.d) rfl (by decide +kernel) (by decide +kernel) (ra_pure fun _ _ => a_cons (e_var rfl (.int dep)) a_nil) ⟨it, dep, rfl, oki, by omega, by omega, nxt, rfl, rfl⟩) a2 (by rw [List.length_map]; omega) fun v H3 k3 a3 l3 => ?_⟩
      refine ⟨rest.length, Nat.lt_succ_self _, done ++ [it], rest, _, rfl, by rw [er, List.append_assoc]; rfl, rfl, keepB_new ((kb.trans k2).trans k3) nq, ?_, upd_same, ?_⟩
      · rw [List.flatMap_append, List.length_append, ← Nat.add_assoc, List.flatMap_cons, List.flatMap_nil, List.append_nil]
        exact a3
      · rw [List.map_append]
        exact l3
end
end Mg

set_option Elab.async false
set_option linter.all false
set_option maxRecDepth 100000
set_option maxHeartbeats 1000000
namespace Mg
open PySem L2 StX
/-! scripts as they come -/
def CScr.pcs : CScr → List (Bool × CArg)
  | .no => []
  | .b x => [(false, x)]
  | .a x => [(true, x)]
  | .ba x y => [(false, x), (true, y)]
  | .ab x y => [(true, x), (false, y)]
def pcW : Bool × CArg → List Str
  | (false, x) => "_" :: x.ws
  | (true, x) => "^" :: x.ws
def pcsOk : List (Bool × CArg) → FScr → FScr → Prop
  | [], _, _ => True
  | (false, x) :: r, lo, hi => lo = .no ∧ pcsOk r (.yes x.f) hi
  | (true, x) :: r, lo, hi => hi = .no ∧ pcsOk r lo (.yes x.f)
def pcsFin : List (Bool × CArg) → FScr → FScr → FScr × FScr
  | [], lo, hi => (lo, hi)
  | (false, x) :: r, _, hi => pcsFin r (.yes x.f) hi
  | (true, x) :: r, lo, _ => pcsFin r lo (.yes x.f)
theorem CScr.pcs_ws : ∀ s : CScr, s.ws = s.pcs.flatMap pcW
  | .no => rfl
  | .b x => by simp [CScr.ws, CScr.pcs, pcW]
  | .a x => by simp [CScr.ws, CScr.pcs, pcW]
  | .ba x y => by simp [CScr.ws, CScr.pcs, pcW]
  | .ab x y => by simp [CScr.ws, CScr.pcs, pcW]
theorem CScr.pcs_ok : ∀ s : CScr, pcsOk s.pcs .no .no
  | .no => trivial
  | .b x => ⟨rfl, trivial⟩
  | .a x => ⟨rfl, trivial⟩
  | .ba x y => ⟨rfl, rfl, trivial⟩
  | .ab x y => ⟨rfl, rfl, trivial⟩
theorem CScr.pcs_fin : ∀ s : CScr, pcsFin s.pcs .no .no = (s.lo, s.hi)
  | .no => rfl
  | .b x => rfl
  | .a x => rfl
  | .ba x y => rfl
  | .ab x y => rfl
theorem CScr.pcs_mem : ∀ {s : CScr} {z : Bool × CArg}, z ∈ s.pcs → s.ok → z.2.ok ∧ z.2.h + 1 ≤ s.h
  | .no, z, h, _ => nomatch h
  | .b x, z, h, o => by
    cases List.mem_singleton.mp h
    exact ⟨o, Nat.le_refl _⟩
  | .a x, z, h, o => by
    cases List.mem_singleton.mp h
    exact ⟨o, Nat.le_refl _⟩
  | .ba x y, z, h, o => by
    simp only [CScr.pcs, List.mem_cons, List.not_mem_nil, or_false] at h
    rcases h with rfl | rfl
    · exact ⟨o.1, Nat.le_max_left _ _⟩
    · exact ⟨o.2, Nat.le_max_right _ _⟩
  | .ab x y, z, h, o => by
    simp only [CScr.pcs, List.mem_cons, List.not_mem_nil, or_false] at h
    rcases h with rfl | rfl
    · exact ⟨o.1, Nat.le_max_left _ _⟩
    · exact ⟨o.2, Nat.le_max_right _ _⟩
section
variable {P : Program} {w : World} {K : PySem.W.Frag} {mg : Str → Option Value} {base : Heap} {C : Addr}
theorem scRItem : FnScope ["self", "depth", "nucleus", "below", "above"] ["self", "depth"] (defScope sRItem) := ⟨rfl, rfl, rfl, by decide +kernel, rfl, by decide +kernel, by decide +kernel⟩
theorem ok_ritem {n : Nat} {f : Addr} {fd : FuncData} (F : Fun K "_item" "Reader._item" sRItem f fd) (T : TxtRd K mg C) (C_peek : CalM P w K mg base CX0 1 C "_peek" ["self"] (spRd K C RPeek)) (C_accept : CalM P w K mg base CX0 1 C "_accept" ["self", "wanted"] (spRd K C RAcc)) (C_argument : CalM P w K mg base CX0 (6 * n + 6) C "_argument" ["self", "depth"] (spRd K C (RArg n)))
    (C_nucleus : CalM P w K mg base CX0 (6 * n + 7) C "_nucleus" ["self", "depth"] (spRd K C (RNuc n))) : FnOk P w K mg base CX0 (6 * n + 8) f fd ["self", "depth"] (spRd K C (RItem n)) := by
  have sc := scRItem
  refine F.ok scRItem (fun vs H Q E h => ?_) (fun cdv A outer s H vs Q E hr h => ?_)
  · obtain ⟨p, tl, ws, i, j, us, ds, d, rfl, l, a, ⟨r, dep, rfl, _⟩, _⟩ := h
    cases l with
    | cons _ l => cases l; rfl
  · obtain ⟨p, tl, ws, i, j, us, ds, d, rfl, l, a, ⟨⟨nu, scr⟩, dep, rfl, ok, hn, hd, ⟨x, x1, x2, hw⟩, rfl, rfl⟩, k⟩ := h
    cases l with
    | cons t l => cases l with
    | nil =>
    cases tp_int t
    refine ⟨_, (pss_cons (ps_set (i := 2) sc.nd rfl (Or.inl rfl) (pe_calm (pv 0) T.cl C_nucleus (hr.mono (by omega)) pass0 (pa_cons (pv 1) pa_nil)))
  (pss_cons (ps_set (i := 3) sc.nd rfl (Or.inl rfl) pe_non)
  (pss_cons (ps_set (i := 4) sc.nd rfl (Or.inl rfl) pe_non)
  (pss_one (ps_while PassesOwn.never (pt_val pe_bl)
  (pss_one (ps_if (PW.pt (pw_and (pt_cmpR op_eq (pe_calm0 (pv 0) T.cl C_peek (hr.mono (by omega)) pass0) pe_str (nomark _)) (pw_and1 (pt_cmpR op_isN (pv 3) pe_non (nomark _)))))
  (pss_cons (ps_expr (pe_calm (pv 0) T.cl C_accept (hr.mono (by omega)) pass0 (pa_cons pe_str pa_nil)))
  (pss_one (ps_set (i := 3) sc.nd rfl (Or.inl rfl) (pe_calm (pv 0) T.cl C_argument (hr.mono (by omega)) pass0 (pa_cons (pe_op op_add (pv 1) pe_int) pa_nil)))))
  (pss_one (ps_if (PW.pt (pw_and (pt_cmpR op_eq (pe_calm0 (pv 0) T.cl C_peek (hr.mono (by omega)) pass0) pe_str (nomark _)) (pw_and1 (pt_cmpR op_isN (pv 4) pe_non (nomark _)))))
  (pss_cons (ps_expr (pe_calm (pv 0) T.cl C_accept (hr.mono (by omega)) pass0 (pa_cons pe_str pa_nil)))
  (pss_one (ps_set (i := 4) sc.nd rfl (Or.inl rfl) (pe_calm (pv 0) T.cl C_argument (hr.mono (by omega)) pass0 (pa_cons (pe_op op_add (pv 1) pe_int) pa_nil)))))
  (pss_one (ps_ret (pe_tup (pa_cons (pv 2) (pa_cons (pv 3) (pa_cons (pv 4) pa_nil))))))))))))))), ?_⟩
    have hnu : nu.h ≤ (CItem.mk nu scr).h := Nat.le_max_left _ _
    have hsc : scr.h ≤ (CItem.mk nu scr).h := Nat.le_max_right _ _
    rw [show (CItem.mk nu scr).ws = nu.ws ++ scr.ws from rfl, List.append_assoc] at hw
    obtain ⟨w1, w2⟩ := at_app.mp hw
    rw [CScr.pcs_ws] at w2
    refine g_set (r_call (R := RNuc n) (j := i + nu.ws.length) (d := nu.f.d) rfl (by decide +kernel) (by decide +kernel) (ra_pure fun _ _ => a_cons (e_var rfl (.int dep)) a_nil) ⟨nu, dep, rfl, ok.1, by omega, by omega, w1, rfl, rfl⟩) a fun v2 H1 k1 a1 t2 => ?_
    refine ⟨fun m σ H' => ∃ (rest : List (Bool × CArg)) (lo hi : FScr) (v3 v4 : V) (i' : Nat), m = rest.length ∧ σ = [some (.ref p), some (.int dep), some v2, some v3, some v4] ∧ KeepB p H1 H' ∧ RdAt K C p tl ws i' H' ∧ At ws i' (rest.flatMap pcW ++ [x]) ∧ i' + (rest.flatMap pcW).length = i + nu.ws.length + (scr.pcs.flatMap pcW).length ∧
        Tp K H' v3 lo.d ∧ Tp K H' v4 hi.d ∧ pcsOk rest lo hi ∧ pcsFin rest lo hi = (scr.lo, scr.hi) ∧ ∀ z ∈ rest, z ∈ scr.pcs, ⟨_, scr.pcs, .no, .no, .non, .non, _, rfl, rfl, .refl _ _, a1, w2, rfl, .non, .non, CScr.pcs_ok _, CScr.pcs_fin _, fun _ h => h⟩, ?_⟩
    rintro m σ H' ⟨rest, lo, hi, v3, v4, i', rfl, rfl, kb, a2, w3, hl, t3, t4, po, pf, pm⟩
    refine ⟨true, rfl, iteP rfl ?_⟩
    refine ⟨_, fun σ' H'' h => h, ?_⟩
    have pk : ∀ {y z : Str} {H : Hp} {b : Bool}, ws[i']? = some y → b = decide (y = z) → EvRT K C p tl ws (tTest (tOp rEq (tMeth C "_peek" (spRd K C RPeek) [] E0 (tVar 0) tNil) (tC (.str z)))) [some (.ref p), some (.int dep), some v2, some v3, some v4] H i' b := fun hy e =>
      e ▸ rt_eq (r_call rfl (by decide +kernel) (by decide +kernel) ra_nil ⟨rfl, rfl, _, hy, rfl⟩) r_eqS
    cases rest with
    | nil =>
      have hx0 := (at_cons.mp w3).1
      refine g_if (b := false && false) (rt_and (pk hx0 (decide_eq_false x1).symm) (fun z => nomatch z)) a2 (fun z => nomatch z) fun _ H3 k3 a3 => ?_
      refine g_if (b := false && false) (rt_and (pk hx0 (decide_eq_false x2).symm) (fun z => nomatch z)) a3 (fun z => nomatch z) fun _ H4 k4 a4 => ?_
      have kk := k3.trans k4
      refine g_ret (i := i') (r_tup (ds := [nu.f.d, lo.d, hi.d]) (ra_cons (r_var a4 rfl (t2.stay (a1.tup (kb.trans kk)))) (ra_cons (r_var a4 rfl (t3.stay (a2.tup kk))) (ra_cons (r_var a4 rfl (t4.stay (a2.tup kk))) ra_nil))) (Nat.le_of_ble_eq_true rfl)) a4 fun v' H5 k5 a5 t5 => k v' H5 (((k1.trans kb).trans kk).trans k5) ?_ ?_
      · rw [show (CItem.mk nu scr).ws.length = nu.ws.length + (scr.pcs.flatMap pcW).length by rw [show (CItem.mk nu scr).ws = nu.ws ++ scr.ws from rfl, List.length_append, CScr.pcs_ws]]
        have e : i' = i + (nu.ws.length + (scr.pcs.flatMap pcW).length) := by
          rw [List.flatMap_nil, List.length_nil] at hl
          omega
        rw [← e]
        exact a5
      · have e1 : lo = scr.lo := congrArg Prod.fst pf
        have e2 : hi = scr.hi := congrArg Prod.snd pf
        rw [e1, e2] at t5
        exact t5
    | cons z rest =>
      obtain ⟨b, y⟩ := z
      obtain ⟨oky, hy⟩ := CScr.pcs_mem (pm _ (List.mem_cons_self)) ok.2
      have oky : y.ok := oky
      have hy : y.h + 1 ≤ scr.h := hy
      cases b with
      | false =>
        have w3 : At ws i' ((("_" : Str) :: y.ws) ++ (rest.flatMap pcW ++ [x])) := by
          rw [List.flatMap_cons, List.append_assoc] at w3
          exact w3
        obtain ⟨g1, g2⟩ := at_app.mp w3
        obtain ⟨g0, g1⟩ := at_cons.mp g1
        obtain ⟨rfl, po⟩ := po
        refine g_if (b := true && true) (rt_and (pk g0 rfl) (fun _ => rt_none a2 rfl t3)) a2 (fun _ H3 k3 a3 => ?_) (fun z => nomatch z)
        refine g_drop (r_call rfl (by decide +kernel) (by decide +kernel) (ra_pure fun _ _ => a_cons e_str a_nil) (⟨"_", rfl, rfl, g0, rfl⟩ : RAcc [.str "_"] ws i' (i' + 1) .none)) a3 fun H4 k4 a4 => ?_
        refine (r_call (R := RArg n) (H := H4) (j := i' + 1 + y.ws.length) (d := y.f.d) rfl (by decide +kernel) (by decide +kernel) (ra_pure fun _ _ => a_cons (e_op (e_var rfl (.int dep)) e_int r_I0i) a_nil) ⟨y, dep + 1, rfl, oky, by omega, by omega, g1, rfl, rfl⟩ : EvR K C p tl ws _ _ _ _ _ _) H4 (.refl _ _) a4 _ fun v H5 k5 a5 t5 => ?_
        have kk := (k3.trans k4).trans k5
        refine ⟨rest.length, Nat.lt_succ_self _, rest, .yes y.f, hi, v, v4, _, rfl, rfl, kb.trans kk, a5, ?_, ?_, t5, t4.stay (a2.tup kk), po, pf, fun z hz => pm z (List.mem_cons_of_mem _ hz)⟩
        · rw [show i' + 1 + y.ws.length = i' + (("_" : Str) :: y.ws).length by rw [List.length_cons]; omega]
          exact g2
        · rw [← hl, List.flatMap_cons, List.length_append, show pcW (false, y) = ("_" : Str) :: y.ws from rfl, List.length_cons]
          omega
      | true =>
        have w3 : At ws i' ((("^" : Str) :: y.ws) ++ (rest.flatMap pcW ++ [x])) := by
          rw [List.flatMap_cons, List.append_assoc] at w3
          exact w3
        obtain ⟨g1, g2⟩ := at_app.mp w3
        obtain ⟨g0, g1⟩ := at_cons.mp g1
        obtain ⟨rfl, po⟩ := po
        refine g_if (b := false && false) (rt_and (pk g0 (by decide +kernel)) (fun z => nomatch z)) a2 (fun z => nomatch z) fun _ H2 k2 a2' => ?_
        refine g_if (b := true && true) (rt_and (pk g0 rfl) (fun _ => rt_none a2' rfl (t4.stay (a2.tup k2)))) a2' (fun _ H3 k3 a3 => ?_) (fun z => nomatch z)
        refine g_drop (r_call rfl (by decide +kernel) (by decide +kernel) (ra_pure fun _ _ => a_cons e_str a_nil) (⟨"^", rfl, rfl, g0, rfl⟩ : RAcc [.str "^"] ws i' (i' + 1) .none)) a3 fun H4 k4 a4 => ?_
        refine (r_call (R := RArg n) (H := H4) (j := i' + 1 + y.ws.length) (d := y.f.d) rfl (by decide +kernel) (by decide +kernel) (ra_pure fun _ _ => a_cons (e_op (e_var rfl (.int dep)) e_int r_I0i) a_nil) ⟨y, dep + 1, rfl, oky, by omega, by omega, g1, rfl, rfl⟩ : EvR K C p tl ws _ _ _ _ _ _) H4 (.refl _ _) a4 _ fun v H5 k5 a5 t5 => ?_
        have kk := ((k2.trans k3).trans k4).trans k5
        refine ⟨rest.length, Nat.lt_succ_self _, rest, lo, .yes y.f, v3, v, _, rfl, rfl, kb.trans kk, a5, ?_, ?_, t3.stay (a2.tup kk), t5, po, pf, fun z hz => pm z (List.mem_cons_of_mem _ hz)⟩
        · rw [show i' + 1 + y.ws.length = i' + (("^" : Str) :: y.ws).length by rw [List.length_cons]; omega]
          exact g2
        · rw [← hl, List.flatMap_cons, List.length_append, show pcW (true, y) = ("^" : Str) :: y.ws from rfl, List.length_cons]
          omega
end
end Mg

set_option Elab.async false
set_option linter.all false
set_option maxRecDepth 100000
set_option maxHeartbeats 1000000
namespace Mg
open PySem L2 StX
section
variable {P : Program} {w : World} {K : PySem.W.Frag} {mg : Str → Option Value} {base : Heap} {C : Addr}
theorem scRNucleus : FnScope ["self", "depth", "word", "over"] ["self", "depth"] (defScope sRNucleus) := ⟨rfl, rfl, rfl, by decide +kernel, rfl, by decide +kernel, by decide +kernel⟩
theorem ok_rnucleus {n : Nat} {f : Addr} {fd : FuncData} (F : Fun K "_nucleus" "Reader._nucleus" sRNucleus f fd) (T : TxtRd K mg C) (C_peek : CalM P w K mg base CX0 1 C "_peek" ["self"] (spRd K C RPeek)) (C_accept : CalM P w K mg base CX0 1 C "_accept" ["self", "wanted"] (spRd K C RAcc)) (C_symbol : CalM P w K mg base CX0 3 C "_symbol" ["self"] (spRd K C RSym))
    (C_braced : CalM P w K mg base CX0 (6 * n + 5) C "_braced" ["self", "depth"] (spRd K C (RBraced n))) (C_argument : CalM P w K mg base CX0 (6 * n + 6) C "_argument" ["self", "depth"] (spRd K C (RArg n))) (C_fence : CalM P w K mg base CX0 (6 * n + 5) C "_fence" ["self", "depth"] (spRd K C (RFence n))) (C_grid : CalM P w K mg base CX0 (6 * n + 6) C "_grid" ["self", "depth"] (spRd K C (RGrid n))) :
    FnOk P w K mg base CX0 (6 * n + 7) f fd ["self", "depth"] (spRd K C (RNuc n)) := by
  have sc := scRNucleus
  refine F.ok scRNucleus (fun vs H Q E h => ?_) (fun cdv A outer s H vs Q E hr h => ?_)
  · obtain ⟨p, tl, ws, i, j, us, ds, d, rfl, l, a, ⟨r, dep, rfl, _⟩, _⟩ := h
    cases l with
    | cons _ l => cases l; rfl
  · obtain ⟨p, tl, ws, i, j, us, ds, d, rfl, l, a, ⟨r, dep, rfl, ok, hn, hd, hw, rfl, rfl⟩, k⟩ := h
    cases l with
    | cons t l => cases l with
    | nil =>
    cases tp_int t
    refine ⟨_, (pss_cons (ps_set (i := 2) sc.nd rfl (Or.inl rfl) (pe_calm0 (pv 0) T.cl C_peek (hr.mono (by omega)) pass0))
  (pss_cons (ps_if (pt_cmpR op_eq (pv 2) pe_str (nomark _))
  (pss_one (ps_ret (pe_tup (pa_cons pe_str (pa_cons (pe_calm (pv 0) T.cl C_braced (hr.mono (by omega)) pass0 (pa_cons (pe_op op_add (pv 1) pe_int) pa_nil)) pa_nil)))))
  pss_nil)
  (pss_cons (ps_if (pt_cmpR op_eq (pv 2) pe_str (nomark _))
  (pss_cons (ps_expr (pe_calm (pv 0) T.cl C_accept (hr.mono (by omega)) pass0 (pa_cons pe_str pa_nil)))
  (pss_cons (ps_set (i := 3) sc.nd rfl (Or.inl rfl) (pe_calm (pv 0) T.cl C_argument (hr.mono (by omega)) pass0 (pa_cons (pe_op op_add (pv 1) pe_int) pa_nil)))
  (pss_one (ps_ret (pe_tup (pa_cons pe_str (pa_cons (pv 3) (pa_cons (pe_calm (pv 0) T.cl C_argument (hr.mono (by omega)) pass0 (pa_cons (pe_op op_add (pv 1) pe_int) pa_nil)) pa_nil))))))))
  pss_nil)
  (pss_cons (ps_if (pt_cmpR op_eq (pv 2) pe_str (nomark _))
  (pss_cons (ps_expr (pe_calm (pv 0) T.cl C_accept (hr.mono (by omega)) pass0 (pa_cons pe_str pa_nil)))
  (pss_one (ps_ret (pe_tup (pa_cons pe_str (pa_cons (pe_calm (pv 0) T.cl C_argument (hr.mono (by omega)) pass0 (pa_cons (pe_op op_add (pv 1) pe_int) pa_nil)) pa_nil))))))
  pss_nil)
  (pss_cons (ps_if (pt_cmpR op_eq (pv 2) pe_str (nomark _))
  (pss_one (ps_ret (pe_calm (pv 0) T.cl C_fence (hr.mono (by omega)) pass0 (pa_cons (pe_op op_add (pv 1) pe_int) pa_nil))))
  pss_nil)
  (pss_cons (ps_if (pt_cmpR op_eq (pv 2) pe_str (nomark _))
  (pss_one (ps_ret (pe_calm (pv 0) T.cl C_grid (hr.mono (by omega)) pass0 (pa_cons (pe_op op_add (pv 1) pe_int) pa_nil))))
  pss_nil)
  (pss_one (ps_ret (pe_tup (pa_cons pe_str (pa_cons (pe_calm0 (pv 0) T.cl C_symbol (hr.mono (by omega)) pass0) pa_nil))))))))))), ?_⟩
    have st : ∀ {y : Str} {tz : TS} {D : Ends}, ws[i]? = some y → (∀ v H1, KeepB p H H1 → RdAt K C p tl ws i H1 → v = .str y → tz D (List.set (L2.start ["self", "depth", "word", "over"] [.ref p, .int dep]) 2 (some v)) H1) → tSeq (tAsg (tMeth C "_peek" (spRd K C RPeek) [] E0 (tVar 0) tNil) (gName 2)) tz D (L2.start ["self", "depth", "word", "over"] [.ref p, .int dep]) H := fun hy h =>
      g_set (r_call rfl (by decide +kernel) (by decide +kernel) ra_nil (⟨rfl, rfl, _, hy, rfl⟩ : RPeek [] ws i i (.str _))) a fun v H1 k1 a1 t1 => h v H1 k1 a1 (tp_str t1)
    cases r with
    | sym x =>
      have sx : Sy x := ok
      have hx : ws[i]? = some x := (at_cons.mp hw).1
      refine st hx fun v H1 k1 a1 e => ?_
      subst e
      refine q_noS rfl (sy_ne sx (by decide +kernel)) (q_noS rfl (sy_ne sx (by decide +kernel)) (q_noS rfl (sy_ne sx (by decide +kernel)) (q_noS rfl (sy_ne sx (by decide +kernel)) (q_noS rfl (sy_ne sx (by decide +kernel)) ?_))))
      exact g_ret (r_tup (ds := [.str "symbol", .str x]) (ra_cons (r_pure fun _ _ => e_str) (ra_cons (r_call rfl (by decide +kernel) (by decide +kernel) ra_nil (⟨rfl, rfl, x, hx, sx, rfl⟩ : RSym [] ws i (i + 1) (.str x))) ra_nil)) (Nat.le_of_ble_eq_true rfl)) a1 fun v H2 k2 a2 t2 => k v H2 (k1.trans k2) a2 t2
    | group r =>
      refine st (at_cons.mp hw).1 fun v H1 k1 a1 e => ?_
      subst e
      refine q_yesS rfl ?_
      have hn : r.h + 1 ≤ n := hn
      have hd : dep + ((r.h + 1 : Nat) : Int) ≤ 7 := hd
      refine g_ret (r_tup (ds := [.str "group", r.f.d]) (ra_cons (r_pure fun _ _ => e_str) (ra_cons (r_call rfl (by decide +kernel) (by decide +kernel) (ra_pure fun _ _ => a_cons (e_op (e_var rfl (.int dep)) e_int r_I0i) a_nil) (⟨r, dep + 1, rfl, ok, by omega, by omega, hw, rfl, rfl⟩ : RBraced n [.int (dep + 1)] ws i (i + (r.ws.length + 2)) r.f.d)) ra_nil)) (Nat.le_of_ble_eq_true rfl)) a1 fun v H2 k2 a2 t2 => k v H2 (k1.trans k2) ?_ t2
      rw [show (CNuc.group r).ws.length = r.ws.length + 2 by simp [CNuc.ws]]
      exact a2
    | frac o u =>
      obtain ⟨w1, w2⟩ := at_cons.mp hw
      obtain ⟨w2, w3⟩ := at_app.mp w2
      refine st w1 fun v H1 k1 a1 e => ?_
      subst e
      refine q_noS rfl (by decide +kernel) (q_yesS rfl ?_)
      have hn : max (o.h + 1) (u.h + 1) ≤ n := hn
      have hd : dep + ((max (o.h + 1) (u.h + 1) : Nat) : Int) ≤ 7 := hd
      refine g_drop (r_call rfl (by decide +kernel) (by decide +kernel) (ra_pure fun _ _ => a_cons e_str a_nil) (⟨"@frac", rfl, rfl, w1, rfl⟩ : RAcc [.str "@frac"] ws i (i + 1) .none)) a1 fun H2 k2 a2 => ?_
      refine g_set (r_call rfl (by decide +kernel) (by decide +kernel) (ra_pure fun _ _ => a_cons (e_op (e_var rfl (.int dep)) e_int r_I0i) a_nil) (⟨o, dep + 1, rfl, ok.1, by omega, by omega, w2, rfl, rfl⟩ : RArg n [.int (dep + 1)] ws (i + 1) (i + 1 + o.ws.length) o.f.d)) a2 fun v3 H3 k3 a3 t3 => ?_
      refine g_ret (r_tup (ds := [.str "frac", o.f.d, u.f.d]) (ra_cons (r_pure fun _ _ => e_str) (ra_cons (r_var a3 rfl t3) (ra_cons (r_call rfl (by decide +kernel) (by decide +kernel) (ra_pure fun _ _ => a_cons (e_op (e_var rfl (.int dep)) e_int r_I0i) a_nil) (⟨u, dep + 1, rfl, ok.2, by omega, by omega, w3, rfl, rfl⟩ : RArg n [.int (dep + 1)] ws (i + 1 + o.ws.length) (i + 1 + o.ws.length + u.ws.length) u.f.d)) ra_nil))) (Nat.le_of_ble_eq_true rfl)) a3 fun v H4 k4 a4 t4 => k v H4 (((k1.trans k2).trans k3).trans k4) ?_ t4
      rw [show (CNuc.frac o u).ws.length = o.ws.length + u.ws.length + 1 by simp [CNuc.ws], show i + (o.ws.length + u.ws.length + 1) = i + 1 + o.ws.length + u.ws.length by omega]
      exact a4
    | root r =>
      obtain ⟨w1, w2⟩ := at_cons.mp hw
      refine st w1 fun v H1 k1 a1 e => ?_
      subst e
      refine q_noS rfl (by decide +kernel) (q_noS rfl (by decide +kernel) (q_yesS rfl ?_))
      have hn : r.h + 1 ≤ n := hn
      have hd : dep + ((r.h + 1 : Nat) : Int) ≤ 7 := hd
      refine g_drop (r_call rfl (by decide +kernel) (by decide +kernel) (ra_pure fun _ _ => a_cons e_str a_nil) (⟨"@root", rfl, rfl, w1, rfl⟩ : RAcc [.str "@root"] ws i (i + 1) .none)) a1 fun H2 k2 a2 => ?_
      refine g_ret (r_tup (ds := [.str "root", r.f.d]) (ra_cons (r_pure fun _ _ => e_str) (ra_cons (r_call rfl (by decide +kernel) (by decide +kernel) (ra_pure fun _ _ => a_cons (e_op (e_var rfl (.int dep)) e_int r_I0i) a_nil) (⟨r, dep + 1, rfl, ok, by omega, by omega, w2, rfl, rfl⟩ : RArg n [.int (dep + 1)] ws (i + 1) (i + 1 + r.ws.length) r.f.d)) ra_nil)) (Nat.le_of_ble_eq_true rfl)) a2 fun v H3 k3 a3 t3 => k v H3 ((k1.trans k2).trans k3) ?_ t3
      rw [show (CNuc.root r).ws.length = r.ws.length + 1 by simp [CNuc.ws], show i + (r.ws.length + 1) = i + 1 + r.ws.length by omega]
      exact a3
    | fence o c r =>
      obtain ⟨w1, w2⟩ := at_cons.mp hw
      refine st w1 fun v H1 k1 a1 e => ?_
      subst e
      refine q_noS rfl (by decide +kernel) (q_noS rfl (by decide +kernel) (q_noS rfl (by decide +kernel) (q_yesS rfl ?_)))
      have hn : r.h + 1 ≤ n := hn
      have hd : dep + ((r.h + 1 : Nat) : Int) ≤ 7 := hd
      exact g_ret (r_call rfl (by decide +kernel) (by decide +kernel) (ra_pure fun _ _ => a_cons (e_op (e_var rfl (.int dep)) e_int r_I0i) a_nil) (⟨o, c, r, dep + 1, rfl, ok.1, ok.2.1, ok.2.2, by omega, by omega, hw, rfl, rfl⟩ : RFence n [.int (dep + 1)] ws i _ _)) a1 fun v H3 k3 a3 t3 => k v H3 (k1.trans k3) a3 t3
    | grid g =>
      obtain ⟨w1, w2⟩ := at_cons.mp hw
      refine st w1 fun v H1 k1 a1 e => ?_
      subst e
      refine q_noS rfl (by decide +kernel) (q_noS rfl (by decide +kernel) (q_noS rfl (by decide +kernel) (q_noS rfl (by decide +kernel) (q_yesS rfl ?_))))
      have hn : g.h ≤ n := hn
      have hd : dep + ((g.h : Nat) : Int) ≤ 7 := hd
      exact g_ret (r_call rfl (by decide +kernel) (by decide +kernel) (ra_pure fun _ _ => a_cons (e_op (e_var rfl (.int dep)) e_int r_I0i) a_nil) (⟨g, dep + 1, rfl, ok, by omega, by omega, hw, rfl, rfl⟩ : RGrid n [.int (dep + 1)] ws i _ _)) a1 fun v H3 k3 a3 t3 => k v H3 (k1.trans k3) a3 t3
theorem e_lenV {σ : L2.St} {H : Hp} {n m : Nat} {q : Addr} {xs : List V} {r : List V → Hp → VK → Prop} (hr : ∀ p xs H Q, (SqL K H p xs ∨ SqT K H p xs) → Q (V.int xs.length) H → r [.ref p] H Q) (hq : σ[n]? = some (some (.ref q))) (e : H q = some (.lst xs)) (hm : xs.length = m) : EvD K (tCB r (tCons (tVar n) tNil)) σ H (.int (m : Int)) := fun H1 s Q q' =>
  ⟨_, hq, hr _ xs _ _ (.inl (SqL.of (s _ _ e))) (by rw [hm]; exact q' _ H1 (.refl _) (.int _))⟩
theorem scRCells : FnScope ["self", "depth", "many", "ends", "cells"] ["self", "depth", "many", "ends"] (defScope sRCells) := ⟨rfl, rfl, rfl, by decide +kernel, rfl, by decide +kernel, by decide +kernel⟩
theorem ok_rcells {n : Nat} {f : Addr} {fd : FuncData} (F : Fun K "_cells" "Reader._cells" sRCells f fd) (T : TxtRd K mg C) (C_peek : CalM P w K mg base CX0 1 C "_peek" ["self"] (spRd K C RPeek)) (C_accept : CalM P w K mg base CX0 1 C "_accept" ["self", "wanted"] (spRd K C RAcc)) (C_cell_stops : Cal P w K mg base CX0 1 "cell_stops" ["count", "many", "ends"] (spR K RStops))
    (C_row : CalM P w K mg base CX0 (6 * n + 4) C "_row" ["self", "depth", "stops"] (spRd K C (RRow n))) : FnOk P w K mg base CX0 (6 * n + 5) f fd ["self", "depth", "many", "ends"] (spRd K C (RCells n)) := by
  have sc := scRCells
  refine F.ok scRCells (fun vs H Q E h => ?_) (fun cdv A outer s H vs Q E hr h => ?_)
  · obtain ⟨p, tl, ws, i, j, us, ds, d, rfl, l, a, ⟨rs, dep, m, ends, rfl, _⟩, _⟩ := h
    cases l with
    | cons _ l => cases l with
    | cons _ l => cases l with
    | cons _ l => cases l; rfl
  · obtain ⟨p, tl, ws, i, j, us, ds, d, rfl, l, a, ⟨rs, dep, m, ends, rfl, hst, he5, h1, h6, hr1, hm, ⟨x, hx, xa, hw⟩, rfl, rfl⟩, k⟩ := h
    cases l with
    | cons t l => cases l with
    | cons tm l => cases l with
    | cons te l => cases l with
    | nil =>
    cases tp_int t
    rename_i vm ve
    refine ⟨_, (pss_cons (ps_set (i := 4) sc.nd rfl (Or.inl rfl) (pe_lst pa_nil))
  (pss_one (ps_while PassesOwn.never (pt_val pe_bl)
  (pss_cons (ps_expr (pe_bm PySem.F.plainAttrs_list PySem.F.slot_list_append PySem.F.type_list_append mt_append (pv 4) (pa_cons (pe_calm (pv 0) T.cl C_row (hr.mono (by omega)) pass0 (pa_cons (pv 1) (pa_cons (pe_cal C_cell_stops (hr.mono (by omega)) rfl pass0 (pa_cons (pe_op op_add (pe_callB call_len_sq (by rfl) T.b_len PySem.boot_len (pa_cons (pv 4) pa_nil)) pe_int) (pa_cons (pv 2) (pa_cons (pv 3) pa_nil)))) pa_nil))) pa_nil)))
  (pss_cons (ps_if (pt_cmpR op_ne (pe_calm0 (pv 0) T.cl C_peek (hr.mono (by omega)) pass0) pe_str (nomark _))
  (pss_one (ps_ret (pe_callTy call_tuple_of (by rfl) T.b_tuple (by decide +kernel) (pa_cons (pv 4) pa_nil))))
  pss_nil)
  (pss_one (ps_expr (pe_calm (pv 0) T.cl C_accept (hr.mono (by omega)) pass0 (pa_cons pe_str pa_nil))))))))), ?_⟩
    refine ⟨Nat.zero_le _, fun q nq => ?_⟩
    have ne1 : q ≠ p := fun e => by
      obtain ⟨dx, hp⟩ := a.ob
      rw [e, hp] at nq
      cases nq
    have ne2 : q ≠ tl := fun e => by
      obtain ⟨xs, hp, _⟩ := a.tk
      rw [e, hp] at nq
      cases nq
    refine ⟨fun m' σ H' => ∃ (done rest : List CRow) (r : CRow) (xs : List V) (i' : Nat), m' = rest.length ∧ rs = done ++ r :: rest ∧ σ = [some (.ref p), some (.int dep), some vm, some ve, some (.ref q)] ∧ KeepB p H H' ∧ RdAt K C p tl ws i' H' ∧ At ws i' (cellW (r :: rest) ++ [x]) ∧ i' + (cellW (r :: rest)).length = i + (cellW rs).length ∧ H' q = some (.lst xs) ∧ TpL K H' xs (done.map fun z => z.f.d), ?_, ?_⟩
    · cases rs with
      | nil => simp at h1
      | cons r rest => exact ⟨_, [], rest, r, [], i, rfl, rfl, rfl, KeepB.of (same_new nq), a.same (same_new nq), hw, rfl, upd_same, .nil⟩
    rintro m' σ H' ⟨done, rest, r, xs, i', rfl, er, rfl, kb, a1, hw1, hl, eq, lx⟩
    refine ⟨true, rfl, iteP rfl ?_⟩
    refine ⟨_, fun σ' H'' h => h, ?_⟩
    have tm1 := tm.stay (a.tup kb)
    have te1 := te.stay (a.tup kb)
    obtain ⟨okr, hr2, hr3⟩ := hr1 r (by rw [er]; simp)
    have ld : done.length + (rest.length + 1) = rs.length := by rw [er, List.length_append, List.length_cons]
    rw [show cellW (r :: rest) = r.ws ++ restW rest from rfl, List.append_assoc] at hw1
    obtain ⟨g1, g2⟩ := at_app.mp hw1
    obtain ⟨stops, hs, hsd, y, hy, gy⟩ : ∃ (stops : List Str) (hs : ∀ z ∈ stops, z ∈ stopWs) (_ : RStops [.int ((done.length : Int) + 1), m, .tuple (ends.map .str)] (.tuple (stops.map .str))) (y : Str), y ∈ stops ∧ ws[i' + r.ws.length]? = some y := by
      cases rest with
      | nil =>
        have gx : ws[i' + r.ws.length]? = some x := (at_cons.mp g2).1
        rcases hm with rfl | rfl
        · by_cases c : (done.length : Int) + 1 < 6
          · refine ⟨"&" :: ends, fun z hz => ?_, ⟨_, _, ends, rfl, by omega, .inl ⟨rfl, by rw [if_pos c]⟩⟩, x, List.mem_cons_of_mem _ hx, gx⟩
            rcases List.mem_cons.mp hz with rfl | hz
            · decide +kernel
            · exact hst z hz
          · exact ⟨ends, hst, ⟨_, _, ends, rfl, by omega, .inl ⟨rfl, by rw [if_neg c]⟩⟩, x, hx, gx⟩
        · refine ⟨ends, hst, ⟨_, _, ends, rfl, by omega, .inr ⟨_, rfl, ?_⟩⟩, x, hx, gx⟩
          rw [if_neg (by rw [List.length_nil] at ld; omega)]
      | cons r2 rest =>
        have gx : ws[i' + r.ws.length]? = some "&" := (at_cons.mp g2).1
        rcases hm with rfl | rfl
        · have c : (done.length : Int) + 1 < 6 := by rw [List.length_cons] at ld; omega
          refine ⟨"&" :: ends, fun z hz => ?_, ⟨_, _, ends, rfl, by omega, .inl ⟨rfl, by rw [if_pos c]⟩⟩, "&", List.mem_cons_self, gx⟩
          rcases List.mem_cons.mp hz with rfl | hz
          · decide +kernel
          · exact hst z hz
        · refine ⟨["&"], by decide +kernel, ⟨_, _, ends, rfl, by omega, .inr ⟨_, rfl, ?_⟩⟩, "&", List.mem_cons_self, gx⟩
          rw [if_pos (by rw [List.length_cons] at ld; omega)]
          rfl
    have wr : At ws i' (r.ws ++ [y]) := at_app.mpr ⟨g1, at_cons.mpr ⟨gy, at_nil⟩⟩
    refine g_app (n := 4) rfl eq lx ne1 ne2 (r_call (R := RRow n) (k := i') (j := i' + r.ws.length) (d := r.f.d) rfl (by decide +kernel) (by decide +kernel) (ra_pure fun H2 k2 => a_cons (e_var rfl (.int dep)) (a_cons (e_call (a_cons (e_op (e_lenV (fun p ys H Q h k => ⟨p, ys, rfl, h, fun _ => k⟩) rfl (k2 _ _ eq ne1) (by rw [lx.len, List.length_map])) e_int r_I0i) (a_cons (e_var rfl (tm1.stay (a1.tup k2))) (a_cons (e_var rfl (te1.stay (a1.tup k2))) a_nil))) hsd) a_nil)) ⟨r, dep, stops, rfl, hs, okr, hr2, hr3, ⟨y, hy, wr⟩, rfl, rfl⟩) a1 (by rw [List.length_map]; omega) fun v H3 k3 a3 l3 => ?_
    have kb3 : KeepB p H (upd H3 q (.lst (xs ++ [v]))) := keepB_new (kb.trans k3) nq
    have eq3 : upd H3 q (.lst (xs ++ [v])) q = some (.lst (xs ++ [v])) := upd_same
    have pk : ∀ {y : Str} {H4 : Hp}, ws[i' + r.ws.length]? = some y → EvRT K C p tl ws (tTest (tOp rNe (tMeth C "_peek" (spRd K C RPeek) [] E0 (tVar 0) tNil) (tC (.str "&")))) [some (.ref p), some (.int dep), some vm, some ve, some (.ref q)] H4 (i' + r.ws.length) (!decide (y = "&")) := fun hy =>
      rt_eq (r_call rfl (by decide +kernel) (by decide +kernel) ra_nil ⟨rfl, rfl, _, hy, rfl⟩) r_neS
    cases rest with
    | nil =>
      have gx : ws[i' + r.ws.length]? = some x := (at_cons.mp g2).1
      refine g_when (pk gx) a3 (fun _ H5 k5 a5 => ?_) (fun z => absurd z (by simpa using xa))
      have eq5 := k5 _ _ eq3 ne1
      refine ⟨_, rfl, q, _, rfl, .inl ⟨SqL.of eq5, fun c hc => ?_⟩⟩
      refine k _ _ ((kb3.trans k5).trans (.of (same_new hc))) ?_ ?_
      · rw [← hl, show (cellW [r]).length = r.ws.length by rw [show cellW [r] = r.ws ++ [] from rfl, List.append_nil]]
        exact a5.same (same_new hc)
      · rw [er, List.map_append]
        exact .mk (SqT.of upd_same) ((l3.stay (a3.tup k5)).stay (.of (same_new hc)))
    | cons r2 rest =>
      have g2 : At ws (i' + r.ws.length) (("&" : Str) :: (cellW (r2 :: rest) ++ [x])) := g2
      obtain ⟨gx, g3⟩ := at_cons.mp g2
      refine g_when (pk gx) a3 (fun z => absurd z (by decide +kernel)) (fun _ H5 k5 a5 => ?_)
      refine g_dropE (r_call rfl (by decide +kernel) (by decide +kernel) (ra_pure fun _ _ => a_cons e_str a_nil) (⟨"&", rfl, rfl, gx, rfl⟩ : RAcc [.str "&"] ws (i' + r.ws.length) (i' + r.ws.length + 1) .none)) a5 fun H6 k6 a6 => ?_
      refine ⟨rest.length, Nat.lt_succ_self _, done ++ [r], rest, r2, _, _, rfl, by rw [er, List.append_assoc]; rfl, rfl, (kb3.trans k5).trans k6, a6, g3, ?_, k6 _ _ (k5 _ _ eq3 ne1) ne1, ?_⟩
      · rw [← hl, show cellW (r :: r2 :: rest) = r.ws ++ (("&" : Str) :: cellW (r2 :: rest)) from rfl, List.length_append, List.length_cons]
        omega
      · rw [List.map_append]
        exact (l3.stay (a3.tup k5)).stay (a5.tup k6)
end
end Mg

set_option Elab.async false
set_option linter.all false
set_option maxRecDepth 100000
set_option maxHeartbeats 1000000
namespace Mg
open PySem L2 StX
def lineW : List CCells → List Str
  | [] => []
  | c :: cs => "~" :: (cellW c.rows ++ lineW cs)
theorem grid_lineW : ∀ g : CGrid, (∀ c ∈ g.lines, c.rows ≠ []) → g.ws "~" = lineW g.lines
  | .nil, _ => rfl
  | .cons c g, h => by
    rw [CGrid.ws, CGrid.lines, lineW, grid_lineW g fun c hc => h c (List.mem_cons_of_mem _ hc), cells_cellW c (h c List.mem_cons_self)]
    rfl
section
variable {P : Program} {w : World} {K : PySem.W.Frag} {mg : Str → Option Value} {base : Heap} {C : Addr}
theorem g_setLst {n : Nat} {p tl : Addr} {ws : List Str} {i j : Nat} {σ : L2.St} {H : Hp} {tas : TA} {ds : List PyData} {tz : TS} {D : Ends} (h : EvRA K C p tl ws tas σ H i j ds) (a : RdAt K C p tl ws i H) (hl : ds.length ≤ 1000) (q : ∀ vs H' r, KeepB p H H' → RdAt K C p tl ws j H' → TpL K H' vs ds → H' r = none → tz D (σ.set n (some (.ref r))) (upd H' r (.lst vs))) : tSeq (tAsg (tLst tas) (gName n)) tz D σ H := h H (.refl _ _) a _ fun vs H' kb a' l =>
  ⟨by rw [l.len]; exact sz5 (by omega), fun r hr => q vs H' r kb a' l hr⟩
theorem scRGrid : FnScope ["self", "depth", "rows", "ends"] ["self", "depth"] (defScope sRGrid) := ⟨rfl, rfl, rfl, by decide +kernel, rfl, by decide +kernel, by decide +kernel⟩
theorem ok_rgrid {n : Nat} {f : Addr} {fd : FuncData} (F : Fun K "_grid" "Reader._grid" sRGrid f fd) (T : TxtRd K mg C) (C_peek : CalM P w K mg base CX0 1 C "_peek" ["self"] (spRd K C RPeek)) (C_accept : CalM P w K mg base CX0 1 C "_accept" ["self", "wanted"] (spRd K C RAcc))
    (C_cells : CalM P w K mg base CX0 (6 * n + 5) C "_cells" ["self", "depth", "many", "ends"] (spRd K C (RCells n))) : FnOk P w K mg base CX0 (6 * n + 6) f fd ["self", "depth"] (spRd K C (RGrid n)) := by
  have sc := scRGrid
  refine F.ok scRGrid (fun vs H Q E h => ?_) (fun cdv A outer s H vs Q E hr h => ?_)
  · obtain ⟨p, tl, ws, i, j, us, ds, d, rfl, l, a, ⟨g, dep, rfl, _⟩, _⟩ := h
    cases l with
    | cons _ l => cases l; rfl
  · obtain ⟨p, tl, ws, i, j, us, ds, d, rfl, l, a, ⟨g, dep, rfl, ok, hn, hd, hw, rfl, rfl⟩, k⟩ := h
    cases l with
    | cons t l => cases l with
    | nil =>
    cases tp_int t
    refine ⟨_, (pss_cons (ps_expr (pe_calm (pv 0) T.cl C_accept (hr.mono (by omega)) pass0 (pa_cons pe_str pa_nil)))
  (pss_cons (ps_expr (pe_calm (pv 0) T.cl C_accept (hr.mono (by omega)) pass0 (pa_cons pe_str pa_nil)))
  (pss_cons (ps_set (i := 2) sc.nd rfl (Or.inl rfl) (pe_lst (pa_cons (pe_calm (pv 0) T.cl C_cells (hr.mono (by omega)) pass0 (pa_cons (pv 1) (pa_cons pe_non (pa_cons (pe_tup (pa_cons pe_str (pa_cons pe_str pa_nil))) pa_nil)))) pa_nil)))
  (pss_cons (ps_while PassesOwn.never (pt_cmpR op_eq (pe_calm0 (pv 0) T.cl C_peek (hr.mono (by omega)) pass0) pe_str (nomark _))
  (pss_cons (ps_expr (pe_calm (pv 0) T.cl C_accept (hr.mono (by omega)) pass0 (pa_cons pe_str pa_nil)))
  (pss_cons (ps_set (i := 3) sc.nd rfl (Or.inl rfl) (pe_ifExp (pt_cmpR op_lt (pe_op op_add (pe_callB call_len_sq (by rfl) T.b_len PySem.boot_len (pa_cons (pv 2) pa_nil)) pe_int) (pe_gint rfl T.c_MOST_CELLS) (nomark _)) (pe_tup (pa_cons pe_str (pa_cons pe_str pa_nil))) (pe_tup (pa_cons pe_str pa_nil))))
  (pss_one (ps_expr (pe_bm PySem.F.plainAttrs_list PySem.F.slot_list_append PySem.F.type_list_append mt_append (pv 2) (pa_cons (pe_calm (pv 0) T.cl C_cells (hr.mono (by omega)) pass0 (pa_cons (pv 1) (pa_cons (pe_callB call_len_sq (by rfl) T.b_len PySem.boot_len (pa_cons (pe_ix ix_list (pv 2) pe_int (fun _ _ => rfl)) pa_nil)) (pa_cons (pv 3) pa_nil)))) pa_nil)))))))
  (pss_cons (ps_expr (pe_calm (pv 0) T.cl C_accept (hr.mono (by omega)) pass0 (pa_cons pe_str pa_nil)))
  (pss_one (ps_ret (pe_tup (pa_cons pe_str (pa_cons (pe_callTy call_tuple_of (by rfl) T.b_tuple (by decide +kernel) (pa_cons (pv 2) pa_nil)) pa_nil)))))))))), ?_⟩
    obtain ⟨gok, ⟨l1, l6⟩, m, m1, m6, hm⟩ := ok
    have gok := CGrid.ok_iff.mp gok
    have gh := (CGrid.h_le (n := g.h)).mp (Nat.le_refl _)
    have hrow : ∀ c ∈ g.lines, ∀ r ∈ c.rows, r.ok ∧ r.h < n ∧ dep + (r.h : Int) ≤ 7 := fun c hc r hr => by
      have h1 := CCells.ok_iff.mp (gok c hc) r hr
      have h2 := (CCells.h_le.mp (gh c hc)) r hr
      exact ⟨h1, by omega, by omega⟩
    have hne : ∀ c ∈ g.lines, c.rows ≠ [] := fun c hc e => by
      have := hm c hc
      rw [e, List.length_nil] at this
      omega
    cases g with
    | nil => simp [CGrid.lines] at l1
    | cons c0 g0 =>
    have hm0 : ∀ c ∈ g0.lines, c.rows.length = m := fun c hc => hm c (List.mem_cons_of_mem _ hc)
    have ew : (CNuc.grid (.cons c0 g0)).ws = ("@grid" : Str) :: ("{" : Str) :: (cellW c0.rows ++ (lineW g0.lines ++ [("}" : Str)])) := by
      show ("@grid" : Str) :: ((c0.ws "{" ++ g0.ws "~") ++ [("}" : Str)]) = _
      rw [cells_cellW c0 (hne c0 List.mem_cons_self), grid_lineW g0 fun c hc => hne c (List.mem_cons_of_mem _ hc), List.append_assoc]
      rfl
    rw [ew] at hw k
    obtain ⟨w1, w2⟩ := at_cons.mp hw
    obtain ⟨w2, w3⟩ := at_cons.mp w2
    obtain ⟨w3, w4⟩ := at_app.mp w3
    refine g_drop (r_call rfl (by decide +kernel) (by decide +kernel) (ra_pure fun _ _ => a_cons e_str a_nil) (⟨"@grid", rfl, rfl, w1, rfl⟩ : RAcc [.str "@grid"] ws i (i + 1) .none)) a fun H1 k1 a1 => ?_
    refine g_drop (r_call rfl (by decide +kernel) (by decide +kernel) (ra_pure fun _ _ => a_cons e_str a_nil) (⟨"{", rfl, rfl, w2, rfl⟩ : RAcc [.str "{"] ws (i + 1) (i + 1 + 1) .none)) a1 fun H2 k2 a2 => ?_
    have nextW : ∀ (cs : List CCells) (i' : Nat), At ws i' (lineW cs ++ [("}" : Str)]) → ∃ y : Str, ws[i']? = some y ∧ y ≠ "&" ∧ (y = "~" ∧ cs ≠ [] ∨ y = "}") := fun cs i' h => by
      cases cs with
      | nil => exact ⟨"}", (at_cons.mp h).1, by decide +kernel, .inr rfl⟩
      | cons c cs =>
        have h : At ws i' (("~" : Str) :: ((cellW c.rows ++ lineW cs) ++ [("}" : Str)])) := h
        exact ⟨"~", (at_cons.mp h).1, by decide +kernel, .inl ⟨rfl, by simp⟩⟩
    have cellAt : ∀ {i' : Nat} {y : Str} {rs : List CRow}, At ws i' (cellW rs) → ws[i' + (cellW rs).length]? = some y → At ws i' (cellW rs ++ [y]) := fun h1 h2 => at_app.mpr ⟨h1, at_cons.mpr ⟨h2, at_nil⟩⟩
    obtain ⟨y0, hy0, hy1, hy2⟩ := nextW _ _ w4
    have e1 : ∀ {σ : L2.St} {H : Hp}, EvD K (tTup (tCons (tC (.str "~")) (tCons (tC (.str "}")) tNil))) σ H (.tuple ([("~" : Str), "}"].map .str)) := e_tup (a_cons e_str (a_cons e_str a_nil)) (by decide)
    have e2 : ∀ {σ : L2.St} {H : Hp}, EvD K (tTup (tCons (tC (.str "}")) tNil)) σ H (.tuple ([("}" : Str)].map .str)) := e_tup (a_cons e_str a_nil) (by decide)
    have hc0 := hm c0 List.mem_cons_self
    have R0 : RCells n [.int dep, .none, .tuple ([("~" : Str), "}"].map .str)] ws (i + 1 + 1) (i + 1 + 1 + (cellW c0.rows).length) c0.f.d := by
      refine ⟨c0.rows, dep, .none, ["~", "}"], rfl, by decide +kernel, by decide, by omega, by omega, hrow c0 List.mem_cons_self, .inl rfl, ⟨y0, ?_, hy1, cellAt w3 hy0⟩, rfl, ?_⟩
      · rcases hy2 with ⟨rfl, _⟩ | rfl <;> decide +kernel
      · show PyData.tuple c0.f.ds = _
        rw [CCells.ds_eq]
    refine g_setLst (ra_cons (r_call (R := RCells n) rfl (by decide +kernel) (by decide +kernel) (ra_pure fun H3 k3 => a_cons (e_var rfl (.int dep)) (a_cons e_non (a_cons e1 a_nil))) R0) ra_nil) a2 (Nat.le_of_ble_eq_true rfl) fun vs H3 q k3 a3 l3 nq => ?_
    have kb3 := (k1.trans k2).trans k3
    have nq0 : H q = none := by
      cases e : H q with
      | none => rfl
      | some o =>
        by_cases z : q = p
        · subst z
          obtain ⟨dx, hp⟩ := a3.ob
          rw [hp] at nq
          cases nq
        · rw [kb3 _ _ e z] at nq
          cases nq
    have ne1 : q ≠ p := fun e => by
      obtain ⟨dx, hp⟩ := a3.ob
      rw [e, hp] at nq
      cases nq
    have ne2 : q ≠ tl := fun e => by
      obtain ⟨xs, hp, _⟩ := a3.tk
      rw [e, hp] at nq
      cases nq
    refine ⟨fun m' σ H' => ∃ (done rest : List CCells) (xs : List V) (x3 : Option V) (i' : Nat), m' = rest.length ∧ g0.lines = done ++ rest ∧ σ = [some (.ref p), some (.int dep), some (.ref q), x3] ∧ KeepB p H H' ∧ RdAt K C p tl ws i' H' ∧ At ws i' (lineW rest ++ [("}" : Str)]) ∧ i' + (lineW rest).length = i + 1 + 1 + (cellW c0.rows).length + (lineW g0.lines).length ∧ H' q = some (.lst xs) ∧ TpL K H' xs ((c0 :: done).map fun z => z.f.d),
      ⟨_, [], g0.lines, _, none, _, rfl, rfl, rfl, kb3.trans (.of (same_new nq)), a3.same (same_new nq), w4, rfl, upd_same, l3.stay (.of (same_new nq))⟩, ?_⟩
    rintro m' σ H' ⟨done, rest, xs, x3, i', rfl, er, rfl, kb, a4, w5, hl, eq, lx⟩
    have ll : done.length + rest.length = g0.lines.length := by rw [er, List.length_append]
    have l7 : g0.lines.length + 1 ≤ 6 := l6
    have pk : ∀ {y : Str} {H : Hp} {b : Bool}, ws[i']? = some y → b = decide (y = "~") → EvRT K C p tl ws (tTest (tOp rEq (tMeth C "_peek" (spRd K C RPeek) [] E0 (tVar 0) tNil) (tC (.str "~")))) [some (.ref p), some (.int dep), some (.ref q), x3] H i' b := fun hy e =>
      e ▸ rt_eq (r_call rfl (by decide +kernel) (by decide +kernel) ra_nil ⟨rfl, rfl, _, hy, rfl⟩) r_eqS
    cases rest with
    | nil =>
      have gx : ws[i']? = some "}" := (at_cons.mp w5).1
      refine pk (b := false) gx (by decide +kernel) H' (.refl _ _) a4 _ fun H5 k5 a5 => ?_
      refine iteN (by decide) ?_
      refine g_drop (r_call rfl (by decide +kernel) (by decide +kernel) (ra_pure fun _ _ => a_cons e_str a_nil) (⟨"}", rfl, rfl, gx, rfl⟩ : RAcc [.str "}"] ws i' (i' + 1) .none)) a5 fun H6 k6 a6 => ?_
      have eq6 := k6 _ _ (k5 _ _ eq ne1) ne1
      rw [List.append_nil] at er
      refine ⟨_, rfl, q, xs, rfl, .inl ⟨SqL.of eq6, fun c hc => ?_⟩⟩
      refine ⟨(by show 2 ≤ sizeLine; decide), fun c2 hc2 => ?_⟩
      have s1 := same_new (H := H6) (o := .tup xs) hc
      have s2 := same_new (H := upd H6 c (.tup xs)) (o := .tup [.str "grid", .ref c]) hc2
      refine k _ _ ((((kb.trans k5).trans k6).trans (.of s1)).trans (.of s2)) ?_ ?_
      · rw [show i + (("@grid" : Str) :: ("{" : Str) :: (cellW c0.rows ++ (lineW g0.lines ++ [("}" : Str)]))).length = i' + 1 by
          rw [List.length_cons, List.length_cons, List.length_append, List.length_append, List.length_singleton]
          rw [show (lineW []).length = 0 from rfl] at hl
          omega]
        exact (a6.same s1).same s2
      · have lx6 := (lx.stay (a4.tup k5)).stay (a5.tup k6)
        refine .mk (ds := [.str "grid", .tuple (CGrid.cons c0 g0).f.ds]) (SqT.of upd_same) (.cons (.str _) (.one ?_))
        rw [CGrid.ds_eq, show (CGrid.cons c0 g0).lines = c0 :: g0.lines from rfl, er]
        exact (Tp.mk (SqT.of upd_same) (lx6.stay (.of s1))).stay (.of s2)
    | cons c rest =>
      have w5 : At ws i' (("~" : Str) :: ((cellW c.rows ++ lineW rest) ++ [("}" : Str)])) := w5
      obtain ⟨gx, w6⟩ := at_cons.mp w5
      rw [List.append_assoc] at w6
      obtain ⟨w6, w7⟩ := at_app.mp w6
      obtain ⟨y, hy, hya, hyb⟩ := nextW _ _ w7
      have mc : c ∈ g0.lines := by rw [er]; simp
      have hc := hm0 c mc
      refine pk (b := true) gx rfl H' (.refl _ _) a4 _ fun H5 k5 a5 => ?_
      refine iteP rfl ⟨_, fun σ' H'' h => h, ?_⟩
      refine g_drop (r_call rfl (by decide +kernel) (by decide +kernel) (ra_pure fun _ _ => a_cons e_str a_nil) (⟨"~", rfl, rfl, gx, rfl⟩ : RAcc [.str "~"] ws i' (i' + 1) .none)) a5 fun H6 k6 a6 => ?_
      have eq6 := k6 _ _ (k5 _ _ eq ne1) ne1
      have lx6 := (lx.stay (a4.tup k5)).stay (a5.tup k6)
      obtain ⟨ends, hends⟩ : ∃ ends : List Str, ends = if (done.length : Int) + 1 + 1 < 6 then [("~" : Str), "}"] else [("}" : Str)] := ⟨_, rfl⟩
      rw [List.length_cons] at ll
      refine q_set (K := K) (d := .tuple (ends.map .str)) (e_if (b := decide ((done.length : Int) + 1 + 1 < 6)) (t_test (e_op (e_op (e_lenV (m := done.length + 1) (fun p ys H Q h k => ⟨p, ys, rfl, h, fun _ => k⟩) rfl eq6 (by rw [lx6.len, List.length_map, List.length_cons])) e_int r_I0i) e_int r_I0b)) (fun z => ?_) fun z => ?_) fun v3 H7 s7 t7 => ?_
      · rw [hends, if_pos (of_decide_eq_true z)]
        exact e1
      · rw [hends, if_neg (of_decide_eq_false z)]
        exact e2
      have a7 := a6.same s7
      have eq7 := s7 _ _ eq6
      have lx7 := lx6.stay (.of s7)
      have R1 : RCells n [.int dep, .int ((c.rows.length : Nat) : Int), .tuple (ends.map .str)] ws (i' + 1) (i' + 1 + (cellW c.rows).length) c.f.d := by
        refine ⟨c.rows, dep, _, ends, rfl, ?_, ?_, by omega, by omega, hrow c (List.mem_cons_of_mem _ mc), .inr rfl, ⟨y, ?_, hya, cellAt w6 hy⟩, rfl, ?_⟩
        · rw [hends]
          split <;> decide +kernel
        · rw [hends]
          split <;> decide
        · rw [hends]
          rcases hyb with ⟨rfl, hr2⟩ | rfl
          · have : 1 ≤ rest.length := by
              cases rest with
              | nil => exact absurd rfl hr2
              | cons _ _ => simp
            rw [if_pos (by omega)]
            decide +kernel
          · split <;> decide +kernel
        · show PyData.tuple c.f.ds = _
          rw [CCells.ds_eq]
      have hix : EvD K (tOp (rIxL K) (tVar 2) (tC (.int 0))) [some (.ref p), some (.int dep), some (.ref q), some v3] H7 (.tuple (c0.f.ds)) := e_ixL rfl eq7 lx7 e_int atI0
      refine g_app (n := 2) rfl eq7 lx7 ne1 ne2 (r_call (R := RCells n) (k := i' + 1) (j := i' + 1 + (cellW c.rows).length) (d := c.f.d) rfl (by decide +kernel) (by decide +kernel) (ra_pure fun H8 k8 => a_cons (e_var rfl (.int dep)) (a_cons (e_is (e_lenT (fun p ys H Q h k => ⟨p, ys, rfl, h, fun _ => k⟩) (e_ixL rfl (k8 _ _ eq7 ne1) (lx7.stay (a7.tup k8)) e_int atI0)) (by rw [CCells.ds_eq, List.length_map, hc0, hc])) (a_cons (e_var rfl (t7.stay (a7.tup k8))) a_nil))) R1) a7 (by rw [List.length_map, List.length_cons]; omega) fun v H9 k9 a9 l9 => ?_
      refine ⟨rest.length, Nat.lt_succ_self _, done ++ [c], rest, _, _, _, rfl, by rw [er, List.append_assoc]; rfl, rfl, keepB_new ((((kb.trans k5).trans k6).trans (.of s7)).trans k9) nq0, a9, w7, ?_, upd_same, ?_⟩
      · rw [← hl, show lineW (c :: rest) = ("~" : Str) :: (cellW c.rows ++ lineW rest) from rfl, List.length_cons, List.length_append]
        omega
      · rw [← List.cons_append, List.map_append]
        exact l9
end
end Mg

set_option Elab.async false
set_option linter.all false
set_option maxRecDepth 100000
set_option maxHeartbeats 1000000
namespace Mg
open PySem L2 StX
section
variable {P : Program} {w : World} {K : PySem.W.Frag} {mg : Str → Option Value} {base : Heap} {C : Addr}
/-! __init__, read -/
theorem scRInit : FnScope ["self", "text"] ["self", "text"] (defScope sRInit) := ⟨rfl, rfl, rfl, by decide +kernel, rfl, by decide +kernel, by decide +kernel⟩
def spRInit (K : PySem.W.Frag) (C : Addr) : Sp := fun vs H Q _ => ∃ (p dx : Addr) (t : Str), vs = [.ref p, .str t] ∧ H p = some (.ins C dx []) ∧ t.length ≤ 1000 ∧ ∀ tl H', KeepB p H H' → RdAt K C p tl ((toksAt t.cps.toList 0).map Prod.snd) 0 H' → Q .non H'
theorem toks_len (l : List Nat) (n : Nat) (h : n ≤ l.length) : (toksAt l n).length ≤ l.length - n + 1 := by
  rw [toksAt.eq_1]
  by_cases c : n < l.length
  · rw [dif_pos c]
    split
    · have := toks_len l (n + 1) c
      omega
    · split
      · simp
      · rename_i hb
        obtain ⟨w1, w2⟩ := tokAt_len c hb
        have := toks_len l (n + max 1 (tokAt l n).length) (by omega)
        rw [List.length_cons]
        omega
  · rw [dif_neg c]
    simp
termination_by l.length - n
theorem ok_rinit {f : Addr} {fd : FuncData} (F : Fun K "__init__" "Reader.__init__" sRInit f fd) (T : TxtRd K mg C) (C_tokens_of : Cal P w K mg base CX0 4 "tokens_of" ["text"] (spTokensOf K)) : FnOk P w K mg base CX0 5 f fd ["self", "text"] (spRInit K C) := by
  have sc := scRInit
  refine F.ok scRInit (fun vs H Q E h => ?_) (fun cdv A outer s H vs Q E hr h => ?_)
  · obtain ⟨p, dx, t, rfl, _⟩ := h
    rfl
  · obtain ⟨p, dx, t, rfl, hp, ht, k⟩ := h
    refine ⟨_, (pss_cons (ps_fld (pv 0) (pe_cal C_tokens_of (hr.mono (by omega)) rfl pass0 (pa_cons (pv 1) pa_nil)) rfl)
  (pss_one (ps_fld (pv 0) pe_int rfl))), ?_⟩
    refine ⟨_, rfl, t, rfl, ht, fun tl xs H1 n1 s1 e1 tk => ?_⟩
    have hp1 := s1 _ _ hp
    have np : tl ≠ p := fun e => by
      rw [e, hp] at n1
      cases n1
    refine ⟨_, rfl, p, C, dx, _, rfl, hp1, T.cl, T.nT, by decide, ?_⟩
    refine ⟨_, rfl, p, C, dx, _, rfl, upd_same, T.cl, T.nA, (by show 1 < 1000; decide), ?_⟩
    have e0 : putF "_at" (.int 0) (putF "_tokens" (.ref tl) []) = rf tl 0 := rf_new tl 0
    rw [e0]
    have kb : KeepB p H (upd (upd H1 p (.ins C dx (putF "_tokens" (.ref tl) []))) p (.ins C dx (rf tl 0))) := ((KeepB.of s1).trans keep_upd).trans keep_upd
    have tup : TupK H1 (upd (upd H1 p (.ins C dx (putF "_tokens" (.ref tl) []))) p (.ins C dx (rf tl 0))) := fun b ys h => by
      have n : ∀ o, H1 b = some o → (∀ D x f, o ≠ .ins D x f) → b ≠ p := fun o e z q => by
        rw [q, hp1] at e
        exact z _ _ _ (Option.some.inj e).symm
      rcases h with h | ⟨o, h⟩
      · have nb := n _ h fun _ _ _ z => nomatch z
        exact .inl (by rw [upd_ne nb, upd_ne nb]; exact h)
      · have nb := n _ h fun _ _ _ z => nomatch z
        exact .inr ⟨o, by rw [upd_ne nb, upd_ne nb]; exact h⟩
    refine k tl _ kb ⟨⟨dx, upd_same⟩, ⟨xs, ?_, ?_, fun j v x h1 h2 => ?_⟩, ?_⟩
    · rw [upd_ne np, upd_ne np]
      exact e1
    · rw [tk.1, List.length_map]
    · obtain ⟨y, hy, rfl⟩ := get_map h2
      obtain ⟨b, rfl, sq⟩ := tk.2 j v y h1 hy
      exact ⟨b, _, rfl, tup.seq sq⟩
    · rw [List.length_map]
      have := toks_len t.cps.toList 0 (Nat.zero_le _)
      have e : t.length = t.cps.toList.length := rfl
      omega
theorem scRRead : FnScope ["self"] ["self"] (defScope sRRead) := ⟨rfl, rfl, rfl, by decide +kernel, rfl, by decide +kernel, by decide +kernel⟩
def RRead (n : Nat) : RR := fun ds ws i j d => ∃ (r : CRow), ds = [] ∧ i = 0 ∧ r.ok ∧ r.h < n ∧ r.h ≤ 7 ∧ At ws 0 (r.ws ++ [("end" : Str)]) ∧ j = r.ws.length ∧ d = r.f.d
theorem ok_rread {n : Nat} {f : Addr} {fd : FuncData} (F : Fun K "read" "Reader.read" sRRead f fd) (T : TxtRd K mg C) (C_row : CalM P w K mg base CX0 (6 * n + 4) C "_row" ["self", "depth", "stops"] (spRd K C (RRow n))) : FnOk P w K mg base CX0 (6 * n + 5) f fd ["self"] (spRd K C (RRead n)) := by
  have sc := scRRead
  refine F.ok scRRead (fun vs H Q E h => ?_) (fun cdv A outer s H vs Q E hr h => ?_)
  · obtain ⟨p, tl, ws, i, j, us, ds, d, rfl, l, a, ⟨r, rfl, _⟩, _⟩ := h
    cases l
    rfl
  · obtain ⟨p, tl, ws, i, j, us, ds, d, rfl, l, a, ⟨r, rfl, rfl, ok, hn, h7, hw, rfl, rfl⟩, k⟩ := h
    cases l
    refine ⟨_, (pss_one (ps_ret (pe_calm (pv 0) T.cl C_row (hr.mono (by omega)) pass0 (pa_cons pe_int (pa_cons (pe_tup (pa_cons (pe_gstr rfl T.c_END) pa_nil)) pa_nil))))), ?_⟩
    refine g_ret (r_call rfl (by decide +kernel) (by decide +kernel) (ra_pure fun _ _ => a_cons e_int (a_cons (e_tup (ds := [.str "end"]) (a_cons e_str a_nil) (by decide)) a_nil)) (⟨r, 0, ["end"], rfl, by decide +kernel, ok, hn, by omega, ⟨"end", by decide +kernel, hw⟩, (Nat.zero_add _).symm, rfl⟩ : RRow n _ ws 0 r.ws.length r.f.d)) a k
/-! all of them, by how deep rows lie in rows -/
structure ReadOk (P : Program) (w : World) (K : PySem.W.Frag) (mg : Str → Option Value) (base : Heap) (C : Addr) (n : Nat) : Prop where
  row : CalM P w K mg base CX0 (6 * n + 4) C "_row" ["self", "depth", "stops"] (spRd K C (RRow n))
def MC (K : PySem.W.Frag) (C : Addr) (m : Str) (f : Addr) (fd : FuncData) (ps : List Str) : Prop := Meth K C m f ∧ Binds K fd ps []
theorem read_ok {f1 f2 f3 f4 f5 f6 f7 f8 : Addr} {d1 d2 d3 d4 d5 d6 d7 d8 : FuncData} (T : TxtRd K mg C) (C_peek : CalM P w K mg base CX0 1 C "_peek" ["self"] (spRd K C RPeek)) (C_accept : CalM P w K mg base CX0 1 C "_accept" ["self", "wanted"] (spRd K C RAcc)) (C_symbol : CalM P w K mg base CX0 3 C "_symbol" ["self"] (spRd K C RSym)) (C_delimiter : CalM P w K mg base CX0 4 C "_delimiter" ["self"] (spRd K C RDelim))
    (C_check_depth : Cal P w K mg base CX0 1 "check_depth" ["depth"] spCheckDepth0) (C_cell_stops : Cal P w K mg base CX0 1 "cell_stops" ["count", "many", "ends"] (spR K RStops))
    (F1 : Fun K "_row" "Reader._row" sRRow f1 d1) (F2 : Fun K "_item" "Reader._item" sRItem f2 d2) (F3 : Fun K "_nucleus" "Reader._nucleus" sRNucleus f3 d3) (F4 : Fun K "_braced" "Reader._braced" sRBraced f4 d4) (F5 : Fun K "_argument" "Reader._argument" sArgument f5 d5) (F6 : Fun K "_fence" "Reader._fence" sRFence f6 d6) (F7 : Fun K "_grid" "Reader._grid" sRGrid f7 d7) (F8 : Fun K "_cells" "Reader._cells" sRCells f8 d8)
    (c1 : MC K C "_row" f1 d1 ["self", "depth", "stops"]) (c2 : MC K C "_item" f2 d2 ["self", "depth"]) (c3 : MC K C "_nucleus" f3 d3 ["self", "depth"]) (c4 : MC K C "_braced" f4 d4 ["self", "depth"]) (c5 : MC K C "_argument" f5 d5 ["self", "depth"]) (c6 : MC K C "_fence" f6 d6 ["self", "depth"]) (c7 : MC K C "_grid" f7 d7 ["self", "depth"]) (c8 : MC K C "_cells" f8 d8 ["self", "depth", "many", "ends"]) :
    ∀ n, CalM P w K mg base CX0 (6 * n + 4) C "_row" ["self", "depth", "stops"] (spRd K C (RRow n))
  | 0 => ⟨f1, d1, FnOk.vac fun vs H Q E ⟨_, _, _, _, _, _, _, _, _, _, _, ⟨_, _, _, _, _, _, h, _⟩, _⟩ => Nat.not_lt_zero _ h, c1.1, c1.2⟩
  | n + 1 => by
    have row := read_ok T C_peek C_accept C_symbol C_delimiter C_check_depth C_cell_stops F1 F2 F3 F4 F5 F6 F7 F8 c1 c2 c3 c4 c5 c6 c7 c8 n
    have braced : CalM P w K mg base CX0 (6 * n + 5) C "_braced" ["self", "depth"] (spRd K C (RBraced n)) := ⟨f4, d4, ok_rbraced F4 T C_accept row, c4.1, c4.2⟩
    have arg : CalM P w K mg base CX0 (6 * n + 6) C "_argument" ["self", "depth"] (spRd K C (RArg n)) := ⟨f5, d5, ok_argument F5 T C_peek C_symbol C_check_depth braced, c5.1, c5.2⟩
    have fence : CalM P w K mg base CX0 (6 * n + 5) C "_fence" ["self", "depth"] (spRd K C (RFence n)) := ⟨f6, d6, ok_rfence F6 T C_accept C_delimiter row, c6.1, c6.2⟩
    have cells : CalM P w K mg base CX0 (6 * n + 5) C "_cells" ["self", "depth", "many", "ends"] (spRd K C (RCells n)) := ⟨f8, d8, ok_rcells F8 T C_peek C_accept C_cell_stops row, c8.1, c8.2⟩
    have grid : CalM P w K mg base CX0 (6 * n + 6) C "_grid" ["self", "depth"] (spRd K C (RGrid n)) := ⟨f7, d7, ok_rgrid F7 T C_peek C_accept cells, c7.1, c7.2⟩
    have nuc : CalM P w K mg base CX0 (6 * n + 7) C "_nucleus" ["self", "depth"] (spRd K C (RNuc n)) := ⟨f3, d3, ok_rnucleus F3 T C_peek C_accept C_symbol braced arg fence grid, c3.1, c3.2⟩
    have item : CalM P w K mg base CX0 (6 * n + 8) C "_item" ["self", "depth"] (spRd K C (RItem n)) := ⟨f2, d2, ok_ritem F2 T C_peek C_accept arg nuc, c2.1, c2.2⟩
    exact ⟨f1, d1, ok_rrow F1 T C_peek C_check_depth item, c1.1, c1.2⟩
end
end Mg

set_option Elab.async false
set_option linter.all false
set_option maxRecDepth 100000
set_option maxHeartbeats 1000000
namespace Mg
open PySem L2
/-! texts made of words, with spaces behind them: their tokens -/
def txt : List (Str × Nat) → List Nat
  | [] => []
  | (w, k) :: r => w.cps.toList ++ (List.replicate k 32 ++ txt r)
def Tw (w : Str) : Prop := (∃ c, w.cps.toList = [c] ∧ c ≠ 64 ∧ (c ∈ cSIGNS.cps.toList ∨ c ∈ cMARKS.cps.toList)) ∨ isCommand w = true
def TOk : List (Str × Nat) → Prop
  | [] => True
  | (w, k) :: r => Tw w ∧ (∀ w' k' r', r = (w', k') :: r' → isCommand w = true → headLet w' = true → 1 ≤ k) ∧ TOk r
theorem cmd_cps {w : Str} (h : isCommand w = true) : ∃ L, w.cps.toList = 64 :: L ∧ 1 ≤ L.length ∧ L.length ≤ 8 ∧ ∀ c ∈ L, c ∈ lets := by
  unfold isCommand at h
  simp only [Bool.and_eq_true, decide_eq_true_eq, List.all_eq_true] at h
  obtain ⟨⟨h1, h2, h3⟩, h4⟩ := h
  cases e : w.cps.toList with
  | nil =>
    rw [e] at h2
    simp at h2
  | cons c L =>
    rw [e] at h1 h2 h3 h4
    have h1 := eq_of_beq h1
    have h5 : [c] = [64] := congrArg (fun s : Str => s.cps.toList) h1
    cases h5
    exact ⟨L, rfl, h2, h3, h4⟩
theorem cmd_first {w : Str} (h : isCommand w = true) : ∃ L, w.cps.toList = 64 :: L := by
  obtain ⟨L, e, _⟩ := cmd_cps h
  exact ⟨L, e⟩
theorem run_app : ∀ {L rest : List Nat}, (∀ c ∈ L, c ∈ lets) → (∀ c, rest[0]? = some c → c ∉ lets) → runL (L ++ rest) = L.length
  | [], [], _, _ => rfl
  | [], c :: r, _, h => by
    show runL (c :: r) = 0
    unfold runL
    rw [if_neg (h c rfl)]
  | c :: L, rest, h1, h2 => by
    show runL (c :: (L ++ rest)) = L.length + 1
    unfold runL
    rw [if_pos (h1 c List.mem_cons_self), run_app (fun d hd => h1 d (List.mem_cons_of_mem _ hd)) h2]
theorem tw_pos {w : Str} (h : Tw w) : 1 ≤ w.cps.toList.length := by
  rcases h with ⟨c, e, _⟩ | h
  · rw [e]
    exact Nat.le_refl _
  · obtain ⟨L, e, _⟩ := cmd_cps h
    rw [e, List.length_cons]
    omega
theorem tw_bad {w : Str} (h : Tw w) : w ≠ "bad" := fun z => by
  subst z
  rcases h with ⟨c, e, _⟩ | h
  · have := congrArg List.length e
    have e3 : (("bad" : Str).cps.toList).length = 3 := by decide +kernel
    rw [e3] at this
    cases this
  · exact absurd h (by decide +kernel)
theorem at64 : (⟨#[64]⟩ : Str) = "@" := by decide +kernel
theorem at_ne {c : Nat} (h : c ≠ 64) : (⟨#[c]⟩ : Str) ≠ "@" := fun z => by
  have := congrArg (fun s : Str => s.cps.toList) z
  have e : [c] = [64] := this
  cases e
  exact h rfl
theorem tw_space {w : Str} {c : Nat} {L : List Nat} (h : Tw w) (e : w.cps.toList = c :: L) : c ≠ 32 := by
  rcases h with ⟨d, e2, _, h⟩ | h
  · rw [e2] at e
    cases e
    intro z
    subst z
    revert h
    decide +kernel
  · obtain ⟨M, e2⟩ := cmd_first h
    rw [e2] at e
    cases e
    decide
theorem str_of_cps {w : Str} {l : List Nat} (h : w.cps.toList = l) : w = ⟨l.toArray⟩ := by
  subst h
  rfl
theorem tok_word {l : List Nat} {n : Nat} {w : Str} {rest : List Nat} (h : Tw w) (hd : l.drop n = w.cps.toList ++ rest) (hr : isCommand w = true → ∀ c, rest[0]? = some c → c ∉ lets) : tokAt l n = w := by
  have g : ∀ c L, w.cps.toList = c :: L → l[n]? = some c := fun c L e => by
    have : (l.drop n)[0]? = some c := by rw [hd, e]; rfl
    rwa [List.getElem?_drop, Nat.add_zero] at this
  rcases h with ⟨c, e, c64, hc⟩ | h
  · unfold tokAt
    rw [g c [] e]
    show (if (⟨#[c]⟩ : Str) = "@" then cmdAt l n else if c ∈ cSIGNS.cps.toList ∨ c ∈ cMARKS.cps.toList then ⟨#[c]⟩ else "bad") = w
    rw [if_neg (at_ne c64), if_pos hc]
    exact (str_of_cps e).symm
  · obtain ⟨L, e, _, _, hL⟩ := cmd_cps h
    unfold tokAt
    rw [g 64 L e]
    show (if (⟨#[64]⟩ : Str) = "@" then cmdAt l n else _) = w
    rw [if_pos at64]
    have hd1 : l.drop (n + 1) = L ++ rest := by
      rw [← List.drop_drop, hd, e]
      rfl
    have ew : cmdW l n = w := by
      unfold cmdW
      rw [hd1, run_app hL (hr h), hd, e]
      have : (64 :: L ++ rest).take (1 + L.length) = 64 :: L := by
        rw [Nat.add_comm, List.cons_append, List.take_succ_cons, List.take_left]
      rw [this]
      exact (str_of_cps e).symm
    unfold cmdAt
    rw [ew, if_pos h]
theorem toks_spaces {l : List Nat} {t : List Nat} : ∀ (k n : Nat), l.drop n = List.replicate k 32 ++ t → toksAt l n = toksAt l (n + k)
  | 0, n, _ => rfl
  | k + 1, n, h => by
    have hn : n < l.length := by
      apply Nat.lt_of_not_le
      intro z
      rw [List.drop_eq_nil_of_le z] at h
      cases h
    have h2 : l[n]? = some 32 := by
      have : (l.drop n)[0]? = some 32 := by rw [h]; rfl
      rwa [List.getElem?_drop, Nat.add_zero] at this
    have h3 : l[n] = 32 := (List.getElem?_eq_some_iff.mp h2).2
    have h4 : l.drop (n + 1) = List.replicate k 32 ++ t := by
      rw [← List.drop_drop, h]
      rfl
    rw [toksAt.eq_1, dif_pos hn, if_pos (by rw [h3]; decide +kernel), toks_spaces k (n + 1) h4, show n + 1 + k = n + (k + 1) by omega]
theorem headLet_of {w : Str} {c : Nat} {L : List Nat} (e : w.cps.toList = c :: L) : headLet w = decide (c ∈ lets) := by
  unfold headLet
  rw [e]
  rfl
theorem toks_txt {l : List Nat} : ∀ {ws : List (Str × Nat)} {n : Nat}, TOk ws → l.drop n = txt ws → (toksAt l n).map Prod.snd = ws.map Prod.fst ++ [("end" : Str)]
  | [], n, _, h => by
    have hn : ¬ n < l.length := fun z => by
      have := congrArg List.length h
      rw [List.length_drop] at this
      have e : (txt []).length = 0 := rfl
      omega
    rw [toksAt.eq_1, dif_neg hn]
    rfl
  | (w, k) :: r, n, ⟨tw, hs, tr⟩, h => by
    have hp := tw_pos tw
    have hd : l.drop n = w.cps.toList ++ (List.replicate k 32 ++ txt r) := h
    have hn : n < l.length := by
      apply Nat.lt_of_not_le
      intro z
      rw [List.drop_eq_nil_of_le z] at hd
      have := congrArg List.length hd
      rw [List.length_append] at this
      rw [List.length_nil] at this
      omega
    obtain ⟨c, L, e⟩ : ∃ c L, w.cps.toList = c :: L := by
      cases e : w.cps.toList with
      | nil => rw [e] at hp; cases hp
      | cons c L => exact ⟨c, L, rfl⟩
    have h2 : l[n]? = some c := by
      have : (l.drop n)[0]? = some c := by rw [hd, e]; rfl
      rwa [List.getElem?_drop, Nat.add_zero] at this
    have h3 : l[n] = c := (List.getElem?_eq_some_iff.mp h2).2
    have tk : tokAt l n = w := tok_word tw hd fun hc d hd2 => by
      cases k with
      | succ k =>
        have : d = 32 := by
          have e : (List.replicate (k + 1) 32 ++ txt r)[0]? = some 32 := rfl
          rw [e] at hd2
          exact (Option.some.inj hd2).symm
        subst this
        decide +kernel
      | zero =>
        cases r with
        | nil => cases hd2
        | cons q r' =>
          obtain ⟨w', k'⟩ := q
          have tw' : Tw w' := tr.1
          obtain ⟨c', L', e'⟩ : ∃ c L, w'.cps.toList = c :: L := by
            have hp' := tw_pos tw'
            cases e : w'.cps.toList with
            | nil => rw [e] at hp'; cases hp'
            | cons c L => exact ⟨c, L, rfl⟩
          have : d = c' := by
            have e2 : (List.replicate 0 32 ++ txt ((w', k') :: r'))[0]? = some c' := by
              show (w'.cps.toList ++ _)[0]? = _
              rw [e']
              rfl
            rw [e2] at hd2
            exact (Option.some.inj hd2).symm
          subst this
          intro hl
          have := hs w' k' r' rfl hc (by rw [headLet_of e']; exact decide_eq_true hl)
          omega
    have ne : (⟨#[l[n]]⟩ : Str) ≠ " " := fun z => by
      rw [h3] at z
      have := congrArg (fun s : Str => s.cps.toList) z
      have e5 : [c] = [32] := this
      cases e5
      exact tw_space tw e rfl
    have el : w.length = w.cps.toList.length := rfl
    rw [toksAt.eq_1, dif_pos hn, if_neg ne, tk, if_neg (tw_bad tw), List.map_cons, Nat.max_eq_right (by rw [el]; exact hp)]
    have hd2 : l.drop (n + w.length) = List.replicate k 32 ++ txt r := by
      rw [← List.drop_drop, hd, el, List.drop_left]
    rw [toks_spaces k _ hd2, toks_txt (n := n + w.length + k) tr (by rw [← List.drop_drop, hd2]; exact List.drop_left' (List.length_replicate))]
    rfl
/-! which words are tokens -/
theorem sy_tw {x : Str} (h : Sy x) : Tw x := by
  have h := h.2
  unfold isSymbol at h
  split at h
  · rename_i hl
    cases e : x.cps.toList with
    | nil => rw [e] at hl; cases hl
    | cons c L =>
      rw [e] at hl h
      cases L with
      | cons _ _ => simp at hl
      | nil =>
        have hc : c ∈ cSIGNS.cps.toList := by simpa using h
        exact .inl ⟨c, e, fun z => absurd (z ▸ hc) (by decide +kernel), .inl hc⟩
  · rw [Bool.and_eq_true] at h
    exact .inr h.1
def marks : List Str := ["{", "}", "_", "^", "&", "~", "@frac", "@root", "@left", "@right", "@grid"]
theorem mark_tw {x : Str} (h : x ∈ marks) : Tw x := by
  have h1 : ∀ x ∈ (["{", "}", "_", "^", "&", "~"] : List Str), x.cps.toList.length = 1 ∧ ∀ c ∈ x.cps.toList, c ≠ 64 ∧ c ∈ cMARKS.cps.toList := by decide +kernel
  have h2 : ∀ x ∈ (["@frac", "@root", "@left", "@right", "@grid"] : List Str), isCommand x = true := by decide +kernel
  have h3 : x ∈ (["{", "}", "_", "^", "&", "~"] : List Str) ∨ x ∈ (["@frac", "@root", "@left", "@right", "@grid"] : List Str) := by
    have e : marks = (["{", "}", "_", "^", "&", "~"] : List Str) ++ (["@frac", "@root", "@left", "@right", "@grid"] : List Str) := rfl
    rw [e] at h
    exact List.mem_append.mp h
  rcases h3 with h | h
  · obtain ⟨a, b⟩ := h1 x h
    cases e : x.cps.toList with
    | nil => rw [e] at a; cases a
    | cons c L =>
      cases L with
      | cons _ _ => rw [e] at a; simp at a
      | nil => exact .inl ⟨c, e, (b c (by rw [e]; simp)).1, .inr (b c (by rw [e]; simp)).2⟩
  · exact .inr (h2 x h)
end Mg

set_option Elab.async false
set_option linter.all false
set_option maxRecDepth 100000
set_option maxHeartbeats 1000000
namespace Mg
open PySem L2
theorem flat_congr {α β : Type} {f g : α → List β} : ∀ {l : List α}, (∀ a ∈ l, f a = g a) → l.flatMap f = l.flatMap g
  | [], _ => rfl
  | a :: l, h => by rw [List.flatMap_cons, List.flatMap_cons, h a List.mem_cons_self, flat_congr fun b hb => h b (List.mem_cons_of_mem _ hb)]
theorem if_ne {α β : Type} {b : Bool} {x : α} {l : List α} {u v : β} : (if b = true ∧ x :: l ≠ [] then u else v) = if b = true then u else v := by simp
/-! the normal text as words with spaces -/
def spW : List Str → List (Str × Nat)
  | [] => []
  | [w] => [(w, 0)]
  | w :: w' :: r => (w, if (headLet w' && Txt.startswith w "@") = true then 1 else 0) :: spW (w' :: r)
theorem spW_fst : ∀ ws : List Str, (spW ws).map Prod.fst = ws
  | [] => rfl
  | [w] => rfl
  | w :: w' :: r => by rw [spW, List.map_cons, spW_fst (w' :: r)]
theorem join_cps : ∀ l : List Str, (Str.join "" l).cps.toList = l.flatMap fun x => x.cps.toList
  | [] => rfl
  | [x] => by simp [Str.join]
  | x :: y :: r => by
    show (x ++ ("" : Str) ++ Str.join "" (y :: r)).cps.toList = _
    rw [List.flatMap_cons, ← join_cps (y :: r)]
    show ((x.cps ++ (#[] : Array Nat)) ++ (Str.join "" (y :: r)).cps).toList = _
    simp
def spP (prev : Option Str) (ws : List Str) : Nat → Bool
  | 0 => match prev with
    | none => false
    | some p => headLet (ws.getD 0 "") && Txt.startswith p "@"
  | k + 1 => headLet (ws.getD (k + 1) "") && Txt.startswith (ws.getD k "") "@"
def gU (prev : Option Str) (ws : List Str) : List Nat := (List.range ws.length).flatMap fun k => (if spP prev ws k = true then [32] else []) ++ (ws.getD k "").cps.toList
theorem gU_cons (prev : Option Str) (w : Str) (r : List Str) : gU prev (w :: r) = (if spP prev (w :: r) 0 = true then [32] else []) ++ w.cps.toList ++ gU (some w) r := by
  unfold gU
  rw [List.length_cons, List.range_succ_eq_map, List.flatMap_cons, List.flatMap_map]
  congr 1
  refine flat_congr fun k _ => ?_
  cases k <;> rfl
theorem gU_txt : ∀ (p : Str) (ws : List Str), gU (some p) ws = (if spP (some p) ws 0 = true ∧ ws ≠ [] then [32] else []) ++ txt (spW ws)
  | p, [] => by
    rw [if_neg (fun z => z.2 rfl)]
    rfl
  | p, [w] => by
    rw [gU_cons]
    by_cases c : spP (some p) [w] 0 = true
    · rw [if_pos c, if_pos ⟨c, by simp⟩]
      simp [gU, spW, txt]
    · rw [if_neg c, if_neg (fun z => c z.1)]
      simp [gU, spW, txt]
  | p, w :: w' :: r => by
    rw [gU_cons, gU_txt w (w' :: r)]
    have e : txt (spW (w :: w' :: r)) = w.cps.toList ++ ((if spP (some w) (w' :: r) 0 = true ∧ w' :: r ≠ [] then [32] else []) ++ txt (spW (w' :: r))) := by
      rw [spW, txt]
      congr 2
      have e2 : spP (some w) (w' :: r) 0 = (headLet w' && Txt.startswith w "@") := rfl
      rw [e2]
      by_cases c : (headLet w' && Txt.startswith w "@") = true
      · rw [if_pos c, if_pos ⟨c, by simp⟩]
        rfl
      · rw [if_neg c, if_neg (fun z => c z.1)]
        rfl
    rw [e, List.append_assoc, if_ne, if_ne]
theorem glue_txt (ws : List Str) : (glueW ws).cps.toList = txt (spW ws) := by
  have e1 : (glueW ws).cps.toList = gU none ws := by
    unfold glueW
    rw [TL.join_eq, join_cps]
    unfold partsW gU
    rw [List.flatMap_assoc]
    refine flat_congr fun k _ => ?_
    unfold partAt
    have e2 : spaceAt ws k = spP none ws k := by
      cases k with
      | zero => rfl
      | succ k =>
        unfold spaceAt spP
        rw [decide_eq_true (Nat.succ_pos k), Bool.true_and]
        rfl
    rw [e2]
    split
    · show [(" " : Str), ws.getD k ""].flatMap _ = _
      rw [List.flatMap_cons, List.flatMap_cons, List.flatMap_nil, List.append_nil]
      rfl
    · show [ws.getD k ""].flatMap _ = _
      rw [List.flatMap_cons, List.flatMap_nil, List.append_nil]
      rfl
  rw [e1]
  cases ws with
  | nil => rfl
  | cons w r =>
    rw [gU_cons, gU_txt]
    have e0 : spP none (w :: r) 0 = false := rfl
    rw [e0, if_neg (by decide), List.nil_append]
    cases r with
    | nil =>
      rw [if_neg (fun z => z.2 rfl)]
      simp [spW, txt]
    | cons w' r =>
      have e2 : spP (some w) (w' :: r) 0 = (headLet w' && Txt.startswith w "@") := rfl
      rw [e2, spW, txt]
      congr 2
      by_cases c : (headLet w' && Txt.startswith w "@") = true
      · rw [if_pos c, if_pos ⟨c, by simp⟩]
        rfl
      · rw [if_neg c, if_neg (fun z => c z.1)]
        rfl
theorem starts_at {w : Str} (h : isCommand w = true) : Txt.startswith w "@" = true := by
  obtain ⟨L, e⟩ := cmd_first h
  rw [str_of_cps e]
  unfold Txt.startswith
  rw [Bool.and_eq_true]
  refine ⟨decide_eq_true ?_, ?_⟩
  · show 0 + 1 ≤ (64 :: L).length
    simp
  · simp [PySem.Builtin.Str.subAt]
    rfl
theorem spW_ok : ∀ {ws : List Str}, (∀ x ∈ ws, Tw x) → TOk (spW ws)
  | [], _ => trivial
  | [w], h => ⟨h w (by simp), (fun _ _ _ e => by cases e), trivial⟩
  | w :: w' :: r, h => by
    refine ⟨h w (by simp), fun v k r' e hc hl => ?_, spW_ok fun x hx => h x (List.mem_cons_of_mem _ hx)⟩
    have e2 : v = w' := by
      have := congrArg (fun l => l.map Prod.fst) e
      rw [spW_fst, List.map_cons] at this
      injection this with a b
      exact a.symm
    subst e2
    rw [if_pos (by rw [hl, starts_at hc]; rfl)]
    exact Nat.le_refl 1
end Mg

set_option Elab.async false
set_option linter.all false
set_option maxRecDepth 100000
set_option maxHeartbeats 1000000
namespace Mg
open PySem L2 StX
abbrev sParse : Stmt := top 31
structure MkR (P : Program) (w : World) (K : PySem.W.Frag) (mg : Str → Option Value) (base : Heap) (C : Addr) : Prop where
  ex : ∃ (f : Addr) (fd : FuncData), FnOk P w K mg base CX0 5 f fd ["self", "text"] (spRInit K C) ∧ Mk K C f ∧ Binds K fd ["self", "text"] []
section
variable {X : Cx} {C : Addr} {p pos : Pos} {e : Expr} {es : List Expr} {t : TA}
theorem pe_mkR (M : MkR X.prog X.w X.K X.mg X.base C) (hr : Room 6 X.A) (hg : Gl X "Reader") (hm : X.mg "Reader" = some (.ref C)) (ha : PA X (e :: es) t)
    (he : starEach (e :: es) X.env = (false, eval e X.env) :: starEach es X.env := by rfl) (hpl : (backTo pos (starEach es X.env)).any (·.1) = false := by rfl) :
    PE X (.Call (.Name "Reader" p) (e :: es) [] pos) (tMake C (spRInit X.K C) [] E0 t) := by
  obtain ⟨f, fd, F, mk, hb⟩ := M.ex
  exact pe_make mk F hr hg hm hb .nil pass0 ha (by decide) he hpl
end
structure TxtP (P : Program) (w : World) (K : PySem.W.Frag) (mg : Str → Option Value) (base : Heap) (C : Addr) : Prop extends TxtSrc mg where
  cl : Cls K C
  g_Reader : mg "Reader" = some (.ref C)
  mkR : MkR P w K mg base C
section
variable {P : Program} {w : World} {K : PySem.W.Frag} {mg : Str → Option Value} {base : Heap} {C : Addr}
/-- a formula within the limits -/
structure InLim (n : Nat) (r : FRow) : Prop where
  dep : r.dep < n
  dep7 : r.dep ≤ 7
  len : r.words.length ≤ 100000
  wk : ∀ x ∈ r.words, 1 ≤ x.length ∧ x.length ≤ 9
  count : r.count ≤ 80
  glue : (glueW r.words).length ≤ 400
def RCheck0 (n : Nat) (ds : List PyData) (d : PyData) : Prop := ∃ r : FRow, ds = [r.d] ∧ InLim n r ∧ d = .none
theorem ok_checkformula0 {n : Nat} {f : Addr} {fd : FuncData} (F : Fun K "check_formula" "check_formula" sCheckFormula f fd) (T : TxtSrc mg) (hn : 1 ≤ n) (C_check_depth : Cal P w K mg base CX0 1 "check_depth" ["depth"] spCheckDepth0)
    (C_depth_of : Cal P w K mg base CX0 (n + 2) "depth_of" ["row"] (spDepthOf K n)) (C_rows_of : Cal P w K mg base CX0 (n + 2) "rows_of" ["formula"] (spRowsOf K n)) (C_text_of : Cal P w K mg base CX0 (3 * n + 1) "text_of" ["formula"] (spTextOf K n)) : FnOk P w K mg base CX0 (3 * n + 2) f fd ["formula"] (spR K (RCheck0 n)) := by
  have sc := scCheckFormula
  refine F.ok scCheckFormula (fun vs H Q E h => ?_) (fun cdv A outer s H vs Q E hr h => ?_)
  · obtain ⟨ds, d, l, ⟨r, rfl, _⟩, _⟩ := h
    cases l with
    | cons _ l => cases l; rfl
  · obtain ⟨ds, d, l, ⟨r, rfl, ⟨dep, dep7, bnd, wk, k80, k400⟩, rfl⟩, k⟩ := h
    cases l with
    | cons t l => cases l with
    | nil =>
    refine ⟨_, (pss_cons (ps_expr (pe_cal C_check_depth (hr.mono (by omega)) rfl pass0 (pa_cons (pe_cal C_depth_of (hr.mono (by omega)) rfl pass0 (pa_cons (pv 0) pa_nil)) pa_nil)))
  (pss_cons (ps_set (i := 1) sc.nd rfl (Or.inl rfl) (pe_callB (cr_sum rfl) (by rfl) T.b_sum (by decide +kernel) (pa_cons (pe_lc (own := [("row", 2)]) rfl sc.nd (pi_list (pe_cal C_rows_of (hr.mono (by omega)) rfl pass0 (pa_cons (pv 0) pa_nil))) (blkOk_by (own := [("row", 2)]) (N := ["formula", "items", "row"]) (sc := defScope sCheckFormula) (by decide +kernel)) (fun _ _ _ _ _ => (pg_name (i := 2) sc.nd rfl (Or.inl rfl))) (fun _ _ _ _ _ => pts_nil) (fun _ _ _ _ _ => (pe_callB (r := rLenQ K) call_lenK (by rfl) T.b_len PySem.boot_len (pa_cons (pv 2) pa_nil)))) pa_nil)))
  (pss_one (ps_if (PW.pt (pw_or (pt_cmpR op_gt (pv 1) (pe_gint rfl T.c_MOST_ITEMS) (nomark _)) (pw_or1 (pt_cmpR op_gt (pe_callB call_len_str (by rfl) T.b_len PySem.boot_len (pa_cons (pe_cal C_text_of (hr.mono (by omega)) rfl pass0 (pa_cons (pv 0) pa_nil)) pa_nil)) (pe_gint rfl T.c_LONGEST) (nomark _)))))
  (pss_one ps_never)
  pss_nil)))), ?_⟩
    refine e_call (a_cons (e_var rfl t) a_nil) ⟨r, rfl, rfl, dep, bnd⟩ H (Same.refl _) _ fun vd H1 s1 td => ?_
    obtain rfl := tp_int td
    refine ⟨_, rfl, by omega, ?_⟩
    have t1 := t.stay (.of s1)
    refine q_set (e_sum (ns := r.pre.map fun q => (q.items.length : Int)) (l_is (l_lcL (K := K) (es := (r.pre.map fun q => (q.items.length : Int)).map PyData.int) (l_call (a_cons (e_var rfl t1) a_nil) ⟨r, rfl, rfl, dep, bnd⟩) (by simp) ?_ (fun x => rfl) ?_) rfl)) fun v2 H2 s2 t2 => ?_
    · have := inn_row r
      simp [FRow.pre]
      omega
    · intro i d e x H2 h1 h2 s2 tx
      obtain ⟨q, hq, rfl⟩ := get_map h1
      rw [List.map_map] at h2
      obtain ⟨q', hq', rfl⟩ := get_map h2
      rw [hq] at hq'
      cases hq'
      have ex : q.d = .tuple (q.items.map FItem.d) := by rw [FRow.d, FRow.ds_eq]
      refine e_is (e_lenT (ds := q.items.map FItem.d) (fun p xs H Q h hq => ⟨p, xs, rfl, h, fun _ => hq⟩) (e_var rfl (ex ▸ tx))) ?_
      simp
    obtain rfl := tp_int t2
    have t2 := t1.stay (.of s2)
    have ec : (r.pre.map fun q => (q.items.length : Int)).sum = r.count := rfl
    rw [ec]
    refine s_if (K := K) (b := false || false) (t_or (t_is (t_test (e_op (e_var rfl (.int _)) e_int r_I0b)) (decide_eq_false (by omega))) fun h80 => t_is (t_test (e_op (d1 := .int (glueW r.words).length) ?_ e_int r_I0b)) (decide_eq_false (by omega))) (fun hb => nomatch hb) fun hb H3 s3 => ?_
    · intro H3 s3 Q3 q3
      refine e_call (a_cons (e_var rfl t2) a_nil) ⟨r, rfl, rfl, dep, bnd, wk⟩ H3 s3 _ fun v4 H4 s4 t4 => ?_
      obtain rfl := tp_str t4
      have := glue_len r.words fun x hx => (wk x hx).2
      exact ⟨_, rfl, sz5 (by omega), q3 _ H4 s4 (.int _)⟩
    · exact k _ H3 ((s1.trans s2).trans s3) .non
def RParse (n : Nat) (ds : List PyData) (d : PyData) : Prop := ∃ (t : Str) (k0 : Nat) (ts : List (Str × Nat)) (r : CRow), ds = [.str t] ∧ t.cps.toList = List.replicate k0 32 ++ txt ts ∧ TOk ts ∧ ts.map Prod.fst = r.ws ∧ t.length ≤ 400 ∧ r.ok ∧ r.h < n ∧ r.h ≤ 7 ∧ InLim n r.f ∧ d = r.f.d
theorem scParse : FnScope ["text", "formula"] ["text"] (defScope sParse) := ⟨rfl, rfl, rfl, by decide +kernel, rfl, by decide +kernel, by decide +kernel⟩
theorem ok_parse {n : Nat} {f : Addr} {fd : FuncData} (F : Fun K "parse" "parse" sParse f fd) (T : TxtP P w K mg base C) (hn : 1 ≤ n) (C_read : CalM P w K mg base CX0 (6 * n + 5) C "read" ["self"] (spRd K C (RRead n))) (C_check_formula : Cal P w K mg base CX0 (3 * n + 2) "check_formula" ["formula"] (spR K (RCheck0 n))) :
    FnOk P w K mg base CX0 (6 * n + 6) f fd ["text"] (spR K (RParse n)) := by
  have sc := scParse
  refine F.ok scParse (fun vs H Q E h => ?_) (fun cdv A outer s H vs Q E hr h => ?_)
  · obtain ⟨ds, d, l, ⟨t, k0, ts, r, rfl, _⟩, _⟩ := h
    cases l with
    | cons _ l => cases l; rfl
  · obtain ⟨ds, d, l, ⟨t, k0, ts, r, rfl, et, tok, tw, t4, ok, hh, h7, lim, rfl⟩, k⟩ := h
    cases l with
    | cons t0 l => cases l with
    | nil =>
    cases tp_str t0
    refine ⟨_, (pss_cons (ps_if (pt_cmpR op_gt (pe_callB call_len_str (by rfl) T.b_len PySem.boot_len (pa_cons (pv 0) pa_nil)) (pe_gint rfl T.c_LONGEST) (nomark _))
  (pss_one ps_never)
  pss_nil)
  (pss_cons (ps_set (i := 1) sc.nd rfl (Or.inl rfl) (pe_calm0 (pe_mkR T.mkR (hr.mono (by omega)) rfl T.g_Reader (pa_cons (pv 0) pa_nil)) T.cl C_read (hr.mono (by omega)) pass0))
  (pss_cons (ps_expr (pe_cal C_check_formula (hr.mono (by omega)) rfl pass0 (pa_cons (pv 1) pa_nil)))
  (pss_one (ps_ret (pv 1)))))), ?_⟩
    refine q_no (K := K) (b := decide ((t.length : Int) > 400)) (t_test (e_op (d1 := .int t.length) (fun H1 s1 Q q => ⟨_, rfl, t, rfl, sz5 (by omega), q _ H1 (.refl _) (.int _)⟩) e_int r_I0b)) (decide_eq_false (by omega)) fun H1 s1 => ?_
    have toks : (toksAt t.cps.toList 0).map Prod.snd = r.ws ++ [("end" : Str)] := by
      rw [toks_spaces k0 0 (by rw [List.drop_zero]; exact et), Nat.zero_add, toks_txt (n := k0) tok (by rw [et]; exact List.drop_left' List.length_replicate), tw]
    refine ⟨_, rfl, fun x dx nx ndx ne => ?_⟩
    have hx : upd (upd H1 dx (.own x)) x (.ins C dx []) x = some (.ins C dx []) := upd_same
    refine ⟨x, dx, t, rfl, hx, by omega, fun tl H2 k2 a2 => ⟨rfl, ?_⟩⟩
    obtain ⟨dx2, hp2⟩ := a2.ob
    refine ⟨x, dx2, _, rfl, hp2, rf_no (by decide +kernel) (by decide +kernel), ?_⟩
    rw [toks] at a2
    have sm : ∀ {H3 : Hp}, KeepB x (upd (upd H1 dx (.own x)) x (.ins C dx [])) H3 → Same H1 H3 := fun kb b o e => by
      have n1 : b ≠ x := fun z => by
        rw [z, nx] at e
        cases e
      have n2 : b ≠ dx := fun z => by
        rw [z, ndx] at e
        cases e
      exact kb b o (by rw [upd_ne n1, upd_ne n2]; exact e) n1
    refine ⟨x, tl, r.ws ++ [("end" : Str)], 0, r.ws.length, [], [], r.f.d, rfl, .nil, a2, ⟨r, rfl, rfl, ok, hh, h7, by unfold At; rw [List.drop_zero]; exact List.prefix_refl _, rfl, rfl⟩, fun v H3 k3 a3 t3 => ?_⟩
    have s3 := sm (k2.trans k3)
    refine e_call (K := K) (R := RCheck0 n) (d := .none) (a_cons (e_var rfl t3) a_nil) ⟨r.f, rfl, lim, rfl⟩ H3 (.refl _) _ fun v4 H4 s4 t4 => ?_
    exact ⟨_, rfl, k v H4 ((s1.trans s3).trans s4) (t3.stay (.of s4))⟩
end
end Mg

set_option Elab.async false
set_option linter.all false
set_option maxRecDepth 100000
set_option maxHeartbeats 4000000
namespace Mg
open PySem PySem.Spec PyProof.Rows L2
/-! several clauses behind a suite, with or without a name for what is caught -/
abbrev Hdl := Addr → Value → Option Addr → TS
/-- the name of a clause is gone behind it -/
def Fade (i : Nat) (D : Ends) : Ends := { nx := fun τ G => D.nx (τ.set i none) G, rt := D.rt, bk := fun τ G => D.bk (τ.set i none) G, ct := fun τ G => D.ct (τ.set i none) G }
def wMix (K : PySem.W.Frag) (Wo : WX) (D : Ends) : List (Value × Option Nat × Hdl) → WX
  | [] => Wo
  | (c, none, t) :: r => fun k d τ G => ∃ y, PySem.W.exmOne K k c = some y ∧ (y = true → ∀ x, G x = none → t x k d D τ G) ∧ (y = false → wMix K Wo D r k d τ G)
  | (c, some i, t) :: r => fun k d τ G => ∃ y, PySem.W.exmOne K k c = some y ∧ (y = true → ∀ x, G x = none → t x k d (Fade i D) (τ.set i (some (.ref x))) G) ∧ (y = false → wMix K Wo D r k d τ G)
abbrev Held (X : Cx) (q : List Stmt) (t : Hdl) : Prop := ∀ (x : Addr) (ob : Obj) (k : Value) (d : Option Addr) (more : List (Addr × Obj)), Zc k d ob → (∃ vs, ob.data = .fields vs) → PSs (X.suite x ((x, ob) :: more)) q (t x k d)
inductive Mix (X : Cx) : List ExceptHandler → List (Value × Option Nat × Hdl) → Prop
  | nil : Mix X [] []
  | bare {x : Str} {c : Value} {t : Hdl} {q₀ : Stmt} {q : List Stmt} {p1 p2 : Pos} {hs : List ExceptHandler} {l : List (Value × Option Nat × Hdl)} (nm : Names X x c) (su : Held X (q₀ :: q) t) (r : Mix X hs l) :
      Mix X (.ExceptHandler (some (.Name x p1)) none (q₀ :: q) p2 :: hs) ((c, none, t) :: l)
  | named {x n : Str} {i : Nat} {c : Value} {t : Hdl} {q₀ : Stmt} {q : List Stmt} {p1 p2 : Pos} {hs : List ExceptHandler} {l : List (Value × Option Nat × Hdl)} (nm : Names X x c) (at' : X.N[i]? = some n) (lc : X.env.kindOf n = some .local) (su : Held X (q₀ :: q) t) (r : Mix X hs l) :
      Mix X (.ExceptHandler (some (.Name x p1)) (some n) (q₀ :: q) p2 :: hs) ((c, some i, t) :: l)
section
variable {X : Cx} {body : List Stmt} {h1 : ExceptHandler} {hs : List ExceptHandler} {l : List (Value × Option Nat × Hdl)} {pos : Pos} {tb : WX → TS} {Wo : WX}
theorem names_ld {pn : List (Addr × Obj)} {x : Str} {c : Value} (nm : Names X x c) {p : Pos} {a : Addr} {ob : Obj} {τ : L2.St} {G : Hp} {s : Shared} {Q E : Value → Shared → Prop}
    (J : Inv (X.suite a ((a, ob) :: pn)) [] τ G s) (k : Q c s) : wpAny (model X.prog X.w) (X.A.mark (some (.ref a))) (eval (.Name x p) X.env) Q E s := by
  rcases nm with ⟨g1, g2, g3 | ⟨g3, g4, g5⟩⟩
  · exact ld_glob (X := X.suite a ((a, ob) :: pn)) J g1 g3 k g2
  · exact ld_blt (X := X.suite a ((a, ob) :: pn)) J g1 g3 g4 k g5 g2
theorem ps_try_mix (st : X.stack = X.env :: X.outer) (fr : X.env.frame = some X.env.locals) (nd : X.N.Nodup) (tk : Takes X Wo)
    (hb : ∀ (W : WX) (pn : List (Addr × Obj)) (xe : Value → Shared → Prop), Takes (X.tr pn xe) W → PassesOwn (model X.prog X.w) X.A X.env xe → PSs (X.tr pn xe) body (tb W))
    (hh : Mix X (h1 :: hs) l) : PS X (.Try body (h1 :: hs) [] [] pos) (fun D τ G => tb (wMix X.K Wo D l) D τ G) := by
  refine ⟨fun pins s τ G D I h => ?_⟩
  have okI := I.ok
  have hA : X.A.frames = some (X.env :: X.outer) := okI.frames.trans (by rw [st])
  refine wpAny_Try_except ?_
  refine wpAny_mono ((hb (wMix X.K Wo D l) (X.pn ++ pins) (fun e s₁ => wpAny (model X.prog X.w) X.A (noteFrame e X.env) (fun _ s₂ =>
      wpAny (model X.prog X.w) X.A (setFlight e none) (fun _ s₃ => wpAny (model X.prog X.w) X.A (handleBy e X.env (h1 :: hs))
        (SP X pins D) X.xe s₃) X.xe s₂) X.xe s₁) (fun u s' xx => ?_) PassesOwn.looking).run [] s τ G D (I.toTry _) h) (fun fl s1 hp => ?_) fun e s1 he => he
  rotate_left
  · cases fl with
    | next =>
      obtain ⟨a1, a2, a3, a4⟩ := hp
      exact wpAny_execs_nil ⟨a1, a2, a3.ofTry okI, a4⟩
    | brk =>
      obtain ⟨a1, a2, a3, a4⟩ := hp
      exact ⟨a1, a2, a3.ofTry okI, a4⟩
    | cont =>
      obtain ⟨a1, a2, a3, a4⟩ := hp
      exact ⟨a1, a2, a3.ofTry okI, a4⟩
    | ret u =>
      obtain ⟨a0, a1, a2, a3, a4, a5⟩ := hp
      exact ⟨a0, a1, a2, a3.ofTry okI, a4, a5⟩
  obtain ⟨x, B, sI, pins', τ', G', k, d, rfl, J0, nb, up, sky, na, os, ag, w⟩ := xx
  have J : Inv X pins τ' G' sI := J0.ofTry okI
  show wpAny _ X.A (noteFrame (.ref x) X.env) _ _ _
  refine Sky.land Zc.steady hA fr (by rw [← st]; exact sky) fun hp3 F3 up3 => ?_
  have J3 : Inv X pins τ' G' { s' with heap := hp3 } := J.landed nb F3.1 (up.trans up3) os ag
  obtain ⟨ob, vs, eo, zo, fo⟩ := F3.there
  have off : x ∉ frs (X.env :: X.outer) := fun hm => by
    obtain ⟨_, o', e', nf⟩ := F3.2.2.1.mem hm
    rw [eo] at e'
    cases e'
    exact nf _ fo
  have nL : x ≠ X.env.locals := fun z => off (List.mem_filterMap.mpr ⟨X.env, List.mem_cons_self, fr.trans (by rw [z])⟩)
  have nF : x ∉ X.fs := fun hm => by
    obtain ⟨en, hen, q⟩ := List.mem_filterMap.mp hm
    exact off (List.mem_filterMap.mpr ⟨en, List.mem_cons_of_mem _ hen, q⟩)
  have S3 := J3.suite eo fo na nL nF
  have looks : PySem.W.Looks (model X.prog X.w) hp3 (typeOf (.ref x)) k := fun A Q E s kk q => wpAny_typeOf_ref (kk _ _ eo) (by rw [zo.1]; exact q)
  suffices go : ∀ {hds : List ExceptHandler} {ll : List (Value × Option Nat × Hdl)}, Mix X hds ll → wMix X.K Wo D ll k d τ' G' → wpAny (model X.prog X.w) X.A (handleBy (.ref x) X.env hds) (SP X pins D) X.xe { s' with heap := hp3 } from go hh w
  intro hds ll m
  induction m with
  | nil =>
    intro w
    refine wpAny_handleBy_nil ?_
    obtain ⟨_, _, _, oe, vs', T, oT, ts', he, hz, hd, hT, hr⟩ := id F3
    unfold PySem.passOn
    refine wpAny_bind (wpAny_field he hd hT ?_)
    rw [if_neg (by simp : ¬ ((Value.ref T == Value.none) = true))]
    have last : wpAny (model X.prog X.w) X.A (setFlight (.ref x) X.env.frame) (fun _ s4 => wpAny (model X.prog X.w) X.A (throw (.ref x) : Sem Flow) (SP X pins D) X.xe s4) X.xe { s' with heap := hp3 } := by
      rw [fr]
      exact HandSPX.setFlight_upZ F3 fun hp4 F4 up4 => wpAny_throw (tk _ _ ⟨x, B, sI, pins, τ', G', k, d, rfl, J, nb, (up.trans up3).trans up4, .inr (.inr (by rw [st]; exact F4)), na, os, ag, w⟩)
    first
      | exact wpAny_bind (wpAny_pure (wpAny_bind last))
      | exact wpAny_bind last
  | @bare xn c t q₀ q p1 p2 hds2 l2 nm su r ih =>
    rintro ⟨y, ey, hy, hn⟩
    refine wpAny_handleBy_cons (codeAny_handlers_test (names_ld nm S3 ((PySem.W.exm_one (M := model X.prog X.w) J3.kIn looks ey).here ?_))) fun z => nomatch z
    cases y with
    | false => exact ih (hn rfl)
    | true =>
      refine codeAny_handlers_suite (HandSPX.lands_againZ F3 fun hp4 F4 up4 => ?_)
      have J4 : Inv X pins τ' G' { s' with heap := hp4 } := J.landed nb F4.1 ((up.trans up3).trans up4) os ag
      obtain ⟨ob4, vs4, eo4, zo4, fo4⟩ := F4.there
      refine wpAny_mono ((su x ob4 k d (X.pn ++ pins) zo4 ⟨_, fo4⟩).run [] _ _ G' _ (J4.suite eo4 fo4 na nL nF) (hy rfl x na)) (fun fl s6 hp => ?_) fun _ _ z => z.elim
      cases fl with
      | next =>
        obtain ⟨a1, a2, a3, a4⟩ := hp
        exact ⟨_, _, a3.unsuite okI, a4⟩
      | brk =>
        obtain ⟨a1, a2, a3, a4⟩ := hp
        exact ⟨_, _, a3.unsuite okI, a4⟩
      | cont =>
        obtain ⟨a1, a2, a3, a4⟩ := hp
        exact ⟨_, _, a3.unsuite okI, a4⟩
      | ret u =>
        obtain ⟨a0, a1, a2, a3, a4, a5⟩ := hp
        exact ⟨_, _, _, a3.unsuite okI, a4, a5⟩
  | @named xn n i c t q₀ q p1 p2 hds2 l2 nm at' lc su r ih =>
    rintro ⟨y, ey, hy, hn⟩
    refine wpAny_handleBy_cons (codeAny_handlers_test (names_ld nm S3 ((PySem.W.exm_one (M := model X.prog X.w) J3.kIn looks ey).here ?_))) fun z => nomatch z
    cases y with
    | false => exact ih (hn rfl)
    | true =>
      refine codeAny_handlers_suite_as (HandSPX.lands_againZ F3 fun hp4 F4 up4 => ?_)
      have J4 : Inv X pins τ' G' { s' with heap := hp4 } := J.landed nb F4.1 ((up.trans up3).trans up4) os ag
      obtain ⟨ob4, vs4, eo4, zo4, fo4⟩ := F4.there
      refine store_ok (X := X.suite x ((x, ob4) :: (X.pn ++ pins))) (v := .ref x) (J4.suite eo4 fo4 na nL nF) nd at' (.inl lc) rfl (fun s5 J5 => ?_) (.inr lc)
      refine wpAny_mono ((su x ob4 k d (X.pn ++ pins) zo4 ⟨_, fo4⟩).run [] s5 _ G' _ J5 (hy rfl x na)) (fun fl s6 hp => ?_) fun _ _ z => z.elim
      have fin : ∀ {τ6 : L2.St} {G6 : Hp} {Q : Shared → Prop}, Inv (X.suite x ((x, ob4) :: (X.pn ++ pins))) [] τ6 G6 s6 → (∀ s7, Inv X pins (τ6.set i none) G6 s7 → Q s7) →
          wpAny (model X.prog X.w) X.A (do bindName X.env n .none; unbindBehindTheSuite X.env n p2) (fun _ s7 => Q s7) X.xe s6 := fun J6 kq => gone_ok (J6.unsuite okI) nd at' lc kq
      cases fl with
      | next =>
        obtain ⟨a1, a2, a3, a4⟩ := hp
        exact fin a3 fun s7 J7 => ⟨_, _, J7, a4⟩
      | brk =>
        obtain ⟨a1, a2, a3, a4⟩ := hp
        exact fin a3 fun s7 J7 => ⟨_, _, J7, a4⟩
      | cont =>
        obtain ⟨a1, a2, a3, a4⟩ := hp
        exact fin a3 fun s7 J7 => ⟨_, _, J7, a4⟩
      | ret u =>
        obtain ⟨a0, a1, a2, a3, a4, a5⟩ := hp
        exact fin a3 fun s7 J7 => ⟨_, _, _, J7, a4, a5⟩
end
end Mg

set_option Elab.async false
set_option linter.all false
set_option maxRecDepth 100000
set_option maxHeartbeats 1000000
namespace Mg.Nw
open PySem PySem.Spec PyProof.Rows L2
/-! data as the kit has them: equal data; a new font -/
mutual
def dpy : Dt → PyData
  | .non => .none
  | .bl b => .bool b
  | .int i => .int i
  | .str x => .str x
  | .lst ds => .list (dpyL ds)
  | .tup ds => .tuple (dpyL ds)
  | .obj _ => .none
def dpyL : List Dt → List PyData
  | [] => []
  | d :: ds => dpy d :: dpyL ds
end
mutual
def Dt.pl : Dt → Bool
  | .obj _ => false
  | .lst ds => plL ds
  | .tup ds => plL ds
  | _ => true
def plL : List Dt → Bool
  | [] => true
  | d :: ds => d.pl && plL ds
end
theorem plL_of : ∀ {ds : List Dt}, (∀ d ∈ ds, d.pl = true) → plL ds = true
  | [], _ => rfl
  | d :: ds, h => by rw [plL, h d List.mem_cons_self, plL_of fun e he => h e (List.mem_cons_of_mem _ he)]; rfl
theorem dpyL_eq : ∀ ds : List Dt, dpyL ds = ds.map dpy
  | [] => rfl
  | d :: ds => by rw [dpyL, dpyL_eq ds, List.map_cons]
theorem depL_le {n : Nat} : ∀ {ds : List Dt}, (∀ d ∈ ds, (dpy d).depth ≤ n) → PyData.depthAll (dpyL ds) ≤ n
  | [], _ => Nat.zero_le _
  | d :: ds, h => by
    show max (PyData.depth (dpy d)) (PyData.depthAll (dpyL ds)) ≤ n
    exact Nat.max_le.mpr ⟨h d List.mem_cons_self, depL_le fun e he => h e (List.mem_cons_of_mem _ he)⟩
theorem dep_tup {n : Nat} {ds : List Dt} (h : ∀ d ∈ ds, (dpy d).depth ≤ n) : (dpy (.tup ds)).depth ≤ n + 1 := by
  show PyData.depthAll (dpyL ds) + 1 ≤ n + 1
  exact Nat.succ_le_succ (depL_le h)
theorem dep_lst {n : Nat} {ds : List Dt} (h : ∀ d ∈ ds, (dpy d).depth ≤ n) : (dpy (.lst ds)).depth ≤ n + 1 := by
  show PyData.depthAll (dpyL ds) + 1 ≤ n + 1
  exact Nat.succ_le_succ (depL_le h)
theorem dep_int {n : Nat} (i : Int) : (dpy (.int i)).depth ≤ n := Nat.zero_le _
theorem dep_str {n : Nat} (i : Str) : (dpy (.str i)).depth ≤ n := Nat.zero_le _
section
variable {K : PySem.W.Frag} {S : AS} {H : Hp}
mutual
theorem isd_dp : ∀ {v : V} {d : Dt}, IsD K S H v d → d.pl = true → Dp K H v (dpy d)
  | _, _, .non, _ => .non
  | _, _, .bl b, _ => .bl b
  | _, _, .int i, _ => .int i
  | _, _, .str x, _ => .str x
  | _, _, .lst h _ l, p => .lst (SqL.of h) (isl_dp l p)
  | _, _, .tup h l, p => .tup h (isl_dp l p)
  | _, _, .obj _ _, p => by cases p
theorem isl_dp : ∀ {vs : List V} {ds : List Dt}, IsL K S H vs ds → plL ds = true → DpAll K H vs (dpyL ds)
  | _, _, .nil, _ => .nil
  | _, _, .cons a b, p => by
    rw [plL, Bool.and_eq_true] at p
    exact .cons (isd_dp a p.1) (isl_dp b p.2)
end
end
section
variable {M : Md} {Γ : List Sl} {tas : TA} {ta tb : TE} {X : XK} {d e : Dt} {n : Nat} {K : PySem.W.Frag}
theorem shaped_lay {d : Dt} (s : SeqAt.shaped (dpy d) = true) : (dpy d).canLay0 = true := by
  unfold SeqAt.shaped at s
  rw [Bool.and_eq_true] at s
  exact s.1
theorem o_eqDt (p : d.pl = true) (s : SeqAt.shaped (dpy d) = true) : RX K (rEqD K) d d (.bl true) := fun S v1 v2 H Q t1 t2 q => by
  refine ⟨dpy d, dpy d, isd_dp t1 p, isd_dp t2 p, s, s, ?_⟩
  rw [SeqAt.eqv_refl _ (shaped_lay s)]
  exact q _ (.bl _)
theorem o_neDt (p : d.pl = true) (s : SeqAt.shaped (dpy d) = true) : RX K (rNeD K) d d (.bl false) := fun S v1 v2 H Q t1 t2 q => by
  refine ⟨dpy d, dpy d, isd_dp t1 p, isd_dp t2 p, s, s, ?_⟩
  rw [SeqAt.eqv_refl _ (shaped_lay s)]
  exact q _ (.bl _)
theorem shaped_of {d : Dt} (h1 : (dpy d).canLay0 = true) (h2 : (dpy d).depth ≤ 64) : SeqAt.shaped (dpy d) = true := by
  unfold SeqAt.shaped
  rw [h1, decide_eq_true h2]
  rfl
theorem layL_of : ∀ {ds : List Dt}, (∀ d ∈ ds, (dpy d).canLay0 = true) → PyData.canLayAll0 (dpyL ds) = true
  | [], _ => rfl
  | d :: ds, h => by
    show (PyData.canLay0 (dpy d) && PyData.canLayAll0 (dpyL ds)) = true
    rw [h d List.mem_cons_self, layL_of fun e he => h e (List.mem_cons_of_mem _ he)]
    rfl
theorem o_eqG {d1 d2 : Dt} (p1 : d1.pl = true) (p2 : d2.pl = true) (h1 : SeqAt.shaped (dpy d1) = true) (h2 : SeqAt.shaped (dpy d2) = true) : RX K (rEqD K) d1 d2 (.bl (PyData.eqv (dpy d1) (dpy d2))) := fun S v1 v2 H Q t1 t2 q => ⟨dpy d1, dpy d2, isd_dp t1 p1, isd_dp t2 p2, h1, h2, q _ (.bl _)⟩
theorem eqv_same {d : Dt} (h : SeqAt.shaped (dpy d) = true) : PyData.eqv (dpy d) (dpy d) = true := SeqAt.eqv_refl _ (shaped_lay h)
end
end Mg.Nw

set_option Elab.async false
set_option linter.all false
set_option maxRecDepth 100000
set_option maxHeartbeats 1000000
namespace Mg.Nw
open PySem PySem.Spec PyProof.Rows L2
/-! expressions that give some data; promises of some data; the script -/
abbrev Abk (K : PySem.W.Frag) (mg : Str → Option Value) (x : Str) (f : Addr) (d : FuncData) (ps : List Str) : Prop := mg x = some (.ref f) ∧ PySem.W.keepIn K (.ref f) = true ∧ Binds K d ps []
def EN (M : Md) (te : TE) (Γ : List Sl) (R : Dt → Prop) : Prop := ∀ A H0 σ H, En M A H0 Γ σ H → ∀ Q : VK, (∀ v d H', R d → Nx M (SA A σ Γ) H H' → IsD M.K (SA A σ Γ) H' v d → Q v H') → te σ H Q
def ENA (M : Md) (ta : TA) (Γ : List Sl) (R : List Dt → Prop) : Prop := ∀ A H0 σ H, En M A H0 Γ σ H → ∀ Q : List V → Hp → Prop, (∀ vs ds H', R ds → Nx M (SA A σ Γ) H H' → IsL M.K (SA A σ Γ) H' vs ds → Q vs H') → ta σ H Q
def spN (K : PySem.W.Frag) (R : List Dt → Dt → Prop) : Sp := fun vs H Q _ => ∃ (A : AS) (ds : List Dt), (∀ a, A a → ∃ o, H a = some o) ∧ IsL K A H vs ds ∧ (∃ d, R ds d) ∧ ∀ v d H', R ds d → Same H H' → (∀ a, H' a = none → H a = none) → IsD K A H' v d → Q v H'
section
variable {M : Md} {A : AS} {K : PySem.W.Frag} {H0 H H1 H2 H' : Hp} {Γ Δ Γ' Γ1 : List Sl} {σ σ' : L2.St} {S : AS} {d d1 d2 : Dt} {ds es : List Dt} {te ta tb tl : TE} {tas : TA} {t : TT} {b : Bool} {tu tw tz ts : TS} {P : Po} {X : XK} {R R2 : Dt → Prop} {RL : List Dt → Prop} {g : TG}
theorem en_of (h : Nw.E M te Γ d) : EN M te Γ (fun x => x = d) := fun A H0 σ H e Q q => h A H0 σ H e Q fun v H' n tv => q v d H' rfl n tv
theorem EN.imp (h : EN M te Γ R) (i : ∀ d, R d → R2 d) : EN M te Γ R2 := fun A H0 σ H e Q q => h A H0 σ H e Q fun v d H' r n tv => q v d H' (i d r) n tv
theorem e_of_en (h : EN M te Γ fun x => x = d) : Nw.E M te Γ d := fun A H0 σ H e Q q => h A H0 σ H e Q fun v x H' r n tv => by
  subst r
  exact q v H' n tv
theorem ena_nil : ENA M tNil Γ (fun ds => ds = []) := fun A H0 σ H e Q q => q _ _ H rfl (.refl e) .nil
theorem ena_cons (h : EN M te Γ R) (hs : ENA M tas Γ RL) : ENA M (tCons te tas) Γ (fun ds => ∃ d r, ds = d :: r ∧ R d ∧ RL r) := fun A H0 σ H e Q q =>
  h A H0 σ H e _ fun v d H1 r n1 tv => hs A H0 σ H1 (e.nx n1) _ fun vs ds H2 rl n2 tvs => q _ _ H2 ⟨d, ds, rfl, r, rl⟩ (n1.trans n2) (.cons (tv.stay n2.sf) tvs)
theorem ENA.imp {RL2 : List Dt → Prop} (h : ENA M tas Γ RL) (i : ∀ ds, RL ds → RL2 ds) : ENA M tas Γ RL2 := fun A H0 σ H e Q q => h A H0 σ H e Q fun vs ds H' r n l => q vs ds H' (i ds r) n l
/-- a call by a promise of data -/
theorem en_call {RX : List Dt → Dt → Prop} (h : ENA M tas Γ RL) (r : ∀ ds, RL ds → ∃ d, RX ds d ∧ R d) : EN M (tCall (spX M.K RX) [] X tas) Γ R := fun A H0 σ H e Q q => h A H0 σ H e _ fun vs ds H1 rl n1 l => by
  rw [List.append_nil]
  have e1 := e.nx n1
  obtain ⟨d, r1, r2⟩ := r ds rl
  exact ⟨SA A σ Γ, ds, d, e1.sv, l, r1, fun v H2 sm al hv => q v d H2 r2 (n1.trans (e1.same sm al)) hv⟩
theorem en_callR {RX : List PyData → PyData → Prop} (h : ENA M tas Γ RL) (r : ∀ ds, RL ds → ∃ (es : List PyData) (d : PyData), ds = pdL es ∧ tOnlyL es = true ∧ RX es d ∧ R (pd d)) : EN M (tCall (spR M.K RX) [] X tas) Γ R := fun A H0 σ H e Q q => h A H0 σ H e _ fun vs ds H1 rl n1 l => by
  rw [List.append_nil]
  have e1 := e.nx n1
  obtain ⟨es, d, rfl, t, r1, r2⟩ := r ds rl
  exact ⟨es, d, isl_tpl es t l, r1, fun v H2 sm hv => q v (pd d) H2 r2 (n1.trans (e1.same sm fun a h => sm.free h)) (tp_isd hv)⟩
theorem en_ncall {RX : List Dt → Dt → Prop} (h : ENA M tas Γ RL) (r : ∀ ds, RL ds → ∃ d, RX ds d) : EN M (tCall (spN M.K RX) [] X tas) Γ (fun d => ∃ ds, RL ds ∧ RX ds d) := fun A H0 σ H e Q q => h A H0 σ H e _ fun vs ds H1 rl n1 l => by
  rw [List.append_nil]
  have e1 := e.nx n1
  exact ⟨SA A σ Γ, ds, e1.sv, l, r ds rl, fun v d H2 rd sm al hv => q v d H2 ⟨ds, rl, rd⟩ (n1.trans (e1.same sm al)) hv⟩
theorem s_setN {i : Nat} (h : EN M te Γ R) (k : ∀ d, R d → P.nx (Γ.set i (.f d))) : W M (tAsg te (gName i)) Γ P := fun A H0 D σ H e kn kb kc kr => h A H0 σ H e _ fun v d H1 r n1 tv => by
  have e1 := (e.nx n1).setf (i := i) tv
  exact kn _ _ _ (k d r) e1 (n1.go.trans (e.nx n1) Go.setf)
theorem w_setN {i : Nat} (h : EN M te Γ R) (k : ∀ d, R d → W M tz (Γ.set i (.f d)) P) : W M (tSeq (tAsg te (gName i)) tz) Γ P := w_seq (s_setN h k)
theorem w_retN2 (h : EN M te Γ R) (k : ∀ d, R d → P.rt d) : W M (tRet te) Γ P := fun A H0 D σ H e kn kb kc kr => h A H0 σ H e _ fun v d H1 r n1 tv => kr v d H1 (k d r) (e.retA n1) (tv.chg fun a h => .inl (.inl h))
/-- a def's body keeps its promise of some data -/
theorem body_okN {N : List Str} {vs : List V} {Q : VK} {R : Dt → Prop} (av : ∀ a, A a → ∃ o, H a = some o) (l : IsL K A H vs ds) (q : ∀ v d H', R d → Same H H' → (∀ a, H' a = none → H a = none) → IsD K A H' v d → Q v H')
    (w : W (pure0 K) ts (st0 N ds) { nx := fun _ => False, rt := R }) : ts { nx := fun _ H' => Q .non H', rt := Q } (L2.start N vs) H := by
  have e := En.init (N := N) av l
  refine w A H _ _ H e (fun Γ' σ' H' p e' g' => p.elim) (fun _ _ _ p _ _ => p.elim) (fun _ _ _ p _ _ => p.elim) fun v x H' p n hv => ?_
  have s : Same H H' := fun b o hb => n.fr.no hb fun z => z
  exact q v x H' p s (fun a h => s.free h) hv
/-! truth of data, whole parts of tuples -/
/-- x or y, by truth -/
theorem x_orT (h : Nw.E M ta Γ d1) (h1 : d1 ≠ .non → (∃ x : Str, d1 = .str x ∧ 1 ≤ x.length ∧ x.length ≤ 1000000) ∧ d = d1) (h2 : d1 = .non → Nw.E M tb Γ d) : Nw.E M (tOrT M.K ta tb) Γ d := fun A H0 σ H e Q q => h A H0 σ H e _ fun v H1 n1 tv => by
  by_cases c : d1 = .non
  · subst c
    cases isd_non tv
    exact ⟨false, rfl, iteF (h2 rfl A H0 σ H1 (e.nx n1) Q fun v H2 n2 t2 => q v H2 (n1.trans n2) t2)⟩
  · obtain ⟨⟨x, e1, l1, l2⟩, e2⟩ := h1 c
    subst e2
    subst e1
    cases isd_str tv
    refine ⟨true, ⟨sz5 l2, ?_⟩, iteT (q _ H1 n1 tv)⟩
    have h3 : ¬ x.length = 0 := by omega
    simp [bne, h3]
/-- t[:1] -/
theorem x_sl1 {tl th : TO} (h : Nw.E M te Γ (.tup ds)) (hl : EO M tl Γ none) (hh : EO M th Γ (some 1)) : Nw.E M (tSl (rSlA M.K) te tl th) Γ (.tup (ds.take 1)) := fun A H0 σ H e Q q =>
  h A H0 σ H e _ fun v H1 n1 tv => hl A H0 σ H1 (e.nx n1) _ fun H2 n2 => hh A H0 σ H2 ((e.nx n1).nx n2) _ fun H3 n3 => by
    obtain ⟨a, xs, rfl, s, l⟩ := isd_tup ((tv.stay n2.sf).stay n3.sf)
    have e3 := ((e.nx n1).nx n2).nx n3
    have i1 : HT.sIx xs.length xs.length (some 1) = min 1 xs.length := HT.sIx_nat (k := 1) ..
    have i0 : HT.sIx xs.length 0 none = 0 := rfl
    refine ⟨a, xs, rfl, s, fun c => ?_, fun c p hp => ?_⟩
    · have lt : ds.length ≤ 1 := by
        have := c.2
        rw [i1, l.len] at this
        omega
      rw [List.take_of_length_le lt] at q
      exact q _ _ ((n1.trans n2).trans n3) (.tup s l)
    · refine q _ _ (((n1.trans n2).trans n3).trans (.new e3 hp)) (.tup (SqT.of upd_same) ?_)
      have : cutV xs none (some 1) = xs.take 1 := by
        unfold cutV
        rw [i1, i0, List.drop_zero, Nat.sub_zero]
        by_cases z : xs.length ≤ 1
        · rw [List.take_of_length_le (l := xs) (i := 1) z, List.take_of_length_le (by omega)]
        · rw [Nat.min_eq_left (by omega)]
      rw [this]
      exact (l.take 1).stay (.new hp)
theorem x_lenS {x : Str} (h : EA M tas Γ [.str x]) (hl : x.length ≤ 1000000) : Nw.E M (tCB (fun xs H Q => ∃ z, xs = [.str z] ∧ z.length ≤ sizeLine ∧ Q (.int z.length) H) tas) Γ (.int (x.length : Nat)) := fun A H0 σ H e Q q => h A H0 σ H e _ fun vs H1 n1 l => by
  cases l with
  | cons a l =>
    cases l
    cases isd_str a
    exact ⟨_, rfl, sz5 hl, q _ _ n1 (.int _)⟩
theorem at_nat {α : Type} {l : List α} {k : Nat} {x : α} (h : l[k]? = some x) : atI l (k : Int) = some x := by
  have hk : k < l.length := (List.getElem?_eq_some_iff.mp h).1
  unfold atI
  have : ixN l.length (k : Int) = some k := by
    unfold ixN
    rw [if_pos (by omega), if_pos (by omega)]
    simp
  rw [this]
  exact h
end
/-! the script, and a law -/
def scrP (K : PySem.W.Frag) (ns : List Int) : AS → Hp → V → Prop := fun S H v => ∃ a, v = .ref a ∧ (((H a = some (.lst (ns.map V.int)) ∨ ∃ o, H a = some (.frz o (.lst (ns.map V.int)))) ∧ ¬ S a) ∨ ∀ H', SqL K H' a (ns.map V.int))
theorem no_chgB {S S' : AS} {H : Hp} {a : Addr} {o : HO} (f : ∀ a, S' a → S a ∨ H a = none) (h : H a = some o) (n : ¬ S a) : ¬ S' a := fun z => (f a z).elim n fun y => by rw [h] at y; cases y
theorem scr_stab (K : PySem.W.Frag) (ns : List Int) : Stab (scrP K ns) where
  stay := fun f h => by
    obtain ⟨a, rfl, ⟨h | ⟨o, h⟩, n⟩ | h⟩ := h
    · exact ⟨a, rfl, .inl ⟨.inl (f.no h n), n⟩⟩
    · exact ⟨a, rfl, .inl ⟨.inr ⟨o, f.no h n⟩, n⟩⟩
    · exact ⟨a, rfl, .inr h⟩
  chg := fun f h => by
    obtain ⟨a, rfl, ⟨h | ⟨o, h⟩, n⟩ | h⟩ := h
    · exact ⟨a, rfl, .inl ⟨.inl h, no_chgB f h n⟩⟩
    · exact ⟨a, rfl, .inl ⟨.inr ⟨o, h⟩, no_chgB f h n⟩⟩
    · exact ⟨a, rfl, .inr h⟩
def scrO (K : PySem.W.Frag) (ns : List Int) : Dt := .obj (scrP K ns)
theorem scr_at {K : PySem.W.Frag} {ns : List Int} {S : AS} {H : Hp} {v : V} (h : scrP K ns S H v) : ∃ a, v = .ref a ∧ SqL K H a (ns.map V.int) := by
  obtain ⟨a, rfl, ⟨h | ⟨o, h⟩, n⟩ | h⟩ := h
  · exact ⟨a, rfl, .inl (.inl h)⟩
  · exact ⟨a, rfl, .inl (.inr ⟨o, h⟩)⟩
  · exact ⟨a, rfl, h _⟩
theorem scr_of {K : PySem.W.Frag} {ns : List Int} {H : Hp} {a : Addr} (h : SqL K H a (ns.map V.int)) : IsD K (fun _ => False) H (.ref a) (scrO K ns) := by
  refine .obj (scr_stab K ns) ⟨a, rfl, ?_⟩
  rcases h with (h | ⟨o, h⟩) | h
  · exact .inl ⟨.inl h, fun z => z⟩
  · exact .inl ⟨.inr ⟨o, h⟩, fun z => z⟩
  · exact .inr fun H' => .inr h
section
variable {M : Md} {K : PySem.W.Frag} {H : Hp} {Γ : List Sl} {X : XK}
theorem en_cell {ns : List Int} {i : Nat} {j : Int} {tj : TE} (h : Γ[i]? = some (.f (scrO M.K ns))) (hj : Nw.E M tj Γ (.int j)) (j0 : 0 ≤ j) : EN M (tCall (spCellN M.K) [] X (tCons (tVar i) (tCons tj tNil))) Γ (fun d => ∃ n : Int, d = .int n) := fun A H0 σ H e Q q => by
  obtain ⟨v, g1, g2⟩ := e.at' i _ h
  refine ⟨_, g1, hj A H0 σ H e _ fun w H1 n1 tw => ?_⟩
  cases isd_int tw
  obtain ⟨a, rfl, sq⟩ := scr_at (isd_obj (g2.stay n1.sf))
  exact ⟨a, ns, j, rfl, sq, j0, fun n => q _ _ H1 ⟨n, rfl⟩ n1 (.int n)⟩
def spLaw (K : PySem.W.Frag) : Sp := fun vs H Q _ => ∃ (a : Addr) (ns : List Int), vs = [.ref a] ∧ SqL K H a (ns.map V.int) ∧ ∀ H', Q (.bl true) H'
theorem law_ok {N : List Str} {a : Addr} {ns : List Int} {ts : TS} {Q : VK} (hS : SqL K H a (ns.map V.int)) (q : ∀ H', Q (.bl true) H') (w : W (pure0 K) ts (st0 N [scrO K ns]) { nx := fun _ => False, rt := fun x => x = .bl true }) : ts { nx := fun _ H' => Q .non H', rt := Q } (L2.start N [.ref a]) H :=
  body_okN (K := K) (A := fun _ => False) (H := H) (R := fun x => x = .bl true) (fun a z => z.elim) (.one (scr_of hS)) (fun v d H' z _ _ hv => by
    subst z
    cases isd_bl hv
    exact q H') w
end
end Mg.Nw

set_option Elab.async false
set_option linter.all false
set_option maxRecDepth 100000
set_option maxHeartbeats 1000000
namespace Mg.Nw
open PySem PySem.Spec PyProof.Rows L2
/-! promises that err: the class of the error, what its own dict has -/
structure Exn where
  C : Addr
  fs : Option (List (Str × V))
def exOk (x : Exn) (c : Value) (d : Option Addr) (H : Hp) : Prop := c = .ref x.C ∧ match x.fs with
  | none => d = none
  | some l => ∃ a, d = some a ∧ H a = some (.xd l)
def spZ (K : PySem.W.Frag) (R : List Dt → Exn → Prop) : Sp := fun vs H _ E => ∃ (A : AS) (ds : List Dt) (x : Exn), (∀ a, A a → ∃ o, H a = some o) ∧ IsL K A H vs ds ∧ R ds x ∧ ∀ c d H', Same H H' → exOk x c d H' → E c d H'
/-- one promise or the other -/
def spO (s1 s2 : Sp) : Sp := fun vs H Q E => s1 vs H Q E ∨ s2 vs H Q E
/-- the world of a def that changes nothing and remembers how it was called -/
abbrev pureH (K : PySem.W.Frag) (Hs : Hp) : Md where
  K := K
  C := fun _ => False
  G := fun S H => Same Hs H ∧ ∀ a, S a → Hs a = none
  gs := fun {S H H'} f h => ⟨fun b o e => f b o (h.1 b o e) fun z => absurd (h.2 b z.1) (by rw [e]; exact Option.some_ne_none _), h.2⟩
  gc := fun {S S' H} f h => ⟨h.1, fun a z => by
    rcases f a z with y | y
    · exact h.2 a y
    · cases e : Hs a with
      | none => rfl
      | some o =>
        rw [h.1 a o e] at y
        cases y⟩
def EZ (M : Md) (te : TE) (Γ : List Sl) : Prop := ∀ A H0 σ H, En M A H0 Γ σ H → ∀ Q : VK, te σ H Q
section
variable {M : Md} {A : AS} {K : PySem.W.Frag} {Hs H H' : Hp} {Γ : List Sl} {σ : L2.St} {d : Dt} {ds : List Dt} {te ta tb : TE} {tas : TA} {tu tw tz ts : TS} {t : TT} {P : Po} {X : XK} {CB : Addr}
theorem En.initG {M : Md} {N : List Str} {vs : List V} (l : IsL M.K (fun _ => False) H vs ds) (G : M.G (fun _ => False) H) (nC : ∀ a, ¬ M.C a) : En M (fun _ => False) H (st0 N ds) (L2.start N vs) H := by
  have e := En.init (K := M.K) (A := fun _ => False) (N := N) (fun _ z => z.elim) l
  refine ⟨e.len, e.at', e.inj, .refl, e.new, e.nA, e.av, M.gc (fun a z => .inl ?_) G, fun a z => nC a z⟩
  exact z.elim (fun z => z) fun z => absurd z (own_f _ _ _ _)
theorem body_okZ {N : List Str} {vs : List V} {D : Ends} (l : IsL K A H vs ds) (w : W (pureH K H) ts (st0 N ds) { nx := fun _ => False, rt := fun _ => False }) : ts D (L2.start N vs) H :=
  w (fun _ => False) H D _ H (En.initG (M := pureH K H) (l.chg fun _ z => z.elim) ⟨fun _ _ e => e, fun _ z => z.elim⟩ fun _ z => z) (fun _ _ _ z _ _ => z.elim) (fun _ _ _ z _ _ => z.elim) (fun _ _ _ z _ _ => z.elim) fun _ _ _ z _ _ => z.elim
theorem x_callL {R : List Dt → Dt → Prop} {s2 : Sp} (h : EA M tas Γ ds) (r : R ds d) : Nw.E M (tCall (spO (spX M.K R) s2) [] X tas) Γ d := fun A H0 σ H e Q q => h A H0 σ H e _ fun vs H1 n1 l => by
  rw [List.append_nil]
  have e1 := e.nx n1
  exact .inl ⟨SA A σ Γ, ds, d, e1.sv, l, r, fun v H2 sm al hv => q v H2 (n1.trans (e1.same sm al)) hv⟩
theorem ez_call {s1 : Sp} {R : List Dt → Exn → Prop} {x : Exn} (h : EA (pureH K Hs) tas Γ ds) (r : R ds x) (hX : ∀ c d H', Same Hs H' → exOk x c d H' → X c d H') : EZ (pureH K Hs) (tCall (spO s1 (spZ K R)) [] X tas) Γ := fun A H0 σ H e Q => h A H0 σ H e _ fun vs H1 n1 l => by
  rw [List.append_nil]
  exact .inr ⟨SA A σ Γ, ds, x, (e.nx n1).sv, l, r, fun c d H' sm ok => hX c d H' (fun b o z => sm b o (n1.inv.1 b o z)) ok⟩
theorem ez_meth {C : Addr} {m : Str} {sp : Sp} {dv : List V} (h : EZ M ta Γ) : EZ M (tMeth C m sp dv X ta tas) Γ := fun A H0 σ H e Q => h A H0 σ H e _
theorem ez_arg {r : List V → Hp → VK → Prop} (h : EZ M ta Γ) : EZ M (tCB r (tCons ta tas)) Γ := fun A H0 σ H e Q => h A H0 σ H e _
theorem ez_fld {K' : PySem.W.Frag} {x : Str} (h : EZ M ta Γ) : EZ M (tFld K' ta x) Γ := fun A H0 σ H e Q => h A H0 σ H e _
theorem s_dropZ (h : EZ M te Γ) : W M (tDrop te) Γ P := fun A H0 D σ H e _ _ _ _ => h A H0 σ H e _
theorem w_dropZ (h : EZ M te Γ) : W M (tSeq (tDrop te) tz) Γ P := w_seq (s_dropZ h)
theorem w_retZ (h : EZ M te Γ) : W M (tRet te) Γ P := fun A H0 D σ H e _ _ _ _ => h A H0 σ H e _
theorem s_err (h : ∀ H', Same Hs H' → X (.ref CB) none H') : W (pureH K Hs) (fun _ _ H => X (.ref CB) none H) Γ P := fun A H0 D σ H e _ _ _ _ => h H e.inv.1
end
/-! isinstance of an error that a suite holds, by its class -/
def rIsG (K : PySem.W.Frag) (a : Addr) (cls : Value) (d : Option Addr) : List V → Hp → VK → Prop := fun xs H Q => ∃ D, cls = .ref D ∧ d = none ∧ ExcC K D ∧ rIsE K D a xs H Q
theorem call_isG {X : Cx} {a : Addr} {oe : Obj} {cls : Value} {d : Option Addr} {pn : List (Addr × Obj)} (hz : Zc cls d oe) (hf : ∃ vs, oe.data = .fields vs) : CallR (X.suite a ((a, oe) :: pn)) (.builtin "isinstance") (rIsG X.K a cls d) := by
  intro pins s σ H xs us Q I r h
  obtain ⟨D, rfl, rfl, C, h⟩ := h
  exact call_isE C hz hf pins s σ H xs us Q I r h
end Mg.Nw

set_option Elab.async false
set_option linter.all false
set_option maxRecDepth 100000
set_option maxHeartbeats 4000000
namespace L2
open PySem PySem.Spec PyProof.Rows
/-! enumerate of a tuple -/
def enO (it : Addr) : Obj := { cls := .type "enumerate", data := .fields #[.none, .bool false, .ref it, rawInt 0, .none, .none] }
theorem new_enum1 {v : Value} {o : Obj} {L : Heap → Prop} (B : Begins v o L) :
    Meets (Builtin.«enumerate.__new__» ⟨[.type "enumerate", v], []⟩) (fun _ R z => L z.heap ∧ R (.ok (.ret (.ref (z.heap.push o).objs.size))) { z with heap := (z.heap.push o).push (enO z.heap.objs.size) }) :=
  .of_wp fun P w A R z q => by
    obtain ⟨hp, gs, dr, n, os⟩ := z
    obtain ⟨q1, q⟩ := q
    have isub := sub_enumerate
    have it0 : ∀ {A' : Around} {E : Value → Shared → Prop} {Q : Value → Shared → Prop}, Q (.ref hp.objs.size) ⟨hp.push o, gs, dr, n, os⟩ → wpAny (model P w) A' (pyIter v) Q E ⟨hp, gs, dr, n, os⟩ :=
      fun k => B.iter P w _ _ ⟨hp, gs, dr, n, os⟩ _ q1 k
    wp_walk using it0
    refine wpAny_stack_any fun st => wpAny_pure ?_
    split
    · rename_i c _ _ _ _ _
      cases (c == Value.type "enumerate") <;> (wp_walk using it0; exact ⟨_, rfl, q⟩)
    · wp_walk using it0
      exact ⟨_, rfl, q⟩
theorem enum1_begins {prog : Program} {w : World} {A : Around} {E : Value → Shared → Prop} {z : Shared} {v : Value} {o : Obj} {L : Heap → Prop} {Q : Value → Shared → Prop} (B : Begins v o L) (q1 : L z.heap)
    (k : ∀ g, IsEnum g (z.heap.objs.size + 1) z.heap.objs.size 0 .none → g.get? z.heap.objs.size = some o → (∀ b u, z.heap.get? b = some u → g.get? b = some u) → Q (.ref (z.heap.objs.size + 1)) { z with heap := g }) :
    wpAny (model prog w) A (call (.type "enumerate") [v]) Q E z := by
  refine callType_new F.called_enumerate (by decide) (F.typeCall_enumerate_1 _) (F.newCall_enumerate_1 _) (fun ob => F.args_object_init_2 ob _) F.entry_enumerate_new (new_enum1 B) ⟨q1, ?_⟩
  have sz : (z.heap.push o).objs.size = z.heap.objs.size + 1 := Heap.size_push ..
  have he : IsEnum ((z.heap.push o).push (enO z.heap.objs.size)) (z.heap.objs.size + 1) z.heap.objs.size 0 .none := by
    have y := Heap.get?_push_size (z.heap.push o) (o := enO z.heap.objs.size) rfl
    rw [sz] at y
    exact y
  show _ ∧ _
  rw [sz]
  exact ⟨⟨_, he, rfl⟩, k _ he (Heap.get?_push_of_some _ (Heap.get?_push_size _ B.free)) fun b u x => Heap.get?_push_of_some _ (Heap.get?_push_of_some _ x)⟩
/-- the tuple at a, each item in a new pair -/
def IteT (K : PySem.W.Frag) (a : Addr) : It :=
  ⟨fun i H => ∃ (xs : List V) (x : V), SqT K H a xs ∧ xs[i]? = some x, fun i H v H' => ∃ T x, v = .ref T ∧ H T = none ∧ H' = upd H T (.tup [.int (i : Nat), x]) ∧ ∀ xs, SqT K H a xs → xs[i]? = some x, fun i H => ∃ xs : List V, SqT K H a xs ∧ xs.length = i⟩
theorem turn_enumT {P : Program} {w : World} {K : PySem.W.Frag} {elts : List Expr} {kk : Nat} {tpos : Pos} (a e it : Addr) (nit : a ≠ it) (nea : e ≠ a) :
    Turn P w K (.Tuple elts kk tpos) (IteT K a) [e, it] e (fun i h => (∃ old, IsEnum h e it ((i : Nat) : Int) old) ∧ h.IsTupleIter it a i ∧ e ≠ it) where
  mem := by simp
  obj := fun i h st b hb => by
    obtain ⟨⟨old, he⟩, ⟨o, ho, hc, hd⟩, _⟩ := st
    have e' : b = e ∨ b = it := by simpa using hb
    rcases e' with z | z
    · rw [z]; exact ⟨_, he, fun v q => nomatch q⟩
    · rw [z]; exact ⟨o, ho, fun v q => by rw [hd] at q; cases q⟩
  keep := fun i h h' st k => by
    obtain ⟨⟨old, he⟩, hi, hne⟩ := st
    exact ⟨⟨old, k e (by simp) _ he⟩, hi.at fun o q => k it (by simp) o q, hne⟩
  item := by
    intro X hP hw hK hc i pins s σ H E I hf st hg
    subst hP hw hK
    obtain ⟨⟨old, he⟩, hit, hne⟩ := st
    obtain ⟨xs, x, hq, hx⟩ := hg
    obtain ⟨its, rv, p, _⟩ := I.tuple hq
    obtain ⟨u, hu, ru⟩ := rv.get hx
    have lte : e < s.heap.objs.size := Heap.lt_size he
    have lti : it < s.heap.objs.size := by
      obtain ⟨_, q, _⟩ := hit
      exact Heap.lt_size q
    have lt : i < its.toArray.size := by
      have := (List.getElem?_eq_some_iff.mp hu).1
      simpa using this
    have hh : X.A.handled = none := I.ok.hd hc
    refine wpAny_pyNext_enum_itemD (Draws.tuple (show X.A.in1.handled = none from hh) it a nit its.toArray) he ⟨hit, (show s.heap.IsTuple a its.toArray from p)⟩ lt hne (by simp [hne, nea]) fun x1 h' tk q1 ho st' hT hsz hk => ?_
    have e1 : x1 = u := by
      have q1 : its[i]? = some x1 := by simpa using q1
      rw [hu] at q1
      exact (Option.some.inj q1).symm
    subst e1
    refine ⟨_, rfl, wpAny_letOwnedTupleGo_enum (s := { s with heap := h', toks := tk + 1 }) ho fun h'' he' sb => ?_⟩
    have hT2 : h''.get? s.heap.objs.size = some { cls := .type "tuple", data := .seq #[.int i tk, x1] } := (sb.2 _ (Nat.ne_of_gt lte)).trans hT
    have new : ObjOk X.prog X.w (upd H s.heap.objs.size (.tup [.int (i : Nat), x])) h'' s.heap.objs.size (.tup [.int (i : Nat), x]) :=
      ⟨by show 2 ≤ sizeLine; decide, [.int i tk, x1], .cons ⟨_, rfl⟩ (.cons ru .nil), ⟨_, hT2, rfl, _, rfl⟩⟩
    have I1 : Inv X pins σ (upd H s.heap.objs.size (.tup [.int (i : Nat), x])) { s with heap := h'', toks := tk + 1 } :=
      I.turnedNew (t' := tk + 1) (ch := [e, it]) (fun b ob hb q => (sb.2 b fun z => hb (by simp [z])).trans (hk b ob (fun z => hb (by simp [z])) (fun z => hb (by simp [z])) q)) hf (Nat.le_refl _) new
    refine ⟨.ref s.heap.objs.size, _, I1, rfl, ⟨_, x, rfl, I.hok.fresh (Nat.le_refl _), rfl, fun ys hy => by rw [I.tuple_inj hy hq]; exact hx⟩, ⟨⟨x1, ?_⟩, st'.1.at fun o q => (sb.2 it (Ne.symm hne)).trans q, hne⟩, fun b hb => ?_⟩
    · have e1 : ((i + 1 : Nat) : Int) = (i : Int) + 1 := by omega
      rw [e1]
      exact he'
    · have hb' : b < s.heap.objs.size := by
        have e' : b = e ∨ b = it := by simpa using hb
        rcases e' with z | z
        · rw [z]; exact lte
        · rw [z]; exact lti
      rw [upd_ne (Nat.ne_of_lt hb')]
      exact (hf b hb).1
  done := by
    intro X hP hw hK hc i pins s σ H E I hf st hg
    subst hP hw hK
    obtain ⟨⟨old, he⟩, hit, hne⟩ := st
    obtain ⟨xs, hq, hx⟩ := hg
    obtain ⟨its, rv, p, _⟩ := I.tuple hq
    have hh : X.A.handled = none := I.ok.hd hc
    have en : i = its.toArray.size := by rw [List.size_toArray, ← rv.length, hx]
    subst en
    exact wpAny_pyNext_enum_endD (Draws.tuple (show X.A.in1.handled = none from hh) it a nit its.toArray) he ⟨hit, (show s.heap.IsTuple a its.toArray from p)⟩ fun h' eb => ⟨rfl, I.turnedL (t' := s.toks) (ch := [e, it]) (fun b o hb q => eb b o (fun z => hb (by simp [z])) q) hf⟩
  self := fun A i s Q E st h => by
    obtain ⟨⟨_, he⟩, _⟩ := st
    exact wpAny_pyIter_enum he h
def iEnumT (K : PySem.W.Frag) (ta : TA) : TI := fun σ H R => ta σ H fun vs H1 => ∃ a xs, vs = [.ref a] ∧ SqT K H1 a xs ∧ R (IteT K a) H1
theorem pi_enumT {X : Cx} {e : Expr} {ta : TA} {p pos tpos : Pos} {elts : List Expr} {kk : Nat} (hg : Gl X "enumerate") (hm : X.mg "enumerate" = none) (ha : PA X [e] ta) (hs : starEach [e] X.env = [(false, eval e X.env)] := by rfl) :
    PI X (.Tuple elts kk tpos) (.Call (.Name "enumerate" p) [e] [] pos) (iEnumT X.K ta) := by
  refine ⟨fun pins s σ H R I h => ?_⟩
  refine Call_ (ld_blt I hg hm boot_enumerate (PyProof.Rows.callWith_type1 (thn (ha.run pos pins s σ H _ I h) fun us s1 ⟨vs, H1, I1, r1, a, xs, ex, hq, q⟩ => ?_) hs rfl))
  subst ex
  cases r1 with
  | cons r rr =>
    cases rr
    cases r
    obtain ⟨its, rv, pt, _⟩ := I1.tuple hq
    have la : a < s1.heap.objs.size := pt.lt
    refine enum1_begins (begins_tuple a its.toArray) (show s1.heap.IsTuple a its.toArray from pt) fun g he hit hk => wpAny_pyIter_enum he ?_
    have I2 : Inv X pins σ H1 { s1 with heap := g } := I1.kept (t' := s1.toks) hk
    have big : ∀ b ∈ [s1.heap.objs.size + 1, s1.heap.objs.size], s1.heap.objs.size ≤ b := fun b hb => by
      have e' : b = s1.heap.objs.size + 1 ∨ b = s1.heap.objs.size := by simpa using hb
      rcases e' with z | z
      · rw [z]; exact Nat.le_succ _
      · rw [z]; exact Nat.le_refl _
    refine ⟨s1.heap.objs.size + 1, [s1.heap.objs.size + 1, s1.heap.objs.size], _, _, H1, rfl, I2, turn_enumT a (s1.heap.objs.size + 1) s1.heap.objs.size (Nat.ne_of_lt la) (Nat.ne_of_gt (Nat.lt_succ_of_lt la)), ⟨⟨.none, he⟩, ⟨_, hit, rfl, rfl⟩, Nat.succ_ne_self _⟩, fun b hb => ?_, q⟩
    exact I1.fpOk (big b hb) (I1.hok.fresh (big b hb))
end L2
namespace Mg.Nw
open PySem PySem.Spec PyProof.Rows L2
theorem it_enumT {M : Md} {te : TE} {Γ : List Sl} {ds : List Dt} (h : E M te Γ (.tup ds)) : IT M (iEnumT M.K (tCons te tNil)) Γ (enumD ds) := fun A H0 σ H e R r => h A H0 σ H e _ fun v H1 n1 tv => by
  obtain ⟨a, xs, rfl, s, l⟩ := isd_tup tv
  refine ⟨a, xs, rfl, s, r _ _ n1 fun H2 f al => ?_⟩
  have s2 : SqT M.K H2 a xs := f.sqt s
  have el : (enumD ds).length = ds.length := by unfold enumD; rw [List.length_mapIdx]
  refine ⟨fun i hi => ?_, ⟨xs, s2, by rw [el]; exact l.len⟩, fun i x H3 y => ?_⟩
  · exact ⟨xs, xs[i]'(by rw [l.len, ← el]; exact hi), s2, List.getElem?_eq_getElem _⟩
  · obtain ⟨T, z, rfl, hT, rfl, y⟩ := y
    refine ⟨same_new hT, upd_al, fun d hd S' h1 h2 => ?_⟩
    unfold enumD at hd
    rw [List.getElem?_mapIdx] at hd
    cases e : ds[i]? with
    | none => rw [e] at hd; cases hd
    | some d0 =>
      rw [e] at hd
      cases hd
      exact new_tup hT (.cons (.int _) (.one (isl_turn (l.at (y xs s2) e) f h1)))
theorem enum_get {α : Type} {g : α → Dt} {l : List α} {i : Nat} {d : Dt} (h : (enumD (l.map g))[i]? = some d) : ∃ a, l[i]? = some a ∧ d = .tup [.int (i : Nat), g a] := by
  unfold enumD at h
  rw [List.getElem?_mapIdx, List.getElem?_map] at h
  cases e : l[i]? with
  | none => rw [e] at h; cases h
  | some a =>
    rw [e] at h
    cases h
    exact ⟨a, rfl, rfl⟩
end Mg.Nw

set_option Elab.async false
set_option linter.all false
set_option maxRecDepth 100000
set_option maxHeartbeats 1000000
namespace Mg.Nw
open PySem PySem.Spec PyProof.Rows L2
local macro_rules | `(tactic| walk_at "op") => `(tactic| first | exact o_I0i | exact o_I0b | exact o_ixT rfl | exact o_eqS | exact o_neS | exact o_eqI | exact o_neI | exact o_isN rfl | exact o_notN rfl | exact o_Ii (.inl ⟨by decide, by decide⟩) | exact o_Ii (.inr ⟨by decide, by decide⟩) | exact o_Ii ⟨by decide, by decide⟩ | skip)
local macro_rules | `(tactic| walk_at "x") => `(tactic| first
  | exact x_int | exact x_str | exact x_bl | exact x_non | exact xa_nil | exact xo_no | exact x_var rfl | exact r_var rfl | exact xt_yes
  | ((with_reducible apply xa_cons) <;> walk_at "x")
  | ((with_reducible apply x_op) <;> walk_at "x")
  | ((with_reducible apply x_ixL) <;> walk_at "x")
  | ((with_reducible apply x_tup) <;> walk_at "x")
  | ((with_reducible apply xl_lst) <;> walk_at "x")
  | ((with_reducible apply xl_cat) <;> walk_at "x")
  | ((with_reducible apply x_catT) <;> walk_at "x")
  | ((with_reducible apply x_slT) <;> walk_at "x")
  | ((with_reducible apply xl_slL) <;> walk_at "x")
  | ((with_reducible apply xo_some) <;> walk_at "x")
  | ((with_reducible apply xt_test) <;> walk_at "x")
  | ((with_reducible apply xt_B) <;> walk_at "x")
  | ((with_reducible apply xt_not) <;> walk_at "x")
  | ((with_reducible apply xt_and) <;> walk_at "x")
  | ((with_reducible apply xt_or) <;> walk_at "x")
  | ((with_reducible apply x_and) <;> walk_at "x")
  | ((with_reducible apply x_or) <;> walk_at "x")
  | ((with_reducible apply x_not) <;> walk_at "x")
  | ((with_reducible apply it_tup) <;> walk_at "x")
  | ((with_reducible apply it_lst) <;> walk_at "x")
  | ((with_reducible apply it_enum) <;> walk_at "x")
  | ((with_reducible apply it_zip) <;> walk_at "x")
  | ((with_reducible apply it_rev) <;> walk_at "x")
  | exact gt_name | exact gts_nil
  | ((with_reducible apply gt_tup) <;> walk_at "x")
  | ((with_reducible apply gt_lst) <;> walk_at "x")
  | ((with_reducible apply gts_cons) <;> walk_at "x")
  | (with_reducible apply x_b2; walk_at "x"; walk_at "x"; exact b_max2)
  | (with_reducible apply x_lenU; walk_at "x"; done)
  | (with_reducible apply x_lenL; walk_at "x"; done)
  | ((with_reducible apply x_sum) <;> walk_at "x")
  | ((with_reducible apply x_max) <;> walk_at "x")
  | ((with_reducible apply x_call) <;> walk_at "x")
  | ((with_reducible apply xt_tuple) <;> walk_at "x")
  | (with_reducible apply xl_listU; walk_at "x"; done)
  | (with_reducible apply xl_listL; walk_at "x"; done)
  | (with_reducible apply el_r; walk_at "y")
  | (with_reducible apply el_e; walk_at "y")
  | (with_reducible apply e_r; walk_at "x")
  | exact Nat.le_of_ble_eq_true rfl
  | exact List.cons_ne_nil _ _
  | rfl
  | (simp only [List.length_cons, List.length_nil]; decide +kernel)
  | (with_reducible intro _; walk_at "x")
  | walk_at "op")
local macro_rules | `(tactic| walk_at "y") => `(tactic| first
  | ((with_reducible apply xl_lst) <;> walk_at "x")
  | ((with_reducible apply xl_cat) <;> walk_at "x")
  | ((with_reducible apply xl_slL) <;> walk_at "x")
  | (with_reducible apply xl_listU; walk_at "x"; done)
  | (with_reducible apply xl_listL; walk_at "x"; done))
local macro_rules | `(tactic| walk_at "s") => `(tactic| first | exact Sub.nil | (apply Sub.cons; (first | exact SlLe.refl | exact SlLe.any | exact SlLe.frz | skip); walk_at "s") | skip)
local macro_rules | `(tactic| walk_at "d") => `(tactic| try dsimp only [List.set, wipeS])
local macro_rules | `(tactic| walk_at "go") => `(tactic| ((try dsimp only [cxOf]); simp only [st0, List.map_cons, List.map_nil, List.length_cons, List.length_nil, List.cons_append, List.nil_append, Nat.reduceAdd, Nat.reduceSub, List.replicate]))

/-! what is drawn from a cell: numbers, and formulas by them -/
abbrev sBDraws : Stmt := top 49
abbrev sBItem : Stmt := top 50
abbrev sBRow : Stmt := top 51
abbrev sBDrawn : Stmt := top 52
def RDrw : List Dt → Dt → Prop := fun ds d => ∃ (c : Int) (n : Nat) (ns : List Int), ds = [.int c, .int (n : Int)] ∧ n ≤ 1000 ∧ ns.length = n ∧ (∀ x ∈ ns, 0 ≤ x) ∧ d = .lst (ns.map Dt.int)
def gB (ns : List Int) (i : Nat) : Int := ns.getD (i % ns.length) 0
def sy9 : List Str := ["x", "+", "=", "2", "@to", "*", "y", "@sum", ","]
def symB (k : Int) : Str := sy9.getD k.toNat "x"
def oneR (r : FRow) : FRow := FRow.of (r.items.take 1)
def dlB (v : Int) (x : Str) : Option Str := if v = 0 then some x else none
def gridB (l : List (List FRow)) : FNuc := .grid (FGrid.of (l.map FCells.of))
def nucB (ns : List Int) (row : Nat → Nat → FRow) (at' : Nat) (kind : Int) : FNuc :=
  if kind = 9 then .group (row (at' + 7) 3) else if kind = 10 then .frac (row (at' + 7) 3) (row (at' + 12) 2) else if kind = 11 then .root (row (at' + 7) 3)
  else if kind = 12 then .fence (dlB (gB ns (at' + 4) % 2) "(") (dlB (gB ns at' / 16 % 2) ")") (row (at' + 7) 3)
  else if kind = 13 then gridB [[row (at' + 7) 3, row (at' + 12) 2]] else if kind = 14 then gridB [[row (at' + 7) 3], [row (at' + 12) 2]]
  else gridB [[row (at' + 7) 3, row (at' + 12) 2], [oneR (row (at' + 12) 2), oneR (row (at' + 7) 3)]]
def cntB (ns : List Int) (at' most : Nat) : Nat := (gB ns (at' + 4) % ((most : Int) + 1)).toNat
def rowB' (ns : List Int) (it : Nat → FItem) (at' most : Nat) : FRow := FRow.of ((List.range (cntB ns at' most)).map fun k => it (at' + 1 + 5 * k))
def itemB (ns : List Int) : Nat → Nat → FItem
  | 0, at' => .mk (.sym (symB (gB ns at' % 9 % 9))) .no .no
  | f + 1, at' => .mk (if gB ns at' % 16 > 8 then nucB ns (rowB' ns (itemB ns f)) at' (gB ns at' % 16) else .sym (symB (gB ns at' % 16 % 9)))
      (if gB ns (at' + 2) % 9 = 0 then .yes (rowB' ns (itemB ns f) (at' + 19) 2) else .no) (if gB ns (at' + 3) % 7 = 0 then .yes (rowB' ns (itemB ns f) (at' + 23) 2) else .no)
structure Nums (ns : List Int) : Prop where
  len : ns.length = 59
  nn : ∀ x ∈ ns, 0 ≤ x
theorem gB_get {ns : List Int} (h : Nums ns) (i : Nat) : ns[i % ns.length]? = some (gB ns i) := by
  have : i % ns.length < ns.length := Nat.mod_lt _ (by rw [h.len]; decide)
  unfold gB
  rw [List.getD_eq_getElem?_getD, List.getElem?_eq_getElem this]
  rfl
theorem gB_nn {ns : List Int} (h : Nums ns) (i : Nat) : 0 ≤ gB ns i := h.nn _ (List.mem_of_getElem? (gB_get h i))
def RItm (f : Nat) : List Dt → Dt → Prop := fun ds d => ∃ (ns : List Int) (at' : Nat), ds = [.lst (ns.map Dt.int), .int (at' : Int), .int (3 - (f : Int))] ∧ Nums ns ∧ f ≤ 3 ∧ d = itemT (itemB ns f at')
def RRw (f : Nat) : List Dt → Dt → Prop := fun ds d => ∃ (ns : List Int) (at' most : Nat), ds = [.lst (ns.map Dt.int), .int (at' : Int), .int (3 - (f : Int)), .int (most : Int)] ∧ Nums ns ∧ f ≤ 3 ∧ most ≤ 10 ∧ d = rowT (rowB' ns (itemB ns f) at' most)
def spRw (K : PySem.W.Frag) : Nat → Sp
  | 0 => fun _ _ _ _ => False
  | f + 1 => spX K (RRw f)
section
variable {P : Program} {w : World} {K : PySem.W.Frag} {mg : Str → Option Value} {base : Heap} {M : Md} {Γ : List Sl} {ta te tb : TE} {X : XK}
theorem x_intI {i : Int} (h : Nw.E M te Γ (.int i)) : Nw.E M (tCB (fun xs H Q => (∃ i, xs = [.int i] ∧ Q (.int i) H) ∨ ∃ k, xs = [.bl k] ∧ Q (.int (if k then 1 else 0)) H) (tCons te tNil)) Γ (.int i) := fun A H0 σ H e Q q => h A H0 σ H e _ fun v H1 n1 tv => .inl ⟨i, by rw [isd_int tv], q _ H1 n1 (.int i)⟩
theorem scBDraws : FnScope ["cell", "count", "result", "rest", "k", "mixed"] ["cell", "count"] (defScope sBDraws) := ⟨rfl, rfl, rfl, by decide +kernel, rfl, by decide +kernel, by decide +kernel⟩
theorem ok_bdraws {f : Addr} {fd : FuncData} (F : Fun K "_law_draws" "_law_draws" sBDraws f fd) (T : TxtB mg) : FnOk P w K mg base CX0 1 f fd ["cell", "count"] (spN K RDrw) := by
  have sc := scBDraws
  refine F.ok scBDraws (fun vs H Q E h => ?_) (fun cdv A outer s H vs Q E hr h => ?_)
  · obtain ⟨_, ds, _, l, ⟨d, _, _, _, rfl, _⟩, _⟩ := h
    exact l.len
  · obtain ⟨A0, ds, av, l, ⟨d0, c, n, ns0, rfl, n1, _⟩, k⟩ := h
    refine ⟨_, (pss_cons (ps_set (i := 2) sc.nd rfl (Or.inl rfl) (pe_lst pa_nil))
  (pss_cons (ps_set (i := 3) sc.nd rfl (Or.inl rfl) (pe_callTy call_int1 (by rfl) T.b_int (by decide +kernel) (pa_cons (pv 0) pa_nil)))
  (pss_cons (ps_for PassesOwn.never rfl (pi_range1 rfl T.range (pa_cons (pv 1) pa_nil)) (pg_name (i := 4) sc.nd rfl (Or.inl rfl))
  (pss_cons (ps_set (i := 5) sc.nd rfl (Or.inl rfl) (pe_op op_mod (pe_callTy call_int1 (by rfl) T.b_int (by decide +kernel) (pa_cons (pe_op op_add (pe_op op_add (pe_op op_mul (pv 0) pe_int) (pe_op op_mul (pv 4) pe_int)) pe_int) pa_nil)) pe_int))
  (pss_one (ps_if (pt_cmpR op_ge (pv 0) (pe_op op_pow pe_int pe_int) (nomark _))
  (pss_cons (ps_expr (pe_bm PySem.F.plainAttrs_list PySem.F.slot_list_append PySem.F.type_list_append mt_append (pv 2) (pa_cons (pe_op op_mod (pv 3) pe_int) pa_nil)))
  (pss_one (ps_set (i := 3) sc.nd rfl (Or.inl rfl) (pe_op op_fdiv (pv 3) pe_int))))
  (pss_one (ps_expr (pe_bm PySem.F.plainAttrs_list PySem.F.slot_list_append PySem.F.type_list_append mt_append (pv 2) (pa_cons (pe_op op_fdiv (pe_op op_mod (pe_callTy call_int1 (by rfl) T.b_int (by decide +kernel) (pa_cons (pe_op op_add (pe_op op_mul (pv 5) (pv 5)) (pe_op op_mul (pv 5) pe_int)) pa_nil)) pe_int) pe_int) pa_nil))))))))
  (pss_one (ps_ret (pv 2)))))), ?_⟩
    refine body_okN av l k ?_
    walk_at "go"
    refine w_setl (ds := []) (Nat.le_of_ble_eq_true rfl) (xl_lst xa_nil (Nat.zero_le _)) ?_
    walk_at "d"
    refine w_set (d := .int c) (x_intI (x_var rfl)) ?_
    walk_at "d"
    refine w_forI (ds := (List.range n).map fun i : Nat => Dt.int (i : Int)) (it_rng1 (x_var rfl) (by omega)) (fun i Γ => ∃ (ns : List Int) (q : Int), ns.length = i ∧ (∀ x ∈ ns, 0 ≤ x) ∧ Sub Γ [.f (.int c), .f (.int (n : Int)), .o (ns.map Dt.int), .f (.int q), .any, .any]) ⟨[], c, rfl, fun _ h => (nomatch h), by walk_at "s"⟩ (fun i Γi d hi hd => ?_) (fun Γn hn => ?_)
    · obtain ⟨ns, q, e1, e2, sb⟩ := hi
      have ilt : i < n := by
        have := (List.getElem?_eq_some_iff.mp hd).1
        simpa using this
      obtain ⟨m, hm, rfl⟩ := Mg.get_map hd
      refine ⟨_, _, _, sb, gt_name, ?_⟩
      walk_at "d"
      obtain ⟨mx, hmx⟩ : ∃ mx : Int, (c * 48271 + (m : Int) * 69621 + 1) % 2147483647 = mx := ⟨_, rfl⟩
      refine w_set (d := .int mx) ((x_op (x_intI (x_op (x_op (x_op (x_var rfl) x_int (o_Ii (.inr ⟨by decide, by decide⟩))) (x_op (x_var rfl) x_int (o_Ii (.inr ⟨by decide, by decide⟩))) o_I0i) x_int o_I0i)) x_int (o_Ii (by decide))).is (by rw [hmx])) ?_
      walk_at "d"
      have m0 : 0 ≤ mx := by rw [← hmx]; exact Int.emod_nonneg _ (by decide)
      have m1 : mx < 2147483647 := by rw [← hmx]; exact Int.emod_lt_of_pos _ (by decide)
      have app : ∀ {y : Int}, 0 ≤ y → ∀ x ∈ ns ++ [y], 0 ≤ x := fun h x hx => (List.mem_append.mp hx).elim (e2 x) fun z => by rw [List.mem_singleton.mp z]; exact h
      refine s_if (xt_test (x_op (x_var rfl) (x_op x_int x_int (o_Ii ⟨by decide, by decide, by decide⟩)) o_I0b)) (fun _ => ?_) (fun _ => ?_)
      · refine w_app rfl (x_op (x_var rfl) x_int (o_Ii (by decide))) (by rw [List.length_map]; omega) ?_
        walk_at "d"
        refine s_set (x_op (x_var rfl) x_int (o_Ii ⟨by decide, by decide⟩)) ⟨ns ++ [q % 1009], q / 1009, by rw [List.length_append, e1]; rfl, app (Int.emod_nonneg _ (by decide)), ?_⟩
        walk_at "d"
        rw [List.map_append]
        show Sub [_, _, _, _, _, _] _
        walk_at "s"
      · refine s_app (d := .int ((mx * mx + mx * 40692) % 2147483399 / 7)) rfl (x_op (x_op (x_intI (x_op (x_op (x_var rfl) (x_var rfl) (o_Ii (.inr ⟨by omega, by omega⟩))) (x_op (x_var rfl) x_int (o_Ii (.inr ⟨by decide, by decide⟩))) o_I0i)) x_int (o_Ii (by decide))) x_int (o_Ii ⟨by decide, by decide⟩)) (by rw [List.length_map]; omega) ⟨ns ++ [(mx * mx + mx * 40692) % 2147483399 / 7], q, by rw [List.length_append, e1]; rfl, app (Int.ediv_nonneg (Int.emod_nonneg _ (by decide)) (by decide)), ?_⟩
        walk_at "d"
        rw [List.map_append]
        show Sub [_, _, _, _, _, _] _
        walk_at "s"
    · obtain ⟨ns, q, e1, e2, sb⟩ := hn
      refine w_sub sb (w_retO rfl ⟨c, n, ns, rfl, n1, ?_, e2, rfl⟩)
      rw [e1, List.length_map, List.length_range]
/-- n[at % len(n)] -/
theorem x_gB {ns : List Int} {a : Nat} (hn : Nums ns) (h0 : Γ[0]? = some (.f (.lst (ns.map Dt.int)))) (h : Nw.E M te Γ (.int (a : Int))) : Nw.E M (tOp (rIxL M.K) (tVar 0) (tOp (rI (fun _ j => 0 < j) fun i j => .int (i % j)) te (tCB (Mg.rLenQ M.K) (tCons (tVar 0) tNil)))) Γ (.int (gB ns a)) := by
  have hl : (ns.map Dt.int).length = ns.length := List.length_map ..
  refine x_ixL (ds := ns.map Dt.int) (i := ((a % ns.length : Nat) : Int)) (e_r (x_var h0)) ((x_op h (x_lenL (e_r (x_var h0))) (o_Ii ?_)).is ?_) (at_nat ?_)
  · rw [hl, hn.len]
    decide
  · rw [hl]
    rfl
  · rw [List.getElem?_map, gB_get hn]
    rfl
theorem x_addN {a b : Nat} (h : Nw.E M te Γ (.int (a : Int))) : Nw.E M (tOp (rI0 fun i j => .int (i + j)) te (tC (.int (b : Int)))) Γ (.int ((a + b : Nat) : Int)) := (x_op h x_int o_I0i).is (by rw [Int.natCast_add])
theorem o_ixN {ds : List Dt} {i : Int} {d : Dt} (h0 : 0 ≤ i) (h : ds[i.toNat]? = some d) : RX K (rIxT K) (.tup ds) (.int i) d := o_ixT (by
  have := at_nat h
  rw [Int.toNat_of_nonneg h0] at this
  exact this)
theorem sub_of {a b : Sl} (h : a = b) : SlLe a b := h ▸ .refl
end
end Mg.Nw

set_option Elab.async false
set_option linter.all false
set_option maxRecDepth 100000
set_option maxHeartbeats 1000000
namespace Mg.Nw
open PySem PySem.Spec PyProof.Rows L2
local macro_rules | `(tactic| walk_at "op") => `(tactic| first | exact o_I0i | exact o_I0b | exact o_ixT rfl | exact o_eqS | exact o_neS | exact o_eqI | exact o_neI | exact o_isN rfl | exact o_notN rfl | exact o_Ii (.inl ⟨by decide, by decide⟩) | exact o_Ii (.inr ⟨by decide, by decide⟩) | exact o_Ii ⟨by decide, by decide⟩ | skip)
local macro_rules | `(tactic| walk_at "x") => `(tactic| first
  | exact x_int | exact x_str | exact x_bl | exact x_non | exact xa_nil | exact xo_no | exact x_var rfl | exact r_var rfl | exact xt_yes
  | ((with_reducible apply xa_cons) <;> walk_at "x")
  | ((with_reducible apply x_op) <;> walk_at "x")
  | ((with_reducible apply x_ixL) <;> walk_at "x")
  | ((with_reducible apply x_tup) <;> walk_at "x")
  | ((with_reducible apply xl_lst) <;> walk_at "x")
  | ((with_reducible apply xl_cat) <;> walk_at "x")
  | ((with_reducible apply x_catT) <;> walk_at "x")
  | ((with_reducible apply x_slT) <;> walk_at "x")
  | ((with_reducible apply xl_slL) <;> walk_at "x")
  | ((with_reducible apply xo_some) <;> walk_at "x")
  | ((with_reducible apply xt_test) <;> walk_at "x")
  | ((with_reducible apply xt_B) <;> walk_at "x")
  | ((with_reducible apply xt_not) <;> walk_at "x")
  | ((with_reducible apply xt_and) <;> walk_at "x")
  | ((with_reducible apply xt_or) <;> walk_at "x")
  | ((with_reducible apply x_and) <;> walk_at "x")
  | ((with_reducible apply x_or) <;> walk_at "x")
  | ((with_reducible apply x_not) <;> walk_at "x")
  | ((with_reducible apply it_tup) <;> walk_at "x")
  | ((with_reducible apply it_lst) <;> walk_at "x")
  | ((with_reducible apply it_enum) <;> walk_at "x")
  | ((with_reducible apply it_zip) <;> walk_at "x")
  | ((with_reducible apply it_rev) <;> walk_at "x")
  | exact gt_name | exact gts_nil
  | ((with_reducible apply gt_tup) <;> walk_at "x")
  | ((with_reducible apply gt_lst) <;> walk_at "x")
  | ((with_reducible apply gts_cons) <;> walk_at "x")
  | (with_reducible apply x_b2; walk_at "x"; walk_at "x"; exact b_max2)
  | (with_reducible apply x_lenU; walk_at "x"; done)
  | (with_reducible apply x_lenL; walk_at "x"; done)
  | ((with_reducible apply x_sum) <;> walk_at "x")
  | ((with_reducible apply x_max) <;> walk_at "x")
  | ((with_reducible apply x_call) <;> walk_at "x")
  | ((with_reducible apply xt_tuple) <;> walk_at "x")
  | (with_reducible apply xl_listU; walk_at "x"; done)
  | (with_reducible apply xl_listL; walk_at "x"; done)
  | (with_reducible apply el_r; walk_at "y")
  | (with_reducible apply el_e; walk_at "y")
  | (with_reducible apply e_r; walk_at "x")
  | exact Nat.le_of_ble_eq_true rfl
  | exact List.cons_ne_nil _ _
  | rfl
  | (simp only [List.length_cons, List.length_nil]; decide +kernel)
  | (with_reducible intro _; walk_at "x")
  | walk_at "op")
local macro_rules | `(tactic| walk_at "y") => `(tactic| first
  | ((with_reducible apply xl_lst) <;> walk_at "x")
  | ((with_reducible apply xl_cat) <;> walk_at "x")
  | ((with_reducible apply xl_slL) <;> walk_at "x")
  | (with_reducible apply xl_listU; walk_at "x"; done)
  | (with_reducible apply xl_listL; walk_at "x"; done))
local macro_rules | `(tactic| walk_at "s") => `(tactic| first | exact Sub.nil | (apply Sub.cons; (first | exact SlLe.refl | exact SlLe.any | exact SlLe.frz | skip); walk_at "s") | skip)
local macro_rules | `(tactic| walk_at "d") => `(tactic| try dsimp only [List.set, wipeS])
local macro_rules | `(tactic| walk_at "go") => `(tactic| ((try dsimp only [cxOf]); simp only [st0, List.map_cons, List.map_nil, List.length_cons, List.length_nil, List.cons_append, List.nil_append, Nat.reduceAdd, Nat.reduceSub, List.replicate]))

theorem nucT_gridB (l : List (List FRow)) : nucT (gridB l) = .tup [.str "grid", .tup (l.map fun r => .tup (r.map rowT))] := by
  unfold gridB
  rw [nucT, FGrid.lines_of, List.map_map]
  congr 4
  apply List.map_congr_left
  intro r _
  show Dt.tup ((FCells.of r).rows.map rowT) = _
  rw [FCells.rows_of]
theorem rowT_one (r : FRow) : rowT (oneR r) = .tup ((r.items.map itemT).take 1) := by
  unfold rowT oneR
  rw [FRow.items_of, List.map_take]
theorem sy9_get {k : Int} (h0 : 0 ≤ k) (h : k < 9) : (sy9.map Dt.str)[k.toNat]? = some (.str (symB k)) := by
  have : k.toNat < sy9.length := by show k.toNat < 9; omega
  rw [List.getElem?_map]
  unfold symB
  rw [List.getD_eq_getElem?_getD, List.getElem?_eq_getElem this]
  rfl
theorem dl_get {v : Int} {x : Str} (h0 : 0 ≤ v) (h : v < 2) : ([.str x, .non] : List Dt)[v.toNat]? = some (optT (dlB v x)) := by
  have : v = 0 ∨ v = 1 := by omega
  rcases this with rfl | rfl <;> rfl
section
variable {P : Program} {w : World} {K : PySem.W.Frag} {mg : Str → Option Value} {base : Heap}
theorem x_sym9 {M : Md} {Γ : List Sl} {te : TE} {k : Int} (h : Nw.E M te Γ (.int k)) : Nw.E M (tTup (tCons (tC (.str "symbol")) (tCons (tOp (rIxT M.K) (tTup (tCons (tC (.str "x")) (tCons (tC (.str "+")) (tCons (tC (.str "=")) (tCons (tC (.str "2")) (tCons (tC (.str "@to")) (tCons (tC (.str "*")) (tCons (tC (.str "y")) (tCons (tC (.str "@sum")) (tCons (tC (.str ",")) tNil)))))))))) (tOp (rI (fun _ j => 0 < j) fun i j => .int (i % j)) te (tC (.int 9)))) tNil))) Γ (nucT (.sym (symB (k % 9)))) :=
  x_tup (ds := [.str "symbol", .str (symB (k % 9))]) (xa_cons x_str (xa_one (x_op (d1 := .tup (sy9.map Dt.str)) (x_tup (xa_cons x_str (xa_cons x_str (xa_cons x_str (xa_cons x_str (xa_cons x_str (xa_cons x_str (xa_cons x_str (xa_cons x_str (xa_one x_str))))))))) (Nat.le_of_ble_eq_true rfl)) (x_op h x_int (o_Ii (by decide))) (o_ixN (Int.emod_nonneg _ (by decide)) (sy9_get (Int.emod_nonneg _ (by decide)) (Int.emod_lt_of_pos _ (by decide))))))) (Nat.le_of_ble_eq_true rfl)
theorem scBItem : FnScope ["n", "at", "depth", "kind", "nucleus", "inner", "other", "more", "below", "above"] ["n", "at", "depth"] (defScope sBItem) := ⟨rfl, rfl, rfl, by decide +kernel, rfl, by decide +kernel, by decide +kernel⟩
theorem ok_bitem {f : Nat} {fa : Addr} {fd : FuncData} (F : Fun K "_law_item" "_law_item" sBItem fa fd) (T : TxtB mg) (C_law_row : Cal P w K mg base CX0 (2 * f) "_law_row" ["n", "at", "depth", "most"] (spRw K f)) : FnOk P w K mg base CX0 (2 * f + 1) fa fd ["n", "at", "depth"] (spX K (RItm f)) := by
  have sc := scBItem
  refine F.ok scBItem (fun vs H Q E h => ?_) (fun cdv A outer s H vs Q E hr h => ?_)
  · obtain ⟨_, ds, d, _, l, ⟨_, _, rfl, _⟩, _⟩ := h
    exact l.len
  · obtain ⟨A0, ds, d, av, l, ⟨ns, at', rfl, hn, f3, rfl⟩, k⟩ := h
    refine ⟨_, (pss_cons (ps_set (i := 3) sc.nd rfl (Or.inl rfl) (pe_op op_mod (pe_ix ix_list (pv 0) (pe_op op_mod (pv 1) (pe_callB (r := rLenQ K) call_lenK (by rfl) T.b_len PySem.boot_len (pa_cons (pv 0) pa_nil))) (fun _ _ => rfl)) (pe_ifExp (pt_cmpR op_lt (pv 2) pe_int (nomark _)) pe_int pe_int)))
  (pss_cons (ps_set (i := 4) sc.nd rfl (Or.inl rfl) (pe_tup (pa_cons pe_str (pa_cons (pe_ix ix_tup (pe_tup (pa_cons pe_str (pa_cons pe_str (pa_cons pe_str (pa_cons pe_str (pa_cons pe_str (pa_cons pe_str (pa_cons pe_str (pa_cons pe_str (pa_cons pe_str pa_nil)))))))))) (pe_op op_mod (pv 3) pe_int) (fun _ _ => rfl)) pa_nil))))
  (pss_cons (ps_if (pt_cmpR op_gt (pv 3) pe_int (nomark _))
  (pss_cons (ps_set (i := 5) sc.nd rfl (Or.inl rfl) (pe_cal C_law_row (hr.mono (by omega)) rfl pass0 (pa_cons (pv 0) (pa_cons (pe_op op_add (pv 1) pe_int) (pa_cons (pe_op op_add (pv 2) pe_int) (pa_cons pe_int pa_nil))))))
  (pss_cons (ps_set (i := 6) sc.nd rfl (Or.inl rfl) (pe_cal C_law_row (hr.mono (by omega)) rfl pass0 (pa_cons (pv 0) (pa_cons (pe_op op_add (pv 1) pe_int) (pa_cons (pe_op op_add (pv 2) pe_int) (pa_cons pe_int pa_nil))))))
  (pss_cons (ps_set (i := 7) sc.nd rfl (Or.inl rfl) (pe_tup (pa_cons (pe_tup (pa_cons pe_str (pa_cons (pv 5) pa_nil))) (pa_cons (pe_tup (pa_cons pe_str (pa_cons (pv 5) (pa_cons (pv 6) pa_nil)))) (pa_cons (pe_tup (pa_cons pe_str (pa_cons (pv 5) pa_nil))) (pa_cons (pe_tup (pa_cons pe_str (pa_cons (pe_ix ix_tup (pe_tup (pa_cons pe_str (pa_cons pe_non pa_nil))) (pe_op op_mod (pe_ix ix_list (pv 0) (pe_op op_mod (pe_op op_add (pv 1) pe_int) (pe_callB (r := rLenQ K) call_lenK (by rfl) T.b_len PySem.boot_len (pa_cons (pv 0) pa_nil))) (fun _ _ => rfl)) pe_int) (fun _ _ => rfl)) (pa_cons (pe_ix ix_tup (pe_tup (pa_cons pe_str (pa_cons pe_non pa_nil))) (pe_op op_mod (pe_op op_fdiv (pe_ix ix_list (pv 0) (pe_op op_mod (pv 1) (pe_callB (r := rLenQ K) call_lenK (by rfl) T.b_len PySem.boot_len (pa_cons (pv 0) pa_nil))) (fun _ _ => rfl)) pe_int) pe_int) (fun _ _ => rfl)) (pa_cons (pv 5) pa_nil))))) pa_nil))))))
  (pss_one (ps_set (i := 4) sc.nd rfl (Or.inl rfl) (pe_ix ix_tup (pe_op op_catT (pv 7) (pe_tup (pa_cons (pe_tup (pa_cons pe_str (pa_cons (pe_tup (pa_cons (pe_tup (pa_cons (pv 5) (pa_cons (pv 6) pa_nil))) pa_nil)) pa_nil))) (pa_cons (pe_tup (pa_cons pe_str (pa_cons (pe_tup (pa_cons (pe_tup (pa_cons (pv 5) pa_nil)) (pa_cons (pe_tup (pa_cons (pv 6) pa_nil)) pa_nil))) pa_nil))) (pa_cons (pe_tup (pa_cons pe_str (pa_cons (pe_tup (pa_cons (pe_tup (pa_cons (pv 5) (pa_cons (pv 6) pa_nil))) (pa_cons (pe_tup (pa_cons (pe_slice sl_tupA (pv 6) po_none (po_some pe_int)) (pa_cons (pe_slice sl_tupA (pv 5) po_none (po_some pe_int)) pa_nil))) pa_nil))) pa_nil))) pa_nil))))) (pe_op op_sub (pv 3) pe_int) (fun _ _ => rfl)))))))
  pss_nil)
  (pss_cons (ps_set (i := 8) sc.nd rfl (Or.inl rfl) (pe_ifExp (PW.pt (pw_and (pt_cmpR op_lt (pv 2) pe_int (nomark _)) (pw_and1 (pt_cmpR op_eq (pe_op op_mod (pe_ix ix_list (pv 0) (pe_op op_mod (pe_op op_add (pv 1) pe_int) (pe_callB (r := rLenQ K) call_lenK (by rfl) T.b_len PySem.boot_len (pa_cons (pv 0) pa_nil))) (fun _ _ => rfl)) pe_int) pe_int (nomark _))))) (pe_cal C_law_row (hr.mono (by omega)) rfl pass0 (pa_cons (pv 0) (pa_cons (pe_op op_add (pv 1) pe_int) (pa_cons (pe_op op_add (pv 2) pe_int) (pa_cons pe_int pa_nil))))) pe_non))
  (pss_cons (ps_set (i := 9) sc.nd rfl (Or.inl rfl) (pe_ifExp (PW.pt (pw_and (pt_cmpR op_lt (pv 2) pe_int (nomark _)) (pw_and1 (pt_cmpR op_eq (pe_op op_mod (pe_ix ix_list (pv 0) (pe_op op_mod (pe_op op_add (pv 1) pe_int) (pe_callB (r := rLenQ K) call_lenK (by rfl) T.b_len PySem.boot_len (pa_cons (pv 0) pa_nil))) (fun _ _ => rfl)) pe_int) pe_int (nomark _))))) (pe_cal C_law_row (hr.mono (by omega)) rfl pass0 (pa_cons (pv 0) (pa_cons (pe_op op_add (pv 1) pe_int) (pa_cons (pe_op op_add (pv 2) pe_int) (pa_cons pe_int pa_nil))))) pe_non))
  (pss_one (ps_ret (pe_tup (pa_cons (pv 4) (pa_cons (pv 8) (pa_cons (pv 9) pa_nil))))))))))), ?_⟩
    refine body_ok av l k ?_
    walk_at "go"
    have g0 := gB_nn hn
    cases f with
    | zero =>
      have dF : decide ((3 : Int) - ((0 : Nat) : Int) < 3) = false := by decide
      refine w_set (d := .int (gB ns at' % 9)) (x_op (x_gB hn rfl (x_var rfl)) (x_if (b := false) ((xt_test (x_op (x_var rfl) x_int o_I0b)).is dF) (fun z => by cases z) (fun _ => x_int)) (o_Ii (by decide))) ?_
      walk_at "d"
      have k0 : 0 ≤ gB ns at' % 9 := Int.emod_nonneg _ (by decide)
      have k1 : gB ns at' % 9 < 9 := Int.emod_lt_of_pos _ (by decide)
      refine w_set (x_sym9 (x_var rfl)) ?_
      walk_at "d"
      refine w_if (b := false) ((xt_test (x_op (x_var rfl) x_int o_I0b)).is (decide_eq_false (by omega))) (fun z => by cases z) (fun _ => w_next ?_)
      have no : ∀ {Γ : List Sl} {t : TT} {ta : TE}, Γ[2]? = some (.f (.int (3 - ((0 : Nat) : Int)))) → Nw.E (pure0 K) (tIf (tAnd (tTest (tOp (rI0 fun i j => .bl (decide (i < j))) (tVar 2) (tC (.int 3)))) t) ta (tC .non)) Γ .non := fun h => x_if (b := false) (xt_and (b := false) (c := true) ((xt_test (x_op (x_var h) x_int o_I0b)).is dF) fun z => by cases z) (fun z => by cases z) (fun _ => x_non)
      refine w_set (no rfl) ?_
      walk_at "d"
      refine w_set (no rfl) ?_
      walk_at "d"
      refine w_ret (x_tup (xa_cons (x_var rfl) (xa_cons (x_var rfl) (xa_one (x_var rfl)))) (Nat.le_of_ble_eq_true rfl)) ?_
      rw [itemB, itemT_eq]
      rfl
    | succ f =>
      have dT : decide ((3 : Int) - ((f + 1 : Nat) : Int) < 3) = true := decide_eq_true (by omega)
      have rc : ∀ {Γ : List Sl} {o m : Nat} {X : XK}, Γ[0]? = some (.f (.lst (ns.map Dt.int))) → Γ[1]? = some (.f (.int (at' : Int))) → Γ[2]? = some (.f (.int (3 - ((f + 1 : Nat) : Int)))) → m ≤ 10 →
          Nw.E (pure0 K) (tCall (spRw K (f + 1)) [] X (tCons (tVar 0) (tCons (tOp (rI0 fun i j => .int (i + j)) (tVar 1) (tC (.int (o : Int)))) (tCons (tOp (rI0 fun i j => .int (i + j)) (tVar 2) (tC (.int 1))) (tCons (tC (.int (m : Int))) tNil))))) Γ (rowT (rowB' ns (itemB ns f) (at' + o) m)) := fun {Γ o m X} h0 h1 h2 hm =>
        x_call (M := pure0 K) (R := RRw f) (xa_cons (x_var h0) (xa_cons (x_addN (x_var h1)) (xa_cons (x_op (x_var h2) x_int o_I0i) (xa_one x_int)))) ⟨ns, at' + o, m, by rw [show (3 : Int) - ((f + 1 : Nat) : Int) + 1 = 3 - (f : Int) by omega], hn, by omega, hm, rfl⟩
      refine w_set (d := .int (gB ns at' % 16)) (x_op (x_gB hn rfl (x_var rfl)) (x_if (b := true) ((xt_test (x_op (x_var rfl) x_int o_I0b)).is dT) (fun _ => x_int) (fun z => by cases z)) (o_Ii (by decide))) ?_
      walk_at "d"
      have k0 : 0 ≤ gB ns at' % 16 := Int.emod_nonneg _ (by decide)
      have k1 : gB ns at' % 16 < 16 := Int.emod_lt_of_pos _ (by decide)
      refine w_set (x_sym9 (x_var rfl)) ?_
      walk_at "d"
      have next : ∀ {Γ' : List Sl} {tz : TS} {P : Po}, W (pure0 K) tz [.f (.lst (ns.map Dt.int)), .f (.int (at' : Int)), .f (.int (3 - ((f + 1 : Nat) : Int))), .f (.int (gB ns at' % 16)), .f (nucT (if gB ns at' % 16 > 8 then nucB ns (rowB' ns (itemB ns f)) at' (gB ns at' % 16) else .sym (symB (gB ns at' % 16 % 9)))), .any, .any, .any, .any, .any] P → Sub Γ' [.f (.lst (ns.map Dt.int)), .f (.int (at' : Int)), .f (.int (3 - ((f + 1 : Nat) : Int))), .f (.int (gB ns at' % 16)), .f (nucT (if gB ns at' % 16 > 8 then nucB ns (rowB' ns (itemB ns f)) at' (gB ns at' % 16) else .sym (symB (gB ns at' % 16 % 9)))), .any, .any, .any, .any, .any] → W (pure0 K) tz Γ' P := fun h s => w_sub s h
      suffices fin : W (pure0 K) _ [.f (.lst (ns.map Dt.int)), .f (.int (at' : Int)), .f (.int (3 - ((f + 1 : Nat) : Int))), .f (.int (gB ns at' % 16)), .f (nucT (if gB ns at' % 16 > 8 then nucB ns (rowB' ns (itemB ns f)) at' (gB ns at' % 16) else .sym (symB (gB ns at' % 16 % 9)))), .any, .any, .any, .any, .any] _ by
        refine w_if (xt_test (x_op (x_var rfl) x_int o_I0b)) (fun c => ?_) (fun c => w_next (next fin ?_))
        · have c : (8 : Int) < gB ns at' % 16 := of_decide_eq_true c
          refine w_set (rc (o := 7) (m := 3) rfl rfl rfl (by decide)) ?_
          walk_at "d"
          refine w_set (rc (o := 12) (m := 2) rfl rfl rfl (by decide)) ?_
          walk_at "d"
          generalize hi : rowB' ns (itemB ns f) (at' + 7) 3 = inner at *
          generalize ho : rowB' ns (itemB ns f) (at' + 12) 2 = other at *
          have s2 : ∀ {a b : Dt}, Dt.tup [a, b] = .tup [a, b] := rfl
          refine w_set (d := .tup [nucT (.group inner), nucT (.frac inner other), nucT (.root inner), nucT (.fence (dlB (gB ns (at' + 4) % 2) "(") (dlB (gB ns at' / 16 % 2) ")") inner)]) (x_tup (xa_cons (x_tup (xa_cons x_str (xa_one (x_var rfl))) (Nat.le_of_ble_eq_true rfl)) (xa_cons (x_tup (xa_cons x_str (xa_cons (x_var rfl) (xa_one (x_var rfl)))) (Nat.le_of_ble_eq_true rfl)) (xa_cons (x_tup (xa_cons x_str (xa_one (x_var rfl))) (Nat.le_of_ble_eq_true rfl)) (xa_one (x_tup (xa_cons x_str (xa_cons ?_ (xa_cons ?_ (xa_one (x_var rfl))))) (Nat.le_of_ble_eq_true rfl)))))) (Nat.le_of_ble_eq_true rfl)) ?_
          · exact x_op (d1 := .tup [.str "(", .non]) (x_tup (xa_cons x_str (xa_one x_non)) (Nat.le_of_ble_eq_true rfl)) (x_op (x_gB hn rfl (x_addN (x_var rfl))) x_int (o_Ii (by decide))) (o_ixN (Int.emod_nonneg _ (by decide)) (dl_get (Int.emod_nonneg _ (by decide)) (Int.emod_lt_of_pos _ (by decide))))
          · exact x_op (d1 := .tup [.str ")", .non]) (x_tup (xa_cons x_str (xa_one x_non)) (Nat.le_of_ble_eq_true rfl)) (x_op (x_op (x_gB hn rfl (x_var rfl)) x_int (o_Ii ⟨by decide, by decide⟩)) x_int (o_Ii (by decide))) (o_ixN (Int.emod_nonneg _ (by decide)) (dl_get (Int.emod_nonneg _ (by decide)) (Int.emod_lt_of_pos _ (by decide))))
          walk_at "d"
          refine s_set (d := nucT (nucB ns (rowB' ns (itemB ns f)) at' (gB ns at' % 16))) (x_op (x_catT (ds := [nucT (.group inner), nucT (.frac inner other), nucT (.root inner), nucT (.fence (dlB (gB ns (at' + 4) % 2) "(") (dlB (gB ns at' / 16 % 2) ")") inner)]) (es := [nucT (gridB [[inner, other]]), nucT (gridB [[inner], [other]]), nucT (gridB [[inner, other], [oneR other, oneR inner]])]) (x_var rfl) (x_tup (xa_cons ?_ (xa_cons ?_ (xa_one ?_))) (Nat.le_of_ble_eq_true rfl)) (List.cons_ne_nil _ _) (List.cons_ne_nil _ _) (Nat.le_of_ble_eq_true rfl)) (x_op (x_var rfl) x_int o_I0i) (o_ixN (by omega) ?_)) (next fin ?_)
          · rw [nucT_gridB]
            exact x_tup (xa_cons x_str (xa_one (x_tup (xa_one (x_tup (xa_cons (x_var rfl) (xa_one (x_var rfl))) (Nat.le_of_ble_eq_true rfl))) (Nat.le_of_ble_eq_true rfl)))) (Nat.le_of_ble_eq_true rfl)
          · rw [nucT_gridB]
            exact x_tup (xa_cons x_str (xa_one (x_tup (xa_cons (x_tup (xa_one (x_var rfl)) (Nat.le_of_ble_eq_true rfl)) (xa_one (x_tup (xa_one (x_var rfl)) (Nat.le_of_ble_eq_true rfl)))) (Nat.le_of_ble_eq_true rfl)))) (Nat.le_of_ble_eq_true rfl)
          · rw [nucT_gridB]
            refine x_tup (xa_cons x_str (xa_one (x_tup (ds := [.tup [rowT inner, rowT other], .tup [rowT (oneR other), rowT (oneR inner)]]) (xa_cons (x_tup (xa_cons (x_var rfl) (xa_one (x_var rfl))) (Nat.le_of_ble_eq_true rfl)) (xa_one (x_tup (xa_cons ?_ (xa_one ?_)) (Nat.le_of_ble_eq_true rfl)))) (Nat.le_of_ble_eq_true rfl)))) (Nat.le_of_ble_eq_true rfl)
            · rw [rowT_one]
              exact x_sl1 (x_var rfl) xo_no (xo_some x_int)
            · rw [rowT_one]
              exact x_sl1 (x_var rfl) xo_no (xo_some x_int)
          · have : gB ns at' % 16 = 9 ∨ gB ns at' % 16 = 10 ∨ gB ns at' % 16 = 11 ∨ gB ns at' % 16 = 12 ∨ gB ns at' % 16 = 13 ∨ gB ns at' % 16 = 14 ∨ gB ns at' % 16 = 15 := by omega
            unfold nucB
            rw [hi, ho]
            rcases this with e | e | e | e | e | e | e <;> rw [e] <;> rfl
          · walk_at "d"
            rw [if_pos c]
            walk_at "s"
        · have c : ¬ (8 : Int) < gB ns at' % 16 := of_decide_eq_false c
          rw [if_neg c]
          walk_at "s"
      have scr : ∀ {Γ : List Sl} {o j m : Nat} {v : Int} {X : XK}, Γ[0]? = some (.f (.lst (ns.map Dt.int))) → Γ[1]? = some (.f (.int (at' : Int))) → Γ[2]? = some (.f (.int (3 - ((f + 1 : Nat) : Int)))) → m ≤ 10 → 0 < v →
          Nw.E (pure0 K) (tIf (tAnd (tTest (tOp (rI0 fun i j => .bl (decide (i < j))) (tVar 2) (tC (.int 3)))) (tTest (tOp rEq (tOp (rI (fun _ j => 0 < j) fun i j => .int (i % j)) (tOp (rIxL K) (tVar 0) (tOp (rI (fun _ j => 0 < j) fun i j => .int (i % j)) (tOp (rI0 fun i j => .int (i + j)) (tVar 1) (tC (.int (j : Int)))) (tCB (Mg.rLenQ K) (tCons (tVar 0) tNil)))) (tC (.int v))) (tC (.int 0))))) (tCall (spRw K (f + 1)) [] X (tCons (tVar 0) (tCons (tOp (rI0 fun i j => .int (i + j)) (tVar 1) (tC (.int (o : Int)))) (tCons (tOp (rI0 fun i j => .int (i + j)) (tVar 2) (tC (.int 1))) (tCons (tC (.int (m : Int))) tNil))))) (tC .non)) Γ (Mg.Nw.scrT (if gB ns (at' + j) % v = 0 then .yes (rowB' ns (itemB ns f) (at' + o) m) else .no)) := fun {Γ o j m v X} h0 h1 h2 hm hv => by
        refine x_if (b := decide (gB ns (at' + j) % v = 0)) ((xt_and (b := true) ((xt_test (x_op (x_var h2) x_int o_I0b)).is dT) fun _ => xt_test (x_op (x_op (x_gB (M := pure0 K) hn h0 (x_addN (x_var h1))) x_int (o_Ii hv)) x_int o_eqI)).is (Bool.true_and _)) (fun c => ?_) (fun c => ?_)
        · rw [if_pos (of_decide_eq_true c)]
          exact rc h0 h1 h2 hm
        · rw [if_neg (of_decide_eq_false c)]
          exact x_non
      refine w_set (scr (o := 19) (j := 2) (m := 2) (v := 9) rfl rfl rfl (by decide) (by decide)) ?_
      walk_at "d"
      refine w_set (scr (o := 23) (j := 3) (m := 2) (v := 7) rfl rfl rfl (by decide) (by decide)) ?_
      walk_at "d"
      refine w_ret (x_tup (xa_cons (x_var rfl) (xa_cons (x_var rfl) (xa_one (x_var rfl)))) (Nat.le_of_ble_eq_true rfl)) ?_
      rw [itemB, itemT_eq]
theorem scBRow : FnScope ["n", "at", "depth", "most", "k"] ["n", "at", "depth", "most"] (defScope sBRow) := ⟨rfl, rfl, rfl, by decide +kernel, rfl, by decide +kernel, by decide +kernel⟩
theorem ok_brow {f : Nat} {fa : Addr} {fd : FuncData} (F : Fun K "_law_row" "_law_row" sBRow fa fd) (T : TxtB mg) (C_law_item : Cal P w K mg base CX0 (2 * f + 1) "_law_item" ["n", "at", "depth"] (spX K (RItm f))) : FnOk P w K mg base CX0 (2 * f + 2) fa fd ["n", "at", "depth", "most"] (spX K (RRw f)) := by
  have sc := scBRow
  refine F.ok scBRow (fun vs H Q E h => ?_) (fun cdv A outer s H vs Q E hr h => ?_)
  · obtain ⟨_, ds, d, _, l, ⟨_, _, _, rfl, _⟩, _⟩ := h
    exact l.len
  · obtain ⟨A0, ds, d, av, l, ⟨ns, at', most, rfl, hn, f3, m10, rfl⟩, k⟩ := h
    refine ⟨_, (pss_one (ps_ret (pe_callTy (r := rTupleOf K) call_tupleK (by rfl) T.b_tuple PyProof.Rows.boot_tuple (pa_cons (pe_lc (own := [("k", 4)]) rfl sc.nd (pi_range1 rfl T.range (pa_cons (pe_op op_mod (pe_ix ix_list (pv 0) (pe_op op_mod (pe_op op_add (pv 1) pe_int) (pe_callB (r := rLenQ K) call_lenK (by rfl) T.b_len PySem.boot_len (pa_cons (pv 0) pa_nil))) (fun _ _ => rfl)) (pe_op op_add (pv 3) pe_int)) pa_nil)) (blkOk_by (own := [("k", 4)]) (N := ["n", "at", "depth", "most", "k"]) (sc := defScope sBRow) (by decide +kernel)) (fun _ _ _ _ _ => (pg_name (i := 4) sc.nd rfl (Or.inl rfl))) (fun _ _ _ _ _ => pts_nil) (fun _ _ _ _ _ => (pe_cal C_law_item (hr.mono (by omega)) rfl pass0 (pa_cons (pv 0) (pa_cons (pe_op op_add (pe_op op_add (pv 1) pe_int) (pe_op op_mul pe_int (pv 4))) (pa_cons (pv 2) pa_nil)))))) pa_nil)))), ?_⟩
    refine body_ok av l k ?_
    walk_at "go"
    have c0 : 0 ≤ gB ns (at' + 4) % ((most : Int) + 1) := Int.emod_nonneg _ (by omega)
    have c1 : gB ns (at' + 4) % ((most : Int) + 1) < (most : Int) + 1 := Int.emod_lt_of_pos _ (by omega)
    have cn : ((cntB ns at' most : Nat) : Int) = gB ns (at' + 4) % ((most : Int) + 1) := Int.toNat_of_nonneg c0
    refine w_ret (xt_tuple (el_r (xl_lc (List.range (cntB ns at' most)) (fun i : Nat => Dt.int (i : Int)) (fun i => itemT (itemB ns f (at' + 1 + 5 * i))) (it_rng1 ((x_op (x_gB (M := pure0 K) hn rfl (x_addN (x_var rfl))) (x_op (x_var rfl) x_int o_I0i) (o_Ii (by omega))).is (by rw [cn])) (by omega)) (by rw [List.length_range]; omega) rfl fun i hi => ⟨_, _, gt_name, rfl, x_call (M := pure0 K) (xa_cons (x_var rfl) (xa_cons ((x_op (x_op (x_var rfl) x_int o_I0i) (x_op x_int (x_var rfl) (o_Ii (.inl ⟨by decide, by decide⟩))) o_I0i).is (d1 := .int ((at' + 1 + 5 * i : Nat) : Int)) (by congr 1)) (xa_one (x_var rfl)))) ⟨ns, at' + 1 + 5 * i, rfl, hn, f3, rfl⟩⟩))) ?_
    show Dt.tup _ = Dt.tup _
    unfold rowB'
    rw [FRow.items_of, List.map_map]
    rfl
/-- rows and items, level by level -/
theorem brow_all {f1 f2 : Addr} {d1 d2 : FuncData} (F1 : Fun K "_law_row" "_law_row" sBRow f1 d1) (F2 : Fun K "_law_item" "_law_item" sBItem f2 d2) (T : TxtB mg) (c1 : Abk K mg "_law_row" f1 d1 ["n", "at", "depth", "most"]) (c2 : Abk K mg "_law_item" f2 d2 ["n", "at", "depth"]) : ∀ f, Cal P w K mg base CX0 (2 * f) "_law_row" ["n", "at", "depth", "most"] (spRw K f) := by
  intro f
  induction f with
  | zero => exact ⟨f1, d1, FnOk.vac fun vs H Q E h => h.elim, c1.1, c1.2.1, c1.2.2⟩
  | succ f ih => exact ⟨f1, d1, ok_brow F1 T ⟨f2, d2, ok_bitem F2 T ih, c2.1, c2.2.1, c2.2.2⟩, c1.1, c1.2.1, c1.2.2⟩
end
end Mg.Nw

set_option Elab.async false
set_option linter.all false
set_option maxRecDepth 100000
set_option maxHeartbeats 1000000
namespace Mg.Nw
open PySem PySem.Spec PyProof.Rows L2
local macro_rules | `(tactic| walk_at "op") => `(tactic| first | exact o_I0i | exact o_I0b | exact o_ixT rfl | exact o_eqS | exact o_neS | exact o_eqI | exact o_neI | exact o_isN rfl | exact o_notN rfl | exact o_Ii (.inl ⟨by decide, by decide⟩) | exact o_Ii (.inr ⟨by decide, by decide⟩) | exact o_Ii ⟨by decide, by decide⟩ | skip)
local macro_rules | `(tactic| walk_at "x") => `(tactic| first
  | exact x_int | exact x_str | exact x_bl | exact x_non | exact xa_nil | exact xo_no | exact x_var rfl | exact r_var rfl | exact xt_yes
  | ((with_reducible apply xa_cons) <;> walk_at "x")
  | ((with_reducible apply x_op) <;> walk_at "x")
  | ((with_reducible apply x_ixL) <;> walk_at "x")
  | ((with_reducible apply x_tup) <;> walk_at "x")
  | ((with_reducible apply xl_lst) <;> walk_at "x")
  | ((with_reducible apply xl_cat) <;> walk_at "x")
  | ((with_reducible apply x_catT) <;> walk_at "x")
  | ((with_reducible apply x_slT) <;> walk_at "x")
  | ((with_reducible apply xl_slL) <;> walk_at "x")
  | ((with_reducible apply xo_some) <;> walk_at "x")
  | ((with_reducible apply xt_test) <;> walk_at "x")
  | ((with_reducible apply xt_B) <;> walk_at "x")
  | ((with_reducible apply xt_not) <;> walk_at "x")
  | ((with_reducible apply xt_and) <;> walk_at "x")
  | ((with_reducible apply xt_or) <;> walk_at "x")
  | ((with_reducible apply x_and) <;> walk_at "x")
  | ((with_reducible apply x_or) <;> walk_at "x")
  | ((with_reducible apply x_not) <;> walk_at "x")
  | ((with_reducible apply it_tup) <;> walk_at "x")
  | ((with_reducible apply it_lst) <;> walk_at "x")
  | ((with_reducible apply it_enum) <;> walk_at "x")
  | ((with_reducible apply it_zip) <;> walk_at "x")
  | ((with_reducible apply it_rev) <;> walk_at "x")
  | exact gt_name | exact gts_nil
  | ((with_reducible apply gt_tup) <;> walk_at "x")
  | ((with_reducible apply gt_lst) <;> walk_at "x")
  | ((with_reducible apply gts_cons) <;> walk_at "x")
  | (with_reducible apply x_b2; walk_at "x"; walk_at "x"; exact b_max2)
  | (with_reducible apply x_lenU; walk_at "x"; done)
  | (with_reducible apply x_lenL; walk_at "x"; done)
  | ((with_reducible apply x_sum) <;> walk_at "x")
  | ((with_reducible apply x_max) <;> walk_at "x")
  | ((with_reducible apply x_call) <;> walk_at "x")
  | ((with_reducible apply xt_tuple) <;> walk_at "x")
  | (with_reducible apply xl_listU; walk_at "x"; done)
  | (with_reducible apply xl_listL; walk_at "x"; done)
  | (with_reducible apply el_r; walk_at "y")
  | (with_reducible apply el_e; walk_at "y")
  | (with_reducible apply e_r; walk_at "x")
  | exact Nat.le_of_ble_eq_true rfl
  | exact List.cons_ne_nil _ _
  | rfl
  | (simp only [List.length_cons, List.length_nil]; decide +kernel)
  | (with_reducible intro _; walk_at "x")
  | walk_at "op")
local macro_rules | `(tactic| walk_at "y") => `(tactic| first
  | ((with_reducible apply xl_lst) <;> walk_at "x")
  | ((with_reducible apply xl_cat) <;> walk_at "x")
  | ((with_reducible apply xl_slL) <;> walk_at "x")
  | (with_reducible apply xl_listU; walk_at "x"; done)
  | (with_reducible apply xl_listL; walk_at "x"; done))
local macro_rules | `(tactic| walk_at "s") => `(tactic| first | exact Sub.nil | (apply Sub.cons; (first | exact SlLe.refl | exact SlLe.any | exact SlLe.frz | skip); walk_at "s") | skip)
local macro_rules | `(tactic| walk_at "d") => `(tactic| try dsimp only [List.set, wipeS])
local macro_rules | `(tactic| walk_at "go") => `(tactic| ((try dsimp only [cxOf]); simp only [st0, List.map_cons, List.map_nil, List.length_cons, List.length_nil, List.cons_append, List.nil_append, Nat.reduceAdd, Nat.reduceSub, List.replicate]))

/-! what is true of drawn formulas -/
def nmB (x : Str) : Prop := x ∈ sy9
def delB (o : Option Str) : Prop := o = none ∨ o = some "(" ∨ o = some ")"
theorem symB_nm (k : Int) : nmB (symB k) := by
  unfold symB nmB
  rw [List.getD_eq_getElem?_getD]
  cases e : sy9[k.toNat]? with
  | none => exact (by decide +kernel : ("x" : Str) ∈ sy9)
  | some y => exact List.mem_of_getElem? e
theorem of_good {l : List FItem} (h : ∀ i ∈ l, i.good nmB delB) : (FRow.of l).good nmB delB := (FRow.good_iff _ _).mpr fun i hi => h i (by rw [FRow.items_of] at hi; exact hi)
theorem one_good {r : FRow} (h : r.good nmB delB) : (oneR r).good nmB delB := of_good fun i hi => (FRow.good_iff _ _).mp h i (List.mem_of_mem_take hi)
theorem dl_good {v : Int} {x : Str} (h : x = "(" ∨ x = ")") : delB (dlB v x) := by
  unfold dlB
  split
  · rcases h with rfl | rfl
    · exact .inr (.inl rfl)
    · exact .inr (.inr rfl)
  · exact .inl rfl
theorem cells_good {l : List FRow} (h : ∀ r ∈ l, r.good nmB delB) : (FCells.of l).good nmB delB := (FCells.good_iff _ _).mpr fun r hr => h r (by rw [FCells.rows_of] at hr; exact hr)
theorem grid_good {l : List (List FRow)} {m : Nat} (h : ∀ c ∈ l, ∀ r ∈ c, r.good nmB delB) (h1 : 1 ≤ l.length ∧ l.length ≤ 6) (h2 : 1 ≤ m ∧ m ≤ 6) (h3 : ∀ c ∈ l, c.length = m) : (gridB l).good nmB delB := by
  refine ⟨(FGrid.good_iff _ _).mpr fun c hc => ?_, ?_, m, h2.1, h2.2, fun c hc => ?_⟩
  · rw [FGrid.lines_of] at hc
    obtain ⟨x, hx, rfl⟩ := List.mem_map.mp hc
    exact cells_good (h x hx)
  · rw [FGrid.lines_of, List.length_map]
    exact h1
  · rw [FGrid.lines_of] at hc
    obtain ⟨x, hx, rfl⟩ := List.mem_map.mp hc
    rw [FCells.rows_of]
    exact h3 x hx
section
variable {ns : List Int} {row : Nat → Nat → FRow} {at' : Nat} {kind : Int}
theorem nuc_cases (P : FNuc → Prop) (h1 : ∀ i : FRow, P (.group i)) (h2 : ∀ i o : FRow, P (.frac i o)) : True := trivial
theorem nucB_good (h : ∀ a m, (row a m).good nmB delB) : (nucB ns row at' kind).good nmB delB := by
  have hi := h (at' + 7) 3
  have ho := h (at' + 12) 2
  unfold nucB
  split
  · exact hi
  split
  · exact ⟨hi, ho⟩
  split
  · exact hi
  split
  · exact ⟨dl_good (.inl rfl), dl_good (.inr rfl), hi⟩
  split
  · refine grid_good (m := 2) ?_ ⟨Nat.le_of_ble_eq_true rfl, Nat.le_of_ble_eq_true rfl⟩ ⟨by decide, by decide⟩ (by simp)
    simp only [List.mem_cons, List.not_mem_nil, or_false, forall_eq, forall_eq_or_imp]
    exact ⟨hi, ho⟩
  split
  · refine grid_good (m := 1) ?_ ⟨Nat.le_of_ble_eq_true rfl, Nat.le_of_ble_eq_true rfl⟩ ⟨by decide, by decide⟩ (by simp)
    simp only [List.mem_cons, List.not_mem_nil, or_false, forall_eq, forall_eq_or_imp]
    exact ⟨hi, ho⟩
  · refine grid_good (m := 2) ?_ ⟨Nat.le_of_ble_eq_true rfl, Nat.le_of_ble_eq_true rfl⟩ ⟨by decide, by decide⟩ (by simp)
    simp only [List.mem_cons, List.not_mem_nil, or_false, forall_eq, forall_eq_or_imp]
    exact ⟨⟨hi, ho⟩, one_good ho, one_good hi⟩
theorem rowB_good {it : Nat → FItem} (h : ∀ a, (it a).good nmB delB) (a m : Nat) : (rowB' ns it a m).good nmB delB := of_good fun i hi => by
  obtain ⟨k, _, rfl⟩ := List.mem_map.mp hi
  exact h _
theorem itemB_good : ∀ (f a : Nat), (itemB ns f a).good nmB delB
  | 0, a => ⟨symB_nm _, trivial, trivial⟩
  | f + 1, a => by
    have hr := rowB_good (ns := ns) (it := itemB ns f) (itemB_good f)
    rw [itemB]
    refine ⟨?_, ?_, ?_⟩
    · split
      · exact nucB_good hr
      · exact symB_nm _
    · split
      · exact hr _ _
      · trivial
    · split
      · exact hr _ _
      · trivial
/-! how deep, how long -/
theorem of_dep {l : List FItem} {n : Nat} (h : ∀ i ∈ l, i.dep ≤ n) : (FRow.of l).dep ≤ n := FRow.dep_le.mpr fun i hi => h i (by rw [FRow.items_of] at hi; exact hi)
theorem one_dep {r : FRow} {n : Nat} (h : r.dep ≤ n) : (oneR r).dep ≤ n := of_dep fun i hi => FRow.dep_le.mp h i (List.mem_of_mem_take hi)
theorem grid_dep {l : List (List FRow)} {n : Nat} (h : ∀ c ∈ l, ∀ r ∈ c, r.dep ≤ n) : (gridB l).dep ≤ n + 1 := by
  refine FNuc.dep_le.mpr fun r hr => ?_
  have hr : r ∈ (FGrid.of (l.map FCells.of)).all := hr
  rw [FGrid.all_eq, FGrid.lines_of] at hr
  obtain ⟨c, hc, hr⟩ := List.mem_flatMap.mp hr
  obtain ⟨x, hx, rfl⟩ := List.mem_map.mp hc
  rw [FCells.rows_of] at hr
  exact Nat.succ_le_succ (h x hx r hr)
theorem nucB_dep {n : Nat} (h : ∀ a m, (row a m).dep ≤ n) : (nucB ns row at' kind).dep ≤ n + 1 := by
  have hi := h (at' + 7) 3
  have ho := h (at' + 12) 2
  unfold nucB
  split
  · exact Nat.succ_le_succ hi
  split
  · exact Nat.max_le.mpr ⟨Nat.succ_le_succ hi, Nat.succ_le_succ ho⟩
  split
  · exact Nat.succ_le_succ hi
  split
  · exact Nat.succ_le_succ hi
  split
  · refine grid_dep ?_
    simp only [List.mem_cons, List.not_mem_nil, or_false, forall_eq, forall_eq_or_imp]
    exact ⟨hi, ho⟩
  split
  · refine grid_dep ?_
    simp only [List.mem_cons, List.not_mem_nil, or_false, forall_eq, forall_eq_or_imp]
    exact ⟨hi, ho⟩
  · refine grid_dep ?_
    simp only [List.mem_cons, List.not_mem_nil, or_false, forall_eq, forall_eq_or_imp]
    exact ⟨⟨hi, ho⟩, one_dep ho, one_dep hi⟩
theorem rowB_dep {it : Nat → FItem} {n : Nat} (h : ∀ a, (it a).dep ≤ n) (a m : Nat) : (rowB' ns it a m).dep ≤ n := of_dep fun i hi => by
  obtain ⟨k, _, rfl⟩ := List.mem_map.mp hi
  exact h _
theorem itemB_dep : ∀ (f a : Nat), (itemB ns f a).dep ≤ f
  | 0, a => Nat.le_refl _
  | f + 1, a => by
    have hr := rowB_dep (ns := ns) (it := itemB ns f) (itemB_dep f)
    rw [itemB]
    refine Nat.max_le.mpr ⟨?_, Nat.max_le.mpr ⟨?_, ?_⟩⟩
    · split
      · exact nucB_dep hr
      · exact Nat.zero_le _
    · split
      · exact Nat.succ_le_succ (hr _ _)
      · exact Nat.zero_le _
    · split
      · exact Nat.succ_le_succ (hr _ _)
      · exact Nat.zero_le _
def wI : Nat → Nat
  | 0 => 1
  | f + 1 => 16 + 14 * wI f
theorem flat_words {l : List FItem} {n : Nat} (h : ∀ i ∈ l, i.words.length ≤ n) : (FRow.of l).words.length ≤ l.length * n := by
  induction l with
  | nil => exact Nat.zero_le _
  | cons i l ih =>
    rw [FRow.of, FRow.words, List.length_append, List.length_cons, Nat.succ_mul]
    have := h i List.mem_cons_self
    have := ih fun j hj => h j (List.mem_cons_of_mem _ hj)
    omega
theorem one_words (r : FRow) : (oneR r).words.length ≤ r.words.length := by
  cases r with
  | nil => exact Nat.le_refl _
  | cons i r =>
    show (i.words ++ []).length ≤ (i.words ++ r.words).length
    simp
theorem nucB_words {w : Nat} (h : ∀ a m, (row a m).words.length ≤ m * w) : (nucB ns row at' kind).words.length ≤ 10 * w + 10 := by
  have hi := h (at' + 7) 3
  have ho := h (at' + 12) 2
  have oi := one_words (row (at' + 7) 3)
  have oo := one_words (row (at' + 12) 2)
  unfold nucB
  split
  · simp [FNuc.words]; omega
  split
  · simp [FNuc.words]; omega
  split
  · simp [FNuc.words]; omega
  split
  · simp [FNuc.words]; omega
  split
  · simp [gridB, FNuc.words, FGrid.of, FCells.of, FGrid.words, FCells.words]; omega
  split
  · simp [gridB, FNuc.words, FGrid.of, FCells.of, FGrid.words, FCells.words]; omega
  · simp [gridB, FNuc.words, FGrid.of, FCells.of, FGrid.words, FCells.words]; omega
end
theorem cntB_le {ns : List Int} (a m : Nat) : cntB ns a m ≤ m := by
  unfold cntB
  have := Int.emod_lt_of_pos (gB ns (a + 4)) (show (0 : Int) < (m : Int) + 1 by omega)
  omega
theorem rowB_words {ns : List Int} {it : Nat → FItem} {w : Nat} (h : ∀ a, (it a).words.length ≤ w) (a m : Nat) : (rowB' ns it a m).words.length ≤ m * w := by
  unfold rowB'
  refine Nat.le_trans (flat_words (n := w) fun i hi => ?_) ?_
  · obtain ⟨k, _, rfl⟩ := List.mem_map.mp hi
    exact h _
  · rw [List.length_map, List.length_range]
    exact Nat.mul_le_mul_right _ (cntB_le a m)
theorem itemB_words {ns : List Int} : ∀ (f a : Nat), (itemB ns f a).words.length ≤ wI f
  | 0, a => Nat.le_refl _
  | f + 1, a => by
    have hr := rowB_words (ns := ns) (it := itemB ns f) (itemB_words f)
    have h1 := hr (a + 19) 2
    have h2 := hr (a + 23) 2
    have h0 : (if gB ns a % 16 > 8 then nucB ns (rowB' ns (itemB ns f)) a (gB ns a % 16) else .sym (symB (gB ns a % 16 % 9))).words.length ≤ 10 * wI f + 10 := by
      split
      · exact nucB_words hr
      · show 1 ≤ _
        omega
    rw [itemB, FItem.words, List.length_append, List.length_append, wI]
    have s1 : ((if gB ns (a + 2) % 9 = 0 then FScr.yes (rowB' ns (itemB ns f) (a + 19) 2) else .no).words "_").length ≤ 3 + 2 * wI f := by
      split
      · simp [FScr.words]; omega
      · exact Nat.zero_le _
    have s2 : ((if gB ns (a + 3) % 7 = 0 then FScr.yes (rowB' ns (itemB ns f) (a + 23) 2) else .no).words "^").length ≤ 3 + 2 * wI f := by
      split
      · simp [FScr.words]; omega
      · exact Nat.zero_le _
    omega
/-- a formula of this family -/
structure FmB (r : FRow) : Prop where
  g : r.good nmB delB
  dep : r.dep ≤ 3
  wl : r.words.length ≤ 70000
  it : r.items.length ≤ 1000
theorem FmB.one {r : FRow} (h : FmB r) : FmB (oneR r) := ⟨one_good h.g, one_dep h.dep, Nat.le_trans (one_words r) h.wl, by
  unfold oneR
  rw [FRow.items_of, List.length_take]
  omega⟩
theorem FmB.nil : FmB .nil := ⟨trivial, Nat.zero_le _, Nat.zero_le _, Nat.zero_le _⟩
theorem rowB_fm {ns : List Int} (m : Nat) (hm : m ≤ 10) : FmB (rowB' ns (itemB ns 3) 0 m) := by
  refine ⟨rowB_good (itemB_good 3) _ _, rowB_dep (itemB_dep 3) _ _, Nat.le_trans (rowB_words (itemB_words 3) 0 m) (Nat.le_trans (Nat.mul_le_mul_right _ hm) (by decide)), ?_⟩
  unfold rowB'
  rw [FRow.items_of, List.length_map, List.length_range]
  have := cntB_le (ns := ns) 0 m
  omega
/-! _law_drawn -/
def RDrawn : List Dt → Dt → Prop := fun ds d => ∃ (c : Int) (m : Nat) (r : FRow), ds = [.int c, .int (m : Int)] ∧ m ≤ 10 ∧ FmB r ∧ d = rowT r
section
variable {P : Program} {w : World} {K : PySem.W.Frag} {mg : Str → Option Value} {base : Heap} {M : Md} {Γ : List Sl} {ta te tb : TE} {X : XK}
theorem scBDrawn : FnScope ["cell", "most"] ["cell", "most"] (defScope sBDrawn) := ⟨rfl, rfl, rfl, by decide +kernel, rfl, by decide +kernel, by decide +kernel⟩
theorem ok_bdrawn {f : Addr} {fd : FuncData} (F : Fun K "_law_drawn" "_law_drawn" sBDrawn f fd) (T : TxtB mg) (C_law_row : Cal P w K mg base CX0 8 "_law_row" ["n", "at", "depth", "most"] (spX K (RRw 3))) (C_law_draws : Cal P w K mg base CX0 1 "_law_draws" ["cell", "count"] (spN K RDrw)) : FnOk P w K mg base CX0 9 f fd ["cell", "most"] (spN K RDrawn) := by
  have sc := scBDrawn
  refine F.ok scBDrawn (fun vs H Q E h => ?_) (fun cdv A outer s H vs Q E hr h => ?_)
  · obtain ⟨_, ds, _, l, ⟨d, _, _, _, rfl, _⟩, _⟩ := h
    exact l.len
  · obtain ⟨A0, ds, av, l, ⟨d0, c, m, r0, rfl, m10, _⟩, k⟩ := h
    refine ⟨_, (pss_one (ps_ret (pe_cal C_law_row (hr.mono (by omega)) rfl pass0 (pa_cons (pe_cal C_law_draws (hr.mono (by omega)) rfl pass0 (pa_cons (pe_callTy call_int1 (by rfl) T.b_int (by decide +kernel) (pa_cons (pv 0) pa_nil)) (pa_cons pe_int pa_nil))) (pa_cons pe_int (pa_cons pe_int (pa_cons (pv 1) pa_nil))))))), ?_⟩
    refine body_okN av l k ?_
    walk_at "go"
    refine w_retN2 (en_call (R := fun d => ∃ r, d = rowT r ∧ FmB r) (ena_cons (en_ncall (RX := RDrw) (ena_cons (en_of (x_intI (x_var rfl))) (ena_cons (en_of x_int) ena_nil)) ?_) (ena_cons (en_of x_int) (ena_cons (en_of x_int) (ena_cons (en_of (x_var rfl)) ena_nil)))) ?_) fun d hd => ?_
    · rintro ds ⟨_, _, rfl, rfl, _, _, rfl, rfl, rfl⟩
      exact ⟨_, c, 59, List.replicate 59 0, rfl, by decide, List.length_replicate, fun x hx => by rw [List.eq_of_mem_replicate hx]; exact Int.le_refl _, rfl⟩
    · rintro ds ⟨_, _, rfl, ⟨_, ⟨_, _, rfl, rfl, _, _, rfl, rfl, rfl⟩, c', n', ns, e, n1, n2, n3, rfl⟩, _, _, rfl, rfl, _, _, rfl, rfl, _, _, rfl, rfl, rfl⟩
      have en : n' = 59 := by
        injection e with _ e
        injection e with e _
        injection e with e
        omega
      subst en
      exact ⟨_, ⟨ns, 0, m, rfl, ⟨n2, n3⟩, Nat.le_refl _, m10, rfl⟩, _, rfl, rowB_fm m m10⟩
    · obtain ⟨r, rfl, fm⟩ := hd
      exact ⟨c, m, r, rfl, m10, fm, rfl⟩
end
/-! _law_pieces -/
abbrev sBBraced : Stmt := top 53
abbrev sBNuc : Stmt := top 54
abbrev sBPieces : Stmt := top 55
def RPc (n : Nat) : List Dt → Dt → Prop := fun ds d => ∃ r : FRow, ds = [rowT r] ∧ r.good nmB delB ∧ r.dep < n ∧ r.words.length ≤ 100000 ∧ d = .lst (r.words.map Dt.str)
def RBr (n : Nat) : List Dt → Dt → Prop := fun ds d => ∃ r : FRow, ds = [rowT r] ∧ r.good nmB delB ∧ r.dep < n ∧ r.words.length ≤ 100000 ∧ d = .lst ((braceW r).map Dt.str)
def RNu (n : Nat) : List Dt → Dt → Prop := fun ds d => ∃ m : FNuc, ds = [nucT m] ∧ m.good nmB delB ∧ m.dep ≤ n ∧ m.words.length ≤ 100000 ∧ d = .lst (m.words.map Dt.str)
section
variable {P : Program} {w : World} {K : PySem.W.Frag} {mg : Str → Option Value} {base : Heap} {M : Md} {Γ : List Sl} {ta te tb : TE} {X : XK}
theorem map_str1 (x : Str) : ([x] : List Str).map Dt.str = [.str x] := rfl
theorem xl_strs1 {x : Str} : EL M (tLst (tCons (tC (.str x)) tNil)) Γ ([x].map Dt.str) := xl_lst (xa_one x_str) (Nat.le_of_ble_eq_true rfl)
theorem xl_catS {ws us : List Str} (ha : ER M ta Γ (ws.map Dt.str)) (hb : ER M tb Γ (us.map Dt.str)) (hl : ws.length + us.length ≤ 1000000) : EL M (tOp rCat ta tb) Γ ((ws ++ us).map Dt.str) := (xl_cat ha hb (by rw [List.length_map, List.length_map]; exact hl)).is List.map_append.symm
theorem scBBraced : FnScope ["row"] ["row"] (defScope sBBraced) := ⟨rfl, rfl, rfl, by decide +kernel, rfl, by decide +kernel, by decide +kernel⟩
theorem ok_bbraced {n : Nat} {f : Addr} {fd : FuncData} (F : Fun K "_law_braced" "_law_braced" sBBraced f fd) (C_law_pieces : Cal P w K mg base CX0 (3 * n) "_law_pieces" ["row"] (spX K (RPc n))) : FnOk P w K mg base CX0 (3 * n + 1) f fd ["row"] (spX K (RBr n)) := by
  have sc := scBBraced
  refine F.ok scBBraced (fun vs H Q E h => ?_) (fun cdv A outer s H vs Q E hr h => ?_)
  · obtain ⟨_, ds, d, _, l, ⟨_, rfl, _⟩, _⟩ := h
    exact l.len
  · obtain ⟨A0, ds, d, av, l, ⟨r, rfl, g, dep, wl, rfl⟩, k⟩ := h
    refine ⟨_, (pss_one (ps_ret (pe_op op_cat (pe_op op_cat (pe_lst (pa_cons pe_str pa_nil)) (pe_cal C_law_pieces (hr.mono (by omega)) rfl pass0 (pa_cons (pv 0) pa_nil))) (pe_lst (pa_cons pe_str pa_nil))))), ?_⟩
    refine body_ok av l k ?_
    walk_at "go"
    refine w_ret (el_e (xl_catS (ws := "{" :: r.words) (us := ["}"]) (el_r (xl_catS (ws := ["{"]) (us := r.words) (el_r xl_strs1) (e_r (x_call (xa_one (x_var rfl)) ⟨r, rfl, g, dep, wl, rfl⟩)) (by show 1 + _ ≤ _; omega))) (el_r xl_strs1) (by show r.words.length + 1 + 1 ≤ _; omega))) rfl
theorem x_dot {o : Option Str} (h : Nw.E M ta Γ (optT o)) (g : delB o) : Nw.E M (tOrT M.K ta (tC (.str "."))) Γ (.str (delimW o)) := by
  rcases g with rfl | rfl | rfl
  · exact x_orT h (fun c => absurd rfl c) fun _ => x_str
  · exact x_orT h (fun _ => ⟨⟨"(", rfl, by decide +kernel, by decide +kernel⟩, rfl⟩) fun c => by cases c
  · exact x_orT h (fun _ => ⟨⟨")", rfl, by decide +kernel, by decide +kernel⟩, rfl⟩) fun c => by cases c
theorem scBNuc : FnScope ["nucleus", "pieces", "i", "j"] ["nucleus"] (defScope sBNuc) := ⟨rfl, rfl, rfl, by decide +kernel, rfl, by decide +kernel, by decide +kernel⟩
def kindW : FNuc → Str
  | .sym _ => "symbol"
  | .group _ => "group"
  | .frac _ _ => "frac"
  | .root _ => "root"
  | .fence _ _ _ => "fence"
  | .grid _ => "grid"
theorem nuc_head (m : FNuc) : ∃ ds, nucT m = .tup (.str (kindW m) :: ds) := by
  cases m <;> exact ⟨_, rfl⟩
theorem kd {m : FNuc} {w y : Str} {b : Bool} (e : kindW m = w) (h : decide (w = y) = b) : decide (kindW m = y) = b := by rw [e]; exact h
theorem ok_bnuc {n : Nat} {f : Addr} {fd : FuncData} (F : Fun K "_law_nucleus" "_law_nucleus" sBNuc f fd) (T : TxtB mg) (C_law_pieces : Cal P w K mg base CX0 (3 * n) "_law_pieces" ["row"] (spX K (RPc n))) (C_law_braced : Cal P w K mg base CX0 (3 * n + 1) "_law_braced" ["row"] (spX K (RBr n))) : FnOk P w K mg base CX0 (3 * n + 2) f fd ["nucleus"] (spX K (RNu n)) := by
  have sc := scBNuc
  refine F.ok scBNuc (fun vs H Q E h => ?_) (fun cdv A outer s H vs Q E hr h => ?_)
  · obtain ⟨_, ds, d, _, l, ⟨_, rfl, _⟩, _⟩ := h
    exact l.len
  · obtain ⟨A0, ds, d, av, l, ⟨m, rfl, g, dep, wl, rfl⟩, k⟩ := h
    refine ⟨_, (pss_cons (ps_if (pt_cmpR op_eq (pe_ix ix_tup (pv 0) pe_int (fun _ _ => rfl)) pe_str (nomark _))
  (pss_one (ps_ret (pe_lst (pa_cons (pe_ix ix_tup (pv 0) pe_int (fun _ _ => rfl)) pa_nil))))
  pss_nil)
  (pss_cons (ps_if (pt_cmpR op_eq (pe_ix ix_tup (pv 0) pe_int (fun _ _ => rfl)) pe_str (nomark _))
  (pss_one (ps_ret (pe_cal C_law_braced (hr.mono (by omega)) rfl pass0 (pa_cons (pe_ix ix_tup (pv 0) pe_int (fun _ _ => rfl)) pa_nil))))
  pss_nil)
  (pss_cons (ps_if (pt_cmpR op_eq (pe_ix ix_tup (pv 0) pe_int (fun _ _ => rfl)) pe_str (nomark _))
  (pss_one (ps_ret (pe_op op_cat (pe_op op_cat (pe_lst (pa_cons pe_str pa_nil)) (pe_cal C_law_braced (hr.mono (by omega)) rfl pass0 (pa_cons (pe_ix ix_tup (pv 0) pe_int (fun _ _ => rfl)) pa_nil))) (pe_cal C_law_braced (hr.mono (by omega)) rfl pass0 (pa_cons (pe_ix ix_tup (pv 0) pe_int (fun _ _ => rfl)) pa_nil)))))
  pss_nil)
  (pss_cons (ps_if (pt_cmpR op_eq (pe_ix ix_tup (pv 0) pe_int (fun _ _ => rfl)) pe_str (nomark _))
  (pss_one (ps_ret (pe_op op_cat (pe_lst (pa_cons pe_str pa_nil)) (pe_cal C_law_braced (hr.mono (by omega)) rfl pass0 (pa_cons (pe_ix ix_tup (pv 0) pe_int (fun _ _ => rfl)) pa_nil)))))
  pss_nil)
  (pss_cons (ps_if (pt_cmpR op_eq (pe_ix ix_tup (pv 0) pe_int (fun _ _ => rfl)) pe_str (nomark _))
  (pss_one (ps_ret (pe_op op_cat (pe_op op_cat (pe_lst (pa_cons pe_str (pa_cons (pe_orT (pe_ix ix_tup (pv 0) pe_int (fun _ _ => rfl)) (pe_one pe_str)) pa_nil))) (pe_cal C_law_pieces (hr.mono (by omega)) rfl pass0 (pa_cons (pe_ix ix_tup (pv 0) pe_int (fun _ _ => rfl)) pa_nil))) (pe_lst (pa_cons pe_str (pa_cons (pe_orT (pe_ix ix_tup (pv 0) pe_int (fun _ _ => rfl)) (pe_one pe_str)) pa_nil))))))
  pss_nil)
  (pss_cons (ps_set (i := 1) sc.nd rfl (Or.inl rfl) (pe_lst (pa_cons pe_str (pa_cons pe_str pa_nil))))
  (pss_cons (ps_for PassesOwn.never rfl (pi_range1 rfl T.range (pa_cons (pe_callB (r := rLenQ K) call_lenK (by rfl) T.b_len PySem.boot_len (pa_cons (pe_ix ix_tup (pv 0) pe_int (fun _ _ => rfl)) pa_nil)) pa_nil)) (pg_name (i := 2) sc.nd rfl (Or.inl rfl))
  (pss_cons (ps_if (pt_cmpR op_gt (pv 2) pe_int (nomark _))
  (pss_one (ps_expr (pe_bm PySem.F.plainAttrs_list PySem.F.slot_list_append PySem.F.type_list_append mt_append (pv 1) (pa_cons pe_str pa_nil))))
  pss_nil)
  (pss_one (ps_for PassesOwn.never rfl (pi_range1 rfl T.range (pa_cons (pe_callB (r := rLenQ K) call_lenK (by rfl) T.b_len PySem.boot_len (pa_cons (pe_ix ix_tup (pe_ix ix_tup (pv 0) pe_int (fun _ _ => rfl)) (pv 2) (fun _ _ => rfl)) pa_nil)) pa_nil)) (pg_name (i := 3) sc.nd rfl (Or.inl rfl))
  (pss_cons (ps_if (pt_cmpR op_gt (pv 3) pe_int (nomark _))
  (pss_one (ps_expr (pe_bm PySem.F.plainAttrs_list PySem.F.slot_list_append PySem.F.type_list_append mt_append (pv 1) (pa_cons pe_str pa_nil))))
  pss_nil)
  (pss_one (ps_set (i := 1) sc.nd rfl (Or.inl rfl) (pe_op op_cat (pv 1) (pe_cal C_law_pieces (hr.mono (by omega)) rfl pass0 (pa_cons (pe_ix ix_tup (pe_ix ix_tup (pe_ix ix_tup (pv 0) pe_int (fun _ _ => rfl)) (pv 2) (fun _ _ => rfl)) (pv 3) (fun _ _ => rfl)) pa_nil))))))))))
  (pss_one (ps_ret (pe_op op_cat (pv 1) (pe_lst (pa_cons pe_str pa_nil)))))))))))), ?_⟩
    refine body_ok av l k ?_
    walk_at "go"
    obtain ⟨es, he⟩ := nuc_head m
    have tk : ∀ {Γ : List Sl} {y : Str}, Γ[0]? = some (.f (nucT m)) → ET (pure0 K) (tTest (tOp rEq (tOp (rIxT K) (tVar 0) (tC (.int 0))) (tC (.str y)))) Γ (decide (kindW m = y)) := fun h => xt_test (x_op (x_op (x_var h) x_int (by rw [he]; exact o_ixT (show atI _ ((0 : Nat) : Int) = _ from at_nat rfl))) x_str o_eqS)
    have pc : ∀ {Γ : List Sl} {ta : TE} {q : FRow} {X : XK}, Nw.E (pure0 K) ta Γ (rowT q) → q ∈ m.rows → q.good nmB delB → Nw.E (pure0 K) (tCall (spX K (RPc n)) [] X (tCons ta tNil)) Γ (.lst (q.words.map Dt.str)) := fun {Γ ta q X} h hq gq => x_call (M := pure0 K) (xa_one h) ⟨q, rfl, gq, FNuc.dep_le.mp dep q hq, by have := words_nuc hq; omega, rfl⟩
    have br : ∀ {Γ : List Sl} {ta : TE} {q : FRow} {X : XK}, Nw.E (pure0 K) ta Γ (rowT q) → q ∈ m.rows → q.good nmB delB → Nw.E (pure0 K) (tCall (spX K (RBr n)) [] X (tCons ta tNil)) Γ (.lst ((braceW q).map Dt.str)) := fun {Γ ta q X} h hq gq => x_call (M := pure0 K) (xa_one h) ⟨q, rfl, gq, FNuc.dep_le.mp dep q hq, by have := words_nuc hq; omega, rfl⟩
    have bl : ∀ q : FRow, (braceW q).length = q.words.length + 2 := fun q => by simp [braceW]
    have wn : ∀ q ∈ m.rows, q.words.length < 100000 := fun q hq => by have := words_nuc hq; omega
    cases m with
    | sym x =>
      refine w_when (b := true) ((tk rfl).is (kd (w := "symbol") rfl (by decide +kernel))) (fun _ => ?_) (fun z => by cases z)
      exact w_ret (el_e (xl_lst (xa_one (x_op (d1 := nucT (.sym x)) (x_var rfl) x_int (o_ixT rfl))) (Nat.le_of_ble_eq_true rfl))) rfl
    | group r =>
      refine w_when (b := false) ((tk rfl).is (kd (w := "group") rfl (by decide +kernel))) (fun z => by cases z) (fun _ => ?_)
      refine w_when (b := true) ((tk rfl).is (kd (w := "group") rfl (by decide +kernel))) (fun _ => ?_) (fun z => by cases z)
      exact w_ret (br (x_op (d1 := nucT (.group r)) (x_var rfl) x_int (o_ixT rfl)) List.mem_cons_self g) rfl
    | frac o u =>
      refine w_when (b := false) ((tk rfl).is (kd (w := "frac") rfl (by decide +kernel))) (fun z => by cases z) (fun _ => ?_)
      refine w_when (b := false) ((tk rfl).is (kd (w := "frac") rfl (by decide +kernel))) (fun z => by cases z) (fun _ => ?_)
      refine w_when (b := true) ((tk rfl).is (kd (w := "frac") rfl (by decide +kernel))) (fun _ => ?_) (fun z => by cases z)
      have h1 := wn o List.mem_cons_self
      have h2 := wn u (List.mem_cons_of_mem _ List.mem_cons_self)
      have b1 := bl o
      have b2 := bl u
      refine w_ret (el_e (xl_catS (ws := "@frac" :: braceW o) (us := braceW u) (el_r (xl_catS (ws := ["@frac"]) (us := braceW o) (el_r xl_strs1) (e_r (br (x_op (d1 := nucT (.frac o u)) (x_var rfl) x_int (o_ixT rfl)) List.mem_cons_self g.1)) (by show 1 + _ ≤ _; omega))) (e_r (br (x_op (d1 := nucT (.frac o u)) (x_var rfl) x_int (o_ixT rfl)) (List.mem_cons_of_mem _ List.mem_cons_self) g.2)) (by show _ + 1 + _ ≤ _; omega))) ?_
      show Dt.lst _ = Dt.lst _
      congr 2
      simp [braceW, FNuc.words]
    | root r =>
      refine w_when (b := false) ((tk rfl).is (kd (w := "root") rfl (by decide +kernel))) (fun z => by cases z) (fun _ => ?_)
      refine w_when (b := false) ((tk rfl).is (kd (w := "root") rfl (by decide +kernel))) (fun z => by cases z) (fun _ => ?_)
      refine w_when (b := false) ((tk rfl).is (kd (w := "root") rfl (by decide +kernel))) (fun z => by cases z) (fun _ => ?_)
      refine w_when (b := true) ((tk rfl).is (kd (w := "root") rfl (by decide +kernel))) (fun _ => ?_) (fun z => by cases z)
      have h1 := wn r List.mem_cons_self
      have b1 := bl r
      exact w_ret (el_e (xl_catS (ws := ["@root"]) (us := braceW r) (el_r xl_strs1) (e_r (br (x_op (d1 := nucT (.root r)) (x_var rfl) x_int (o_ixT rfl)) List.mem_cons_self g)) (by show 1 + _ ≤ _; omega))) rfl
    | fence o c r =>
      refine w_when (b := false) ((tk rfl).is (kd (w := "fence") rfl (by decide +kernel))) (fun z => by cases z) (fun _ => ?_)
      refine w_when (b := false) ((tk rfl).is (kd (w := "fence") rfl (by decide +kernel))) (fun z => by cases z) (fun _ => ?_)
      refine w_when (b := false) ((tk rfl).is (kd (w := "fence") rfl (by decide +kernel))) (fun z => by cases z) (fun _ => ?_)
      refine w_when (b := false) ((tk rfl).is (kd (w := "fence") rfl (by decide +kernel))) (fun z => by cases z) (fun _ => ?_)
      refine w_when (b := true) ((tk rfl).is (kd (w := "fence") rfl (by decide +kernel))) (fun _ => ?_) (fun z => by cases z)
      have h1 := wn r List.mem_cons_self
      have two : ∀ {Γ : List Sl} {x : Str} {tb : TE} {y : Str}, Nw.E (pure0 K) tb Γ (.str y) → EL (pure0 K) (tLst (tCons (tC (.str x)) (tCons tb tNil))) Γ ([x, y].map Dt.str) := fun h => xl_lst (xa_cons x_str (xa_one h)) (Nat.le_of_ble_eq_true rfl)
      exact w_ret (el_e (xl_catS (ws := "@left" :: delimW o :: r.words) (us := ["@right", delimW c]) (el_r (xl_catS (ws := ["@left", delimW o]) (us := r.words) (el_r (two (x_dot (x_op (d1 := nucT (.fence o c r)) (x_var rfl) x_int (o_ixT rfl)) g.1))) (e_r (pc (x_op (d1 := nucT (.fence o c r)) (x_var rfl) x_int (o_ixT rfl)) List.mem_cons_self g.2.2)) (by show 2 + _ ≤ _; omega))) (el_r (two (x_dot (x_op (d1 := nucT (.fence o c r)) (x_var rfl) x_int (o_ixT rfl)) g.2.1))) (by show _ + 1 + 1 + 2 ≤ _; omega))) rfl
    | grid gr =>
      refine w_when (b := false) ((tk rfl).is (kd (w := "grid") rfl (by decide +kernel))) (fun z => by cases z) (fun _ => ?_)
      refine w_when (b := false) ((tk rfl).is (kd (w := "grid") rfl (by decide +kernel))) (fun z => by cases z) (fun _ => ?_)
      refine w_when (b := false) ((tk rfl).is (kd (w := "grid") rfl (by decide +kernel))) (fun z => by cases z) (fun _ => ?_)
      refine w_when (b := false) ((tk rfl).is (kd (w := "grid") rfl (by decide +kernel))) (fun z => by cases z) (fun _ => ?_)
      refine w_when (b := false) ((tk rfl).is (kd (w := "grid") rfl (by decide +kernel))) (fun z => by cases z) (fun _ => ?_)
      obtain ⟨gg, ⟨l1, l6⟩, mm, m1, m6, ml⟩ := g
      have wg : (gr.words "{").length ≤ 100000 := by
        have : (FNuc.grid gr).words.length = (gr.words "{").length + 2 := by simp [FNuc.words]
        omega
      generalize hP : (fun i : Nat => ("@grid" : Str) :: (if i = 0 then [("{" : Str)] else (FGrid.of (gr.lines.take i)).words "{")) = PW
      have pw : ∀ i, PW i = ("@grid" : Str) :: (if i = 0 then [("{" : Str)] else (FGrid.of (gr.lines.take i)).words "{") := fun i => by rw [← hP]
      have pwl : ∀ i, (PW i).length ≤ 100002 := fun i => by
        rw [pw, List.length_cons]
        split
        · decide
        · have := grid_take (s := "{") (c := gr) (i := i)
          omega
      have gl : ∀ {Γ : List Sl}, Γ[0]? = some (.f (nucT (.grid gr))) → Nw.E (pure0 K) (tOp (rIxT K) (tVar 0) (tC (.int 1))) Γ (.tup (gr.lines.map fun c => .tup (c.rows.map rowT))) := fun h => x_op (d1 := nucT (.grid gr)) (x_var h) x_int (o_ixT rfl)
      refine w_setl (ds := (PW 0).map Dt.str) (Nat.le_of_ble_eq_true rfl) (EL.is (xl_lst (xa_cons x_str (xa_one x_str)) (Nat.le_of_ble_eq_true rfl)) (by rw [pw]; rfl)) ?_
      walk_at "d"
      refine w_for (ds := (List.range gr.lines.length).map fun i : Nat => Dt.int (i : Int)) (it_rng1 ((x_lenU (gl rfl)).is (by rw [List.length_map])) (by omega)) (fun i => [.f (nucT (.grid gr)), .o ((PW i).map Dt.str), .any, .any]) (by walk_at "s") (fun i d hd => ?_) ?_
      · obtain ⟨i', hi', rfl⟩ := Mg.get_map hd
        have ii : i' = i := by
          obtain ⟨h1, h2⟩ := List.getElem?_eq_some_iff.mp hi'
          rw [← h2, List.getElem_range]
        subst ii
        have ilt : i' < gr.lines.length := by
          have := (List.getElem?_eq_some_iff.mp hi').1
          rwa [List.length_range] at this
        obtain ⟨c, hc⟩ : ∃ c, gr.lines[i']? = some c := ⟨_, List.getElem?_eq_getElem ilt⟩
        have cm := List.mem_of_getElem? hc
        have cml := ml c cm
        have snoc := grid_snoc (s := "{") hc
        have gtk := grid_take (s := "{") (c := gr) (i := i' + 1)
        rw [snoc, List.length_append] at gtk
        refine ⟨_, _, gt_name, ?_⟩
        walk_at "d"
        generalize hsep : (if i' = 0 then ("{" : Str) else "~") = sep at *
        generalize hb : ("@grid" : Str) :: (FGrid.of (gr.lines.take i')).words "{" = bs
        have bsl : bs.length + (c.words sep).length ≤ 100001 := by rw [← hb, List.length_cons]; omega
        have start : ∀ {tz : TS} {P : Po}, W (pure0 K) tz [.f (nucT (.grid gr)), .o ((bs ++ [sep]).map Dt.str), .f (.int (i' : Int)), .any] P → W (pure0 K) (tSeq (tIfS (tTest (tOp (rI0 fun i j => .bl (decide (j < i))) (tVar 2) (tC (.int 0)))) (tDrop (tBM K "list" rAppend (tVar 1) (tCons (tC (.str "~")) tNil))) tNext) tz) [.f (nucT (.grid gr)), .o ((PW i').map Dt.str), .f (.int (i' : Int)), .any] P := fun {tz P} h => by
          refine w_if (xt_test (x_op (x_var rfl) x_int o_I0b)) (fun c => s_app rfl x_str (by rw [List.length_map]; have := pwl i'; omega) ?_) (fun c => w_next ?_)
          · have ne : i' ≠ 0 := by have := of_decide_eq_true c; omega
            have e : (PW i').map Dt.str ++ [.str "~"] = (bs ++ [sep]).map Dt.str := by
              rw [pw, ← hb, ← hsep, if_neg ne, if_neg ne]
              simp
            walk_at "d"
            rw [e]
            exact h
          · have ez : i' = 0 := by have := of_decide_eq_false c; omega
            have e : (PW i').map Dt.str = (bs ++ [sep]).map Dt.str := by
              rw [pw, ← hb, ← hsep, if_pos ez, if_pos ez, ez]
              rfl
            rw [e]
            exact h
        refine start ?_
        refine s_for (ds := (List.range c.rows.length).map fun j : Nat => Dt.int (j : Int)) (it_rng1 ((x_lenU (x_op (gl rfl) (x_var rfl) (o_ixT (at_nat (by rw [List.getElem?_map, hc]; rfl))))).is (by rw [List.length_map])) (by omega)) (fun j => [.f (nucT (.grid gr)), .o ((bs ++ (if j = 0 then [sep] else (FCells.of (c.rows.take j)).words sep)).map Dt.str), .f (.int (i' : Int)), .any]) (by walk_at "s") (fun j d hd => ?_) ?_
        · obtain ⟨j', hj', rfl⟩ := Mg.get_map hd
          have jj : j' = j := by
            obtain ⟨h1, h2⟩ := List.getElem?_eq_some_iff.mp hj'
            rw [← h2, List.getElem_range]
          subst jj
          have jlt : j' < c.rows.length := by
            have := (List.getElem?_eq_some_iff.mp hj').1
            rwa [List.length_range] at this
          obtain ⟨q, hq⟩ : ∃ q, c.rows[j']? = some q := ⟨_, List.getElem?_eq_getElem jlt⟩
          have qm := List.mem_of_getElem? hq
          have qa : q ∈ (FNuc.grid gr).rows := lines_all cm qm
          have qg : q.good nmB delB := (FCells.good_iff _ _).mp ((FGrid.good_iff _ _).mp gg c cm) q qm
          have csn := cells_snoc (s := sep) hq
          have ctk := cells_take (s := sep) (c := c) (i := j' + 1)
          rw [csn, List.length_append, List.length_cons] at ctk
          refine ⟨_, _, gt_name, ?_⟩
          walk_at "d"
          generalize hs2 : (if j' = 0 then sep else ("&" : Str)) = s2 at *
          have l2 : (bs ++ ((FCells.of (c.rows.take j')).words sep ++ [s2])).length + q.words.length ≤ 100010 := by
            simp only [List.length_append, List.length_cons, List.length_nil]
            omega
          have l3 : ((bs ++ (if j' = 0 then [sep] else (FCells.of (c.rows.take j')).words sep)).map Dt.str).length < 1000000 := by
            rw [List.length_map, List.length_append]
            split
            · show _ + 1 < _
              omega
            · omega
          have start2 : ∀ {tz : TS} {P : Po}, W (pure0 K) tz [.f (nucT (.grid gr)), .o ((bs ++ ((FCells.of (c.rows.take j')).words sep ++ [s2])).map Dt.str), .f (.int (i' : Int)), .f (.int (j' : Int))] P → W (pure0 K) (tSeq (tIfS (tTest (tOp (rI0 fun i j => .bl (decide (j < i))) (tVar 3) (tC (.int 0)))) (tDrop (tBM K "list" rAppend (tVar 1) (tCons (tC (.str "&")) tNil))) tNext) tz) [.f (nucT (.grid gr)), .o ((bs ++ (if j' = 0 then [sep] else (FCells.of (c.rows.take j')).words sep)).map Dt.str), .f (.int (i' : Int)), .f (.int (j' : Int))] P := fun {tz P} h => by
            refine w_if (xt_test (x_op (x_var rfl) x_int o_I0b)) (fun c => s_app rfl x_str l3 ?_) (fun c => w_next ?_)
            · have ne : j' ≠ 0 := by have := of_decide_eq_true c; omega
              rw [if_neg ne] at hs2
              walk_at "d"
              rw [if_neg ne]
              rw [← hs2, ← List.append_assoc, List.map_append (l₂ := [("&" : Str)])] at h
              exact h
            · have ez : j' = 0 := by have := of_decide_eq_false c; omega
              rw [if_pos ez] at hs2
              rw [if_pos ez]
              rw [ez, ← hs2] at h
              rw [ez]
              exact h
          refine start2 ?_
          refine s_setl (ds := ((bs ++ ((FCells.of (c.rows.take j')).words sep ++ [s2])) ++ q.words).map Dt.str) (Nat.le_of_ble_eq_true rfl) (xl_catS (r_var rfl) (e_r (pc (x_op (x_op (gl rfl) (x_var rfl) (o_ixT (at_nat (by rw [List.getElem?_map, hc]; rfl)))) (x_var rfl) (o_ixT (at_nat (by rw [List.getElem?_map, hq]; rfl)))) qa qg)) (by omega)) ?_
          walk_at "d"
          rw [if_neg (Nat.succ_ne_zero j'), csn]
          have e : bs ++ ((FCells.of (c.rows.take j')).words sep ++ [s2]) ++ q.words = bs ++ ((FCells.of (c.rows.take j')).words sep ++ s2 :: q.words) := by simp
          rw [e]
          walk_at "s"
        · show Sub _ _
          have e : bs ++ (if ((List.range c.rows.length).map fun j : Nat => Dt.int (j : Int)).length = 0 then [sep] else (FCells.of (c.rows.take ((List.range c.rows.length).map fun j : Nat => Dt.int (j : Int)).length)).words sep) = PW (i' + 1) := by
            rw [List.length_map, List.length_range, if_neg (by omega), List.take_length, cells_of_rows, pw, if_neg (Nat.succ_ne_zero i'), snoc, ← hb]
            simp
          rw [e]
          walk_at "s"
      · have e : (PW ((List.range gr.lines.length).map fun i : Nat => Dt.int (i : Int)).length) = ("@grid" : Str) :: gr.words "{" := by
          rw [List.length_map, List.length_range, pw, if_neg (by omega), List.take_length, grid_of_lines]
        rw [e]
        refine w_ret (el_e (xl_catS (ws := "@grid" :: gr.words "{") (us := ["}"]) (r_var rfl) (el_r xl_strs1) (by show _ + 1 + 1 ≤ _; omega))) ?_
        rfl
theorem scBPieces : FnScope ["row", "pieces", "nucleus", "below", "above"] ["row"] (defScope sBPieces) := ⟨rfl, rfl, rfl, by decide +kernel, rfl, by decide +kernel, by decide +kernel⟩
theorem ok_bpieces {n : Nat} {f : Addr} {fd : FuncData} (F : Fun K "_law_pieces" "_law_pieces" sBPieces f fd) (C_law_nucleus : Cal P w K mg base CX0 (3 * n + 2) "_law_nucleus" ["nucleus"] (spX K (RNu n))) (C_law_braced : Cal P w K mg base CX0 (3 * n + 1) "_law_braced" ["row"] (spX K (RBr n))) : FnOk P w K mg base CX0 (3 * n + 3) f fd ["row"] (spX K (RPc (n + 1))) := by
  have sc := scBPieces
  refine F.ok scBPieces (fun vs H Q E h => ?_) (fun cdv A outer s H vs Q E hr h => ?_)
  · obtain ⟨_, ds, d, _, l, ⟨_, rfl, _⟩, _⟩ := h
    exact l.len
  · obtain ⟨A0, ds, d, av, l, ⟨r, rfl, g, dep, wl, rfl⟩, k⟩ := h
    refine ⟨_, (pss_cons (ps_set (i := 1) sc.nd rfl (Or.inl rfl) (pe_lst pa_nil))
  (pss_cons (ps_for PassesOwn.never rfl (pi_tup (pv 0)) (pg_tup rfl (pgs_cons (pg_name (i := 2) sc.nd rfl (Or.inl rfl)) (pgs_cons (pg_name (i := 3) sc.nd rfl (Or.inl rfl)) (pgs_cons (pg_name (i := 4) sc.nd rfl (Or.inl rfl)) pgs_nil))))
  (pss_cons (ps_set (i := 1) sc.nd rfl (Or.inl rfl) (pe_op op_cat (pv 1) (pe_cal C_law_nucleus (hr.mono (by omega)) rfl pass0 (pa_cons (pv 2) pa_nil))))
  (pss_cons (ps_if (pt_cmpR op_notN (pv 3) pe_non (nomark _))
  (pss_one (ps_set (i := 1) sc.nd rfl (Or.inl rfl) (pe_op op_cat (pe_op op_cat (pv 1) (pe_lst (pa_cons pe_str pa_nil))) (pe_cal C_law_braced (hr.mono (by omega)) rfl pass0 (pa_cons (pv 3) pa_nil)))))
  pss_nil)
  (pss_one (ps_if (pt_cmpR op_notN (pv 4) pe_non (nomark _))
  (pss_one (ps_set (i := 1) sc.nd rfl (Or.inl rfl) (pe_op op_cat (pe_op op_cat (pv 1) (pe_lst (pa_cons pe_str pa_nil))) (pe_cal C_law_braced (hr.mono (by omega)) rfl pass0 (pa_cons (pv 4) pa_nil)))))
  pss_nil)))))
  (pss_one (ps_ret (pv 1))))), ?_⟩
    refine body_ok av l k ?_
    walk_at "go"
    refine w_setl (ds := []) (Nat.le_of_ble_eq_true rfl) (xl_lst xa_nil (Nat.zero_le _)) ?_
    walk_at "d"
    have tkl : ∀ i, ((r.items.take i).flatMap FItem.words).length ≤ r.words.length := fun i => by
      rw [FRow.words_eq]
      have : r.items = r.items.take i ++ r.items.drop i := (List.take_append_drop i _).symm
      conv => rhs; rw [this]
      rw [List.flatMap_append, List.length_append]
      omega
    refine w_for (ds := r.items.map itemT) (it_tup (x_var rfl)) (fun i => [.f (rowT r), .o (((r.items.take i).flatMap FItem.words).map Dt.str), .any, .any, .any]) (by walk_at "s") (fun i d hd => ?_) ?_
    · obtain ⟨it, hi, rfl⟩ := Mg.get_map hd
      have im := List.mem_of_getElem? hi
      have gi := (FRow.good_iff _ _).mp g it im
      have di := FRow.dep_le.mp (Nat.le_of_lt_succ dep) it im
      have wi := words_item im
      have snoc : (r.items.take (i + 1)).flatMap FItem.words = (r.items.take i).flatMap FItem.words ++ it.words := by
        rw [List.take_add_one, hi]
        simp
      have tk1 := tkl (i + 1)
      rw [snoc, List.length_append] at tk1
      cases it with
      | mk m b a =>
      rw [itemT_eq]
      refine ⟨_, _, gt_tup (gts_cons gt_name (gts_cons gt_name (gts_cons gt_name gts_nil))) rfl, ?_⟩
      walk_at "d"
      generalize hp : (r.items.take i).flatMap FItem.words = pre at *
      have dm : m.dep ≤ n := Nat.le_trans (Nat.le_max_left _ _) di
      have db : b.dep ≤ n := Nat.le_trans (Nat.le_max_left _ _) (Nat.le_trans (Nat.le_max_right _ _) di)
      have da : a.dep ≤ n := Nat.le_trans (Nat.le_max_right _ _) (Nat.le_trans (Nat.le_max_right _ _) di)
      have el : (FItem.mk m b a).words.length = m.words.length + ((b.words "_").length + (a.words "^").length) := by rw [FItem.words, List.length_append, List.length_append]
      refine w_setl (ds := (pre ++ m.words).map Dt.str) (Nat.le_of_ble_eq_true rfl) (xl_catS (r_var rfl) (e_r (x_call (M := pure0 K) (xa_one (x_var rfl)) ⟨m, rfl, gi.1, dm, by omega, rfl⟩)) (by omega)) ?_
      walk_at "d"
      have scrS : ∀ {P : Po} {us : List Str} {sc : FScr} {x : Str} {j : Nat} {Γ : List Sl} {X : XK}, Γ[1]? = some (.o (us.map Dt.str)) → 1 < Γ.length → Γ[j]? = some (.f (Mg.Nw.scrT sc)) → sc.good nmB delB → sc.dep ≤ n → us.length + (sc.words x).length ≤ 200000 → (sc.words x).length ≤ 100000 → P.nx (Γ.set 1 (.o ((us ++ sc.words x).map Dt.str))) →
          W (pure0 K) (tIfS (tTest (tOp (fun x y H Q => y = .non ∧ Q (.bl (!decide (x = .non))) H) (tVar j) (tC .non))) (tAsg (tOp rCat (tOp rCat (tVar 1) (tLst (tCons (tC (.str x)) tNil))) (tCall (spX K (RBr n)) [] X (tCons (tVar j) tNil))) (gName 1)) tNext) Γ P := fun {P us sc x j Γ X} h1 hl hj gs ds l1 l2 h => by
        cases sc with
        | no =>
          refine s_if (b := false) ((xt_test (x_op (x_var hj) x_non (o_notN rfl))).is rfl) (fun z => by cases z) (fun _ => w_next ?_)
          have e : (us ++ FScr.no.words x).map Dt.str = us.map Dt.str := by simp [FScr.words]
          rw [e] at h
          have e2 : Γ.set 1 (.o (us.map Dt.str)) = Γ := by
            refine List.ext_getElem? fun i => ?_
            rw [List.getElem?_set]
            by_cases c : 1 = i
            · subst c
              rw [if_pos rfl, if_pos hl, h1]
            · rw [if_neg c]
          rw [e2] at h
          exact h
        | yes q =>
          have lb : (FScr.words x (.yes q)).length = q.words.length + 3 := by simp [FScr.words]
          have bq : (braceW q).length = q.words.length + 2 := by simp [braceW]
          refine s_if (b := true) ((xt_test (x_op (x_var hj) x_non (o_notN rfl))).is rfl) (fun _ => ?_) (fun z => by cases z)
          refine s_setl hl (xl_catS (ws := us ++ [x]) (us := braceW q) (el_r (xl_catS (ws := us) (us := [x]) (r_var h1) (el_r xl_strs1) (by show _ + 1 ≤ _; omega))) (e_r (x_call (M := pure0 K) (xa_one (x_var hj)) ⟨q, rfl, gs, ds, by omega, rfl⟩)) (by rw [List.length_append]; show _ + 1 + _ ≤ _; omega)) ?_
          have e : us ++ [x] ++ braceW q = us ++ FScr.words x (.yes q) := by simp [FScr.words, braceW]
          rw [e]
          exact h
      refine w_seq (scrS (x := "_") rfl (Nat.le_of_ble_eq_true rfl) rfl gi.2.1 db (by rw [List.length_append]; omega) (by omega) ?_)
      walk_at "d"
      refine scrS (x := "^") rfl (Nat.le_of_ble_eq_true rfl) rfl gi.2.2 da (by rw [List.length_append, List.length_append]; omega) (by omega) ?_
      rw [snoc, FItem.words]
      walk_at "d"
      have e : pre ++ m.words ++ b.words "_" ++ a.words "^" = pre ++ (m.words ++ (b.words "_" ++ a.words "^")) := by simp
      rw [e]
      show Sub _ _
      walk_at "s"
    · refine w_retO rfl ?_
      rw [List.length_map, List.take_length, ← FRow.words_eq]
end
end Mg.Nw

set_option Elab.async false
set_option linter.all false
set_option maxRecDepth 100000
set_option maxHeartbeats 1000000
namespace Mg.Nw
open PySem PySem.Spec PyProof.Rows L2
local macro_rules | `(tactic| walk_at "op") => `(tactic| first | exact o_I0i | exact o_I0b | exact o_ixT rfl | exact o_eqS | exact o_neS | exact o_eqI | exact o_neI | exact o_isN rfl | exact o_notN rfl | exact o_Ii (.inl ⟨by decide, by decide⟩) | exact o_Ii (.inr ⟨by decide, by decide⟩) | exact o_Ii ⟨by decide, by decide⟩ | skip)
local macro_rules | `(tactic| walk_at "x") => `(tactic| first
  | exact x_int | exact x_str | exact x_bl | exact x_non | exact xa_nil | exact xo_no | exact x_var rfl | exact r_var rfl | exact xt_yes
  | ((with_reducible apply xa_cons) <;> walk_at "x")
  | ((with_reducible apply x_op) <;> walk_at "x")
  | ((with_reducible apply x_ixL) <;> walk_at "x")
  | ((with_reducible apply x_tup) <;> walk_at "x")
  | ((with_reducible apply xl_lst) <;> walk_at "x")
  | ((with_reducible apply xl_cat) <;> walk_at "x")
  | ((with_reducible apply x_catT) <;> walk_at "x")
  | ((with_reducible apply x_slT) <;> walk_at "x")
  | ((with_reducible apply xl_slL) <;> walk_at "x")
  | ((with_reducible apply xo_some) <;> walk_at "x")
  | ((with_reducible apply xt_test) <;> walk_at "x")
  | ((with_reducible apply xt_B) <;> walk_at "x")
  | ((with_reducible apply xt_not) <;> walk_at "x")
  | ((with_reducible apply xt_and) <;> walk_at "x")
  | ((with_reducible apply xt_or) <;> walk_at "x")
  | ((with_reducible apply x_and) <;> walk_at "x")
  | ((with_reducible apply x_or) <;> walk_at "x")
  | ((with_reducible apply x_not) <;> walk_at "x")
  | ((with_reducible apply it_tup) <;> walk_at "x")
  | ((with_reducible apply it_lst) <;> walk_at "x")
  | ((with_reducible apply it_enum) <;> walk_at "x")
  | ((with_reducible apply it_zip) <;> walk_at "x")
  | ((with_reducible apply it_rev) <;> walk_at "x")
  | exact gt_name | exact gts_nil
  | ((with_reducible apply gt_tup) <;> walk_at "x")
  | ((with_reducible apply gt_lst) <;> walk_at "x")
  | ((with_reducible apply gts_cons) <;> walk_at "x")
  | (with_reducible apply x_b2; walk_at "x"; walk_at "x"; exact b_max2)
  | (with_reducible apply x_lenU; walk_at "x"; done)
  | (with_reducible apply x_lenL; walk_at "x"; done)
  | ((with_reducible apply x_sum) <;> walk_at "x")
  | ((with_reducible apply x_max) <;> walk_at "x")
  | ((with_reducible apply x_call) <;> walk_at "x")
  | ((with_reducible apply xt_tuple) <;> walk_at "x")
  | (with_reducible apply xl_listU; walk_at "x"; done)
  | (with_reducible apply xl_listL; walk_at "x"; done)
  | (with_reducible apply el_r; walk_at "y")
  | (with_reducible apply el_e; walk_at "y")
  | (with_reducible apply e_r; walk_at "x")
  | exact Nat.le_of_ble_eq_true rfl
  | exact List.cons_ne_nil _ _
  | rfl
  | (simp only [List.length_cons, List.length_nil]; decide +kernel)
  | (with_reducible intro _; walk_at "x")
  | walk_at "op")
local macro_rules | `(tactic| walk_at "y") => `(tactic| first
  | ((with_reducible apply xl_lst) <;> walk_at "x")
  | ((with_reducible apply xl_cat) <;> walk_at "x")
  | ((with_reducible apply xl_slL) <;> walk_at "x")
  | (with_reducible apply xl_listU; walk_at "x"; done)
  | (with_reducible apply xl_listL; walk_at "x"; done))
local macro_rules | `(tactic| walk_at "s") => `(tactic| first | exact Sub.nil | (apply Sub.cons; (first | exact SlLe.refl | exact SlLe.any | exact SlLe.frz | skip); walk_at "s") | skip)
local macro_rules | `(tactic| walk_at "d") => `(tactic| try dsimp only [List.set, wipeS])
local macro_rules | `(tactic| walk_at "go") => `(tactic| ((try dsimp only [cxOf]); simp only [st0, List.map_cons, List.map_nil, List.length_cons, List.length_nil, List.cons_append, List.nil_append, Nat.reduceAdd, Nat.reduceSub, List.replicate]))

/-! texts -/
abbrev sBText : Stmt := top 56
abbrev sBInner : Stmt := top 57
abbrev sBRows : Stmt := top 58
abbrev sBSmall : Stmt := top 59
abbrev sBFormula : Stmt := top 60
theorem cat_cpsB (a b : Str) : (a ++ b).cps.toList = a.cps.toList ++ b.cps.toList := by
  show (a.cps ++ b.cps).toList = _
  simp
def gFB (ws : List Str) (k : Nat) : List Nat := (List.range k).flatMap fun k => (if spP none ws k = true then [32] else []) ++ (ws.getD k "").cps.toList
theorem gFB_succ (ws : List Str) (k : Nat) : gFB ws (k + 1) = gFB ws k ++ ((if spP none ws k = true then [32] else []) ++ (ws.getD k "").cps.toList) := by
  unfold gFB
  rw [List.range_succ, List.flatMap_append, List.flatMap_cons, List.flatMap_nil, List.append_nil]
theorem gFB_len {ws : List Str} (h : ∀ x ∈ ws, x.length ≤ 9) : ∀ k, k ≤ ws.length → (gFB ws k).length ≤ 10 * k
  | 0, _ => by simp [gFB]
  | k + 1, hk => by
    have ih := gFB_len h k (by omega)
    rw [gFB_succ, List.length_append, List.length_append]
    have e : ws[k]? = some (ws[k]'(by omega)) := List.getElem?_eq_getElem (by omega)
    have h1 := h _ (List.mem_of_getElem? e)
    have h2 : (ws.getD k "").cps.toList.length ≤ 9 := by rw [getD_of e]; exact h1
    have h3 : (if spP none ws k = true then [32] else []).length ≤ 1 := by split <;> simp
    omega
theorem gFB_glue (ws : List Str) : (glueW ws).cps.toList = gFB ws ws.length := by
  unfold glueW
  rw [TL.join_eq, join_cps]
  unfold partsW gFB
  rw [List.flatMap_assoc]
  refine flat_congr fun k _ => ?_
  unfold partAt
  have e2 : spaceAt ws k = spP none ws k := by
    cases k with
    | zero => rfl
    | succ k =>
      unfold spaceAt spP
      rw [decide_eq_true (Nat.succ_pos k), Bool.true_and]
      rfl
  rw [e2]
  split
  · show [(" " : Str), ws.getD k ""].flatMap _ = _
    rw [List.flatMap_cons, List.flatMap_cons, List.flatMap_nil, List.append_nil]
    rfl
  · show [ws.getD k ""].flatMap _ = _
    rw [List.flatMap_cons, List.flatMap_nil, List.append_nil]
    rfl
theorem startsB {w : Str} {c : Nat} {L : List Nat} (e : w.cps.toList = c :: L) : Txt.startswith w "@" = decide ((⟨#[c]⟩ : Str) = "@") := by
  rw [str_of_cps e]
  by_cases h : c = 64
  · subst h
    rw [decide_eq_true at64]
    unfold Txt.startswith
    rw [Bool.and_eq_true]
    refine ⟨decide_eq_true ?_, ?_⟩
    · show 0 + 1 ≤ (64 :: L).length
      simp
    · simp [PySem.Builtin.Str.subAt]
      rfl
  · rw [decide_eq_false (at_ne h)]
    unfold Txt.startswith
    rw [Bool.and_eq_false_iff]
    refine .inr ?_
    simp only [PySem.Builtin.Str.subAt]
    rw [beq_eq_false_iff_ne]
    intro z
    have := congrArg Array.toList z
    have e2 : ("@" : Str).cps.toList = [64] := rfl
    have e3 : ("@" : Str).length = 1 := rfl
    rw [e2, e3] at this
    simp at this
    exact h this
def tFB (ws : List Str) (k : Nat) : Str := ⟨(gFB ws k).toArray⟩
def cFB (ws : List Str) : Nat → Bool
  | 0 => false
  | k + 1 => Txt.startswith (ws.getD k "") "@"
theorem tFB_glue (ws : List Str) : tFB ws ws.length = glueW ws := by
  unfold tFB
  rw [← gFB_glue]
theorem wkB : WKind nmB delB (fun x => 1 ≤ x.length ∧ x.length ≤ 9) := by
  refine ⟨?_, ?_, ?_⟩
  · show ∀ x ∈ sy9, _
    decide +kernel
  · rintro o (rfl | rfl | rfl) <;> exact ⟨by decide +kernel, by decide +kernel⟩
  · decide +kernel
def RText : List Dt → Dt → Prop := fun ds d => ∃ r : FRow, ds = [rowT r] ∧ FmB r ∧ d = .str (glueW r.words)
section
variable {P : Program} {w : World} {K : PySem.W.Frag} {mg : Str → Option Value} {base : Heap} {M : Md} {Γ : List Sl} {ta te tb : TE} {X : XK}
theorem o_ixS0 {z : Str} {c : Nat} {l : List Nat} (h : z.cps.toList = c :: l) (hz : z.length ≤ 1000) : RX K rIxS (.str z) (.int 0) (.str ⟨#[c]⟩) := fun S v1 v2 H Q t1 t2 q => by
  rw [isd_str t1, isd_int t2]
  exact ⟨z, 0, c, rfl, rfl, Nat.le_of_lt (small1000 hz), by rw [h]; exact atI_nat (show (c :: l)[0]? = some c from rfl), q _ (.str _)⟩
theorem o_inS1 {z : Str} {c : Nat} : RX K (fun x y H Q => ∃ (c : Nat) (z : Str), x = .str ⟨#[c]⟩ ∧ y = .str z ∧ Q (.bl (decide (c ∈ z.cps.toList))) H) (.str ⟨#[c]⟩) (.str z) (.bl (decide (c ∈ z.cps.toList))) := fun S v1 v2 H Q t1 t2 q => by
  rw [isd_str t1, isd_str t2]
  exact ⟨c, z, rfl, rfl, q _ (.bl _)⟩
theorem o_catS {a b : Str} (h : a.length + b.length ≤ 1000000) : RX K (fun x y H Q => ∃ i j, x = .str i ∧ y = .str j ∧ i.length + j.length ≤ sizeLine ∧ Q (.str (i ++ j)) H) (.str a) (.str b) (.str (a ++ b)) := fun S v1 v2 H Q t1 t2 q => by
  rw [isd_str t1, isd_str t2]
  exact ⟨a, b, rfl, rfl, sz5 h, q _ (.str _)⟩
theorem scBText : FnScope ["row", "text", "command", "piece"] ["row"] (defScope sBText) := ⟨rfl, rfl, rfl, by decide +kernel, rfl, by decide +kernel, by decide +kernel⟩
theorem ok_btext {f : Addr} {fd : FuncData} (F : Fun K "_law_text" "_law_text" sBText f fd) (C_law_pieces : Cal P w K mg base CX0 12 "_law_pieces" ["row"] (spX K (RPc 4))) : FnOk P w K mg base CX0 13 f fd ["row"] (spX K RText) := by
  have sc := scBText
  refine F.ok scBText (fun vs H Q E h => ?_) (fun cdv A outer s H vs Q E hr h => ?_)
  · obtain ⟨_, ds, d, _, l, ⟨_, rfl, _⟩, _⟩ := h
    exact l.len
  · obtain ⟨A0, ds, d, av, l, ⟨r, rfl, fm, rfl⟩, k⟩ := h
    refine ⟨_, (pss_cons (ps_set (i := 1) sc.nd rfl (Or.inl rfl) pe_str)
  (pss_cons (ps_set (i := 2) sc.nd rfl (Or.inl rfl) pe_bl)
  (pss_cons (ps_for PassesOwn.never rfl (pi_list (pe_cal C_law_pieces (hr.mono (by omega)) rfl pass0 (pa_cons (pv 0) pa_nil))) (pg_name (i := 3) sc.nd rfl (Or.inl rfl))
  (pss_cons (ps_if (PW.pt (pw_and (pt_val (pv 2)) (pw_and1 (pt_cmpR op_in_sign (pe_ix ix_str (pv 3) pe_int (fun _ _ => rfl)) pe_str (by rfl)))))
  (pss_one (ps_set (i := 1) sc.nd rfl (Or.inl rfl) (pe_op op_add_str (pv 1) pe_str)))
  pss_nil)
  (pss_cons (ps_set (i := 1) sc.nd rfl (Or.inl rfl) (pe_op op_add_str (pv 1) (pv 3)))
  (pss_one (ps_set (i := 2) sc.nd rfl (Or.inl rfl) (pe_cmpR op_eq (pe_ix ix_str (pv 3) pe_int (fun _ _ => rfl)) pe_str (nomark _)))))))
  (pss_one (ps_ret (pv 1)))))), ?_⟩
    refine body_ok av l k ?_
    walk_at "go"
    have wl := fm.wl
    have dp := fm.dep
    have xw := words_row wkB fm.g
    generalize hws : r.words = ws at *
    have e0 : ("" : Str) = tFB ws 0 := by
      show ("" : Str) = ⟨#[]⟩
      decide +kernel
    refine w_set (d := .str (tFB ws 0)) (x_str.is (by rw [e0])) ?_
    walk_at "d"
    refine w_set (d := .bl (cFB ws 0)) x_bl ?_
    walk_at "d"
    refine w_for (ds := ws.map Dt.str) (it_lst (x_call (M := pure0 K) (xa_one (x_var rfl)) ⟨r, rfl, fm.g, by omega, by rw [hws]; omega, by rw [hws]⟩)) (fun i => [.f (rowT r), .f (.str (tFB ws i)), .f (.bl (cFB ws i)), .any]) (by walk_at "s") (fun i d hd => ?_) ?_
    · obtain ⟨y, hy, rfl⟩ := Mg.get_map hd
      have ilt := (List.getElem?_eq_some_iff.mp hy).1
      have wy := xw y (List.mem_of_getElem? hy)
      obtain ⟨c, L, hc⟩ := head_of wy.1
      have tl : (tFB ws i).length ≤ 10 * i := gFB_len (fun x hx => (xw x hx).2) i (by omega)
      refine ⟨_, _, gt_name, ?_⟩
      walk_at "d"
      have gy : ws.getD i "" = y := getD_of hy
      have sp : (cFB ws i && headLet y) = spP none ws i := by
        cases i with
        | zero => rfl
        | succ i =>
          show (Txt.startswith (ws.getD i "") "@" && headLet y) = (headLet (ws.getD (i + 1) "") && Txt.startswith (ws.getD i "") "@")
          rw [gy, Bool.and_comm]
      have fin : ∀ {t2 : Str}, t2.length ≤ 10 * i + 1 → t2.cps.toList = gFB ws i ++ (if spP none ws i = true then [32] else []) → W (pure0 K) (tSeq (tAsg (tOp (fun x y H Q => ∃ i j, x = .str i ∧ y = .str j ∧ i.length + j.length ≤ sizeLine ∧ Q (.str (i ++ j)) H) (tVar 1) (tVar 3)) (gName 1)) (tAsg (tOp rEq (tOp rIxS (tVar 3) (tC (.int 0))) (tC (.str "@"))) (gName 2))) [.f (rowT r), .f (.str t2), .f (.bl (cFB ws i)), .f (.str y)] { nx := fun Γ' => Sub Γ' [.f (rowT r), .f (.str (tFB ws (i + 1))), .f (.bl (cFB ws (i + 1))), .any], ct := fun Γ' => Sub Γ' [.f (rowT r), .f (.str (tFB ws (i + 1))), .f (.bl (cFB ws (i + 1))), .any], rt := fun x => x = .str (glueW ws) } := fun {t2} tl2 e2 => by
        refine w_set (x_op (x_var rfl) (x_var rfl) (o_catS (by have := wy.2; omega))) ?_
        walk_at "d"
        have e3 : t2 ++ y = tFB ws (i + 1) := by
          have : (t2 ++ y).cps.toList = gFB ws (i + 1) := by rw [cat_cpsB, e2, gFB_succ, gy, List.append_assoc]
          rw [str_of_cps this]
          rfl
        rw [e3]
        refine s_set (d := .bl (cFB ws (i + 1))) ((x_op (x_op (x_var rfl) x_int (o_ixS0 hc (by have := wy.2; omega))) x_str o_eqS).is ?_) (by walk_at "s")
        show Dt.bl _ = Dt.bl (Txt.startswith (ws.getD i "") "@")
        rw [gy, startsB hc]
      refine w_if (b := cFB ws i && headLet y) (xt_and (xt_test (x_var rfl)) fun _ => (xt_test (x_op (x_op (x_var rfl) x_int (o_ixS0 hc (by have := wy.2; omega))) x_str o_inS1)).is (headLet_of hc).symm) (fun cc => ?_) (fun cc => w_next ?_)
      · refine s_set (x_op (x_var rfl) x_str (o_catS (by show _ + 1 ≤ _; omega))) ?_
        walk_at "d"
        rw [sp] at cc
        refine W.post (fin (t2 := tFB ws i ++ " ") (by show ((tFB ws i).cps ++ (" " : Str).cps).size ≤ _; rw [Array.size_append]; show (tFB ws i).length + 1 ≤ _; omega) (by rw [cat_cpsB, if_pos cc]; rfl)) (fun _ z => z) (fun _ z => z) (fun _ z => z.elim) fun _ z => z
      · rw [sp] at cc
        refine W.post (fin (t2 := tFB ws i) (by omega) (by rw [if_neg (by rw [cc]; decide), List.append_nil]; rfl)) (fun _ z => z) (fun _ z => z) (fun _ z => z.elim) fun _ z => z
    · refine w_ret (x_var rfl) ?_
      rw [List.length_map, tFB_glue]
end
/-! the rows in an item; all rows -/
def RInB : List Dt → Dt → Prop := fun ds d => ∃ i : FItem, ds = [itemT i] ∧ i.words.length ≤ 100000 ∧ d = .lst (i.rows.map rowT)
def RRws (n : Nat) : List Dt → Dt → Prop := fun ds d => ∃ r : FRow, ds = [rowT r] ∧ r.dep < n ∧ r.words.length ≤ 100000 ∧ d = .lst (r.pre.map rowT)
def isYes : FScr → Bool
  | .no => false
  | .yes _ => true
theorem yes_rows (b a : FScr) : (([b, a] : List FScr).filter isYes).map Mg.Nw.scrT = (b.rows ++ a.rows).map rowT := by
  cases b <;> cases a <;> rfl
theorem non_scr (b : FScr) : (Mg.Nw.scrT b).isNon = !isYes b := by cases b <;> rfl
theorem obj_scr (b : FScr) : (Mg.Nw.scrT b).noObj = true := by cases b <;> rfl
section
variable {P : Program} {w : World} {K : PySem.W.Frag} {mg : Str → Option Value} {base : Heap} {M : Md} {Γ : List Sl} {ta te tb : TE} {X : XK}
theorem x_negB {i : Int} (h : Nw.E M ta Γ (.int i)) : Nw.E M (tUn (rU fun i => .int (-i)) ta) Γ (.int (-i)) := fun A H0 σ H e Q q => h A H0 σ H e _ fun v H1 n1 tv => ⟨i, isd_int tv, q _ H1 n1 (.int _)⟩
theorem scBInner : FnScope ["item", "nucleus", "below", "above", "rows", "cells", "row"] ["item"] (defScope sBInner) := ⟨rfl, rfl, rfl, by decide +kernel, rfl, by decide +kernel, by decide +kernel⟩
theorem ok_binner {f : Addr} {fd : FuncData} (F : Fun K "_law_inner" "_law_inner" sBInner f fd) (T : TxtB mg) : FnOk P w K mg base CX0 1 f fd ["item"] (spX K RInB) := by
  have sc := scBInner
  refine F.ok scBInner (fun vs H Q E h => ?_) (fun cdv A outer s H vs Q E hr h => ?_)
  · obtain ⟨_, ds, d, _, l, ⟨_, rfl, _⟩, _⟩ := h
    exact l.len
  · obtain ⟨A0, ds, d, av, l, ⟨it, rfl, wl, rfl⟩, k⟩ := h
    refine ⟨_, (pss_cons (ps_asg (pv 0) (pg_tup rfl (pgs_cons (pg_name (i := 1) sc.nd rfl (Or.inl rfl)) (pgs_cons (pg_name (i := 2) sc.nd rfl (Or.inl rfl)) (pgs_cons (pg_name (i := 3) sc.nd rfl (Or.inl rfl)) pgs_nil)))))
  (pss_cons (ps_set (i := 4) sc.nd rfl (Or.inl rfl) (pe_lst pa_nil))
  (pss_cons (ps_if (pt_cmpR op_eq (pe_ix ix_tup (pv 1) pe_int (fun _ _ => rfl)) pe_str (nomark _))
  (pss_one (ps_set (i := 4) sc.nd rfl (Or.inl rfl) (pe_lst (pa_cons (pe_ix ix_tup (pv 1) pe_int (fun _ _ => rfl)) (pa_cons (pe_ix ix_tup (pv 1) pe_int (fun _ _ => rfl)) pa_nil)))))
  (pss_one (ps_if (pt_cmpR op_eq (pe_ix ix_tup (pv 1) pe_int (fun _ _ => rfl)) pe_str (nomark _))
  (pss_one (ps_for PassesOwn.never rfl (pi_tup (pe_ix ix_tup (pv 1) pe_int (fun _ _ => rfl))) (pg_name (i := 5) sc.nd rfl (Or.inl rfl))
  (pss_one (ps_set (i := 4) sc.nd rfl (Or.inl rfl) (pe_op op_cat (pv 4) (pe_callTy (r := rListOf K) call_listK (by rfl) T.b_list PyProof.Rows.boot_list (pa_cons (pv 5) pa_nil)))))))
  (pss_one (ps_if (pt_cmpR op_ne (pe_ix ix_tup (pv 1) pe_int (fun _ _ => rfl)) pe_str (nomark _))
  (pss_one (ps_set (i := 4) sc.nd rfl (Or.inl rfl) (pe_lst (pa_cons (pe_ix ix_tup (pv 1) (pe_un un_neg pe_int) (fun _ _ => rfl)) pa_nil))))
  pss_nil)))))
  (pss_one (ps_ret (pe_op op_cat (pv 4) (pe_lc (own := [("row", 6)]) rfl sc.nd (pi_tup (pe_tup (pa_cons (pv 2) (pa_cons (pv 3) pa_nil)))) (blkOk_by (own := [("row", 6)]) (N := ["item", "nucleus", "below", "above", "rows", "cells", "row"]) (sc := defScope sBInner) (by decide +kernel)) (fun _ _ _ _ _ => (pg_name (i := 6) sc.nd rfl (Or.inl rfl))) (fun _ _ _ _ _ => (pts_one (pt_cmpR op_notN (pv 6) pe_non (nomark _)))) (fun _ _ _ _ _ => (pv 6))))))))), ?_⟩
    refine body_ok av l k ?_
    walk_at "go"
    have rl := rows_len it
    cases it with
    | mk m b a =>
    rw [FItem.rows, List.length_append, List.length_append] at rl
    refine w_asg (x_var rfl) (by rw [itemT_eq]; exact gt_tup (gts_cons gt_name (gts_cons gt_name (gts_cons gt_name gts_nil))) rfl) ?_
    walk_at "d"
    refine w_setl (ds := []) (Nat.le_of_ble_eq_true rfl) (xl_lst xa_nil (Nat.zero_le _)) ?_
    walk_at "d"
    obtain ⟨es, he⟩ := nuc_head m
    have tk : ∀ {Γ : List Sl} {y : Str}, Γ[1]? = some (.f (nucT m)) → ET (pure0 K) (tTest (tOp rEq (tOp (rIxT K) (tVar 1) (tC (.int 0))) (tC (.str y)))) Γ (decide (kindW m = y)) := fun h => xt_test (x_op (x_op (x_var h) x_int (by rw [he]; exact o_ixT (show atI _ ((0 : Nat) : Int) = _ from at_nat rfl))) x_str o_eqS)
    have tn : ∀ {Γ : List Sl} {y : Str}, Γ[1]? = some (.f (nucT m)) → ET (pure0 K) (tTest (tOp rNe (tOp (rIxT K) (tVar 1) (tC (.int 0))) (tC (.str y)))) Γ (!decide (kindW m = y)) := fun h => xt_test (x_op (x_op (x_var h) x_int (by rw [he]; exact o_ixT (show atI _ ((0 : Nat) : Int) = _ from at_nat rfl))) x_str o_neS)
    have last : ∀ {P : Po} {Γ' : List Sl} {tl : TE}, (∀ {Γ : List Sl}, Γ[2]? = some (.f (Mg.Nw.scrT b)) → Γ[3]? = some (.f (Mg.Nw.scrT a)) → noOwn Γ [6] = true → (wipeS Γ [6])[6]? = some .any → EL (pure0 K) tl Γ ((b.rows ++ a.rows).map rowT)) → Sub Γ' [.any, .f (nucT m), .f (Mg.Nw.scrT b), .f (Mg.Nw.scrT a), .o (m.rows.map rowT), .any, .any] → P.rt (.lst ((FItem.mk m b a).rows.map rowT)) → W (pure0 K) (tRet (tOp rCat (tVar 4) tl)) Γ' P := fun {P Γ' tl} hl hs hp => by
      refine w_sub hs (w_ret (el_e (xl_cat (r_var rfl) (el_r (hl rfl rfl rfl rfl)) (by rw [List.length_map, List.length_map, List.length_append]; omega))) ?_)
      rw [← List.map_append]
      exact hp
    have go : ∀ {P : Po} {Γ' : List Sl}, Sub Γ' [.any, .f (nucT m), .f (Mg.Nw.scrT b), .f (Mg.Nw.scrT a), .o (m.rows.map rowT), .any, .any] → P.rt (.lst ((FItem.mk m b a).rows.map rowT)) → W (pure0 K) (tRet (tOp rCat (tVar 4) (tLc (iTup K (tTup (tCons (tVar 2) (tCons (tVar 3) tNil)))) (gName 6) (tTest (tOp (fun x y H Q => y = .non ∧ Q (.bl (!decide (x = .non))) H) (tVar 6) (tC .non))) (tVar 6) [6]))) Γ' P := fun hs hp => last (fun {Γ} h2 h3 no h6 => (xl_lcG ([b, a] : List FScr) Mg.Nw.scrT isYes Mg.Nw.scrT (it_tup (x_tup (xa_cons (x_var h2) (xa_one (x_var h3))) (Nat.le_of_ble_eq_true rfl))) (Nat.le_of_ble_eq_true rfl) no fun x hx => ⟨_, _, gt_name, rfl, (xt_test (x_op (x_var (by
        rw [List.getElem?_set, if_pos rfl, if_pos (List.getElem?_eq_some_iff.mp h6).1])) x_non (o_notN (obj_scr x)))).is (by rw [non_scr, Bool.not_not]), fun _ => x_var (by
        rw [List.getElem?_set, if_pos rfl, if_pos (List.getElem?_eq_some_iff.mp h6).1])⟩).is (yes_rows b a)) hs hp
    cases m with
    | sym x =>
      refine w_if (b := false) ((tk rfl).is (kd (w := "symbol") rfl (by decide +kernel))) (fun z => by cases z) (fun _ => ?_)
      refine s_if (b := false) ((tk rfl).is (kd (w := "symbol") rfl (by decide +kernel))) (fun z => by cases z) (fun _ => ?_)
      refine s_if (b := false) ((tn rfl).is (by rw [kd (w := "symbol") (b := true) rfl (by decide +kernel)]; rfl)) (fun z => by cases z) (fun _ => w_next ?_)
      exact go (by walk_at "s") rfl
    | frac o u =>
      refine w_if (b := true) ((tk rfl).is (kd (w := "frac") rfl (by decide +kernel))) (fun _ => ?_) (fun z => by cases z)
      refine s_setl (ds := [rowT o, rowT u]) (Nat.le_of_ble_eq_true rfl) (xl_lst (xa_cons (x_op (d1 := nucT (.frac o u)) (x_var rfl) x_int (o_ixT rfl)) (xa_one (x_op (d1 := nucT (.frac o u)) (x_var rfl) x_int (o_ixT rfl)))) (Nat.le_of_ble_eq_true rfl)) ?_
      walk_at "d"
      exact go (by walk_at "s") rfl
    | grid g =>
      have gl : g.all.length ≤ 100000 := by
        have e : (FNuc.grid g).rows = g.all := rfl
        rw [e] at rl
        omega
      refine w_if (b := false) ((tk rfl).is (kd (w := "grid") rfl (by decide +kernel))) (fun z => by cases z) (fun _ => ?_)
      refine s_if (b := true) ((tk rfl).is (kd (w := "grid") rfl (by decide +kernel))) (fun _ => ?_) (fun z => by cases z)
      refine s_for (ds := g.lines.map fun c => Dt.tup (c.rows.map rowT)) (it_tup (x_op (d1 := nucT (.grid g)) (x_var rfl) x_int (o_ixT rfl))) (fun i => [.any, .f (nucT (.grid g)), .f (Mg.Nw.scrT b), .f (Mg.Nw.scrT a), .o (((g.lines.take i).flatMap FCells.rows).map rowT), .any, .any]) (by walk_at "s") (fun i d hd => ?_) ?_
      · obtain ⟨c, hc, rfl⟩ := Mg.get_map hd
        have snoc : (g.lines.take (i + 1)).flatMap FCells.rows = (g.lines.take i).flatMap FCells.rows ++ c.rows := by
          rw [List.take_add_one, hc]
          simp
        have tl : ((g.lines.take (i + 1)).flatMap FCells.rows).length ≤ g.all.length := by
          rw [FGrid.all_eq]
          conv => rhs; rw [← List.take_append_drop (i + 1) g.lines]
          rw [List.flatMap_append, List.length_append]
          omega
        rw [snoc, List.length_append] at tl
        refine ⟨_, _, gt_name, ?_⟩
        walk_at "d"
        refine s_setl (ds := ((g.lines.take i).flatMap FCells.rows ++ c.rows).map rowT) (Nat.le_of_ble_eq_true rfl) (EL.is (xl_cat (r_var rfl) (el_r (xl_listU (x_var rfl))) (by rw [List.length_map, List.length_map]; omega)) List.map_append.symm) ?_
        walk_at "d"
        rw [snoc]
        walk_at "s"
      · rw [List.length_map, List.take_length, ← FGrid.all_eq]
        exact go (by walk_at "s") rfl
    | group r =>
      refine w_if (b := false) ((tk rfl).is (kd (w := "group") rfl (by decide +kernel))) (fun z => by cases z) (fun _ => ?_)
      refine s_if (b := false) ((tk rfl).is (kd (w := "group") rfl (by decide +kernel))) (fun z => by cases z) (fun _ => ?_)
      refine s_if (b := true) ((tn rfl).is (by rw [kd (w := "group") (b := false) rfl (by decide +kernel)]; rfl)) (fun _ => ?_) (fun z => by cases z)
      refine s_setl (ds := [rowT r]) (Nat.le_of_ble_eq_true rfl) (xl_lst (xa_one (x_op (d1 := nucT (.group r)) (x_var rfl) (x_negB x_int) (o_ixT rfl))) (Nat.le_of_ble_eq_true rfl)) ?_
      walk_at "d"
      exact go (by walk_at "s") rfl
    | root r =>
      refine w_if (b := false) ((tk rfl).is (kd (w := "root") rfl (by decide +kernel))) (fun z => by cases z) (fun _ => ?_)
      refine s_if (b := false) ((tk rfl).is (kd (w := "root") rfl (by decide +kernel))) (fun z => by cases z) (fun _ => ?_)
      refine s_if (b := true) ((tn rfl).is (by rw [kd (w := "root") (b := false) rfl (by decide +kernel)]; rfl)) (fun _ => ?_) (fun z => by cases z)
      refine s_setl (ds := [rowT r]) (Nat.le_of_ble_eq_true rfl) (xl_lst (xa_one (x_op (d1 := nucT (.root r)) (x_var rfl) (x_negB x_int) (o_ixT rfl))) (Nat.le_of_ble_eq_true rfl)) ?_
      walk_at "d"
      exact go (by walk_at "s") rfl
    | fence o c r =>
      refine w_if (b := false) ((tk rfl).is (kd (w := "fence") rfl (by decide +kernel))) (fun z => by cases z) (fun _ => ?_)
      refine s_if (b := false) ((tk rfl).is (kd (w := "fence") rfl (by decide +kernel))) (fun z => by cases z) (fun _ => ?_)
      refine s_if (b := true) ((tn rfl).is (by rw [kd (w := "fence") (b := false) rfl (by decide +kernel)]; rfl)) (fun _ => ?_) (fun z => by cases z)
      refine s_setl (ds := [rowT r]) (Nat.le_of_ble_eq_true rfl) (xl_lst (xa_one (x_op (d1 := nucT (.fence o c r)) (x_var rfl) (x_negB x_int) (o_ixT rfl))) (Nat.le_of_ble_eq_true rfl)) ?_
      walk_at "d"
      exact go (by walk_at "s") rfl
theorem pre_len (r : FRow) : r.pre.length ≤ r.words.length + 1 := by
  have := inn_row r
  unfold FRow.pre
  rw [List.length_cons]
  omega
theorem scBRows : FnScope ["row", "found", "item", "inner"] ["row"] (defScope sBRows) := ⟨rfl, rfl, rfl, by decide +kernel, rfl, by decide +kernel, by decide +kernel⟩
theorem ok_brows1 {n : Nat} {f : Addr} {fd : FuncData} (F : Fun K "_law_rows" "_law_rows" sBRows f fd) (C_law_inner : Cal P w K mg base CX0 1 "_law_inner" ["item"] (spX K RInB)) (C_law_rows : Cal P w K mg base CX0 (n + 1) "_law_rows" ["row"] (spX K (RRws n))) : FnOk P w K mg base CX0 (n + 2) f fd ["row"] (spX K (RRws (n + 1))) := by
  have sc := scBRows
  refine F.ok scBRows (fun vs H Q E h => ?_) (fun cdv A outer s H vs Q E hr h => ?_)
  · obtain ⟨_, ds, d, _, l, ⟨_, rfl, _⟩, _⟩ := h
    exact l.len
  · obtain ⟨A0, ds, d, av, l, ⟨r, rfl, dep, wl, rfl⟩, k⟩ := h
    refine ⟨_, (pss_cons (ps_set (i := 1) sc.nd rfl (Or.inl rfl) (pe_lst (pa_cons (pv 0) pa_nil)))
  (pss_cons (ps_for PassesOwn.never rfl (pi_tup (pv 0)) (pg_name (i := 2) sc.nd rfl (Or.inl rfl))
  (pss_one (ps_for PassesOwn.never rfl (pi_list (pe_cal C_law_inner (hr.mono (by omega)) rfl pass0 (pa_cons (pv 2) pa_nil))) (pg_name (i := 3) sc.nd rfl (Or.inl rfl))
  (pss_one (ps_set (i := 1) sc.nd rfl (Or.inl rfl) (pe_op op_cat (pv 1) (pe_cal C_law_rows (hr.mono (by omega)) rfl pass0 (pa_cons (pv 3) pa_nil))))))))
  (pss_one (ps_ret (pv 1))))), ?_⟩
    refine body_ok av l k ?_
    walk_at "go"
    have pl := pre_len r
    have cut : ∀ i, ((r.items.take i).flatMap FItem.inn).length ≤ 100000 := fun i => by
      have h1 := inn_row r
      rw [FRow.inn_eq] at h1
      have h2 : r.items.flatMap FItem.inn = (r.items.take i).flatMap FItem.inn ++ (r.items.drop i).flatMap FItem.inn := by rw [← List.flatMap_append, List.take_append_drop]
      rw [h2, List.length_append] at h1
      omega
    refine w_setl (ds := (r :: (r.items.take 0).flatMap FItem.inn).map rowT) (Nat.le_of_ble_eq_true rfl) (EL.is (xl_lst (xa_one (x_var rfl)) (Nat.le_of_ble_eq_true rfl)) rfl) ?_
    walk_at "d"
    refine w_for (ds := r.items.map itemT) (it_tup (x_var rfl)) (fun i => [.f (rowT r), .o ((r :: (r.items.take i).flatMap FItem.inn).map rowT), .any, .any]) (by walk_at "s") (fun i d hd => ?_) ?_
    · obtain ⟨it, hi, rfl⟩ := Mg.get_map hd
      have im := List.mem_of_getElem? hi
      have di := FRow.dep_le.mp (Nat.le_of_lt_succ dep) it im
      have wi := words_item im
      have snoc : (r.items.take (i + 1)).flatMap FItem.inn = (r.items.take i).flatMap FItem.inn ++ it.rows.flatMap FRow.pre := by
        rw [List.take_add_one, hi]
        simp [FItem.inn_eq]
      have ct := cut (i + 1)
      rw [snoc, List.length_append] at ct
      refine ⟨_, _, gt_name, ?_⟩
      walk_at "d"
      refine s_for (ds := it.rows.map rowT) (it_lst (x_call (M := pure0 K) (xa_one (x_var rfl)) ⟨it, rfl, by omega, rfl⟩)) (fun j => [.f (rowT r), .o ((r :: ((r.items.take i).flatMap FItem.inn ++ (it.rows.take j).flatMap FRow.pre)).map rowT), .f (itemT it), .any]) (by
          rw [List.take_zero, List.flatMap_nil, List.append_nil]
          walk_at "s") (fun j d hd => ?_) ?_
      · obtain ⟨q, hq, rfl⟩ := Mg.get_map hd
        have qm := List.mem_of_getElem? hq
        have wq := words_rows qm
        have snoc2 : (it.rows.take (j + 1)).flatMap FRow.pre = (it.rows.take j).flatMap FRow.pre ++ q.pre := by
          rw [List.take_add_one, hq]
          simp
        have c2 : ((it.rows.take (j + 1)).flatMap FRow.pre).length ≤ (it.rows.flatMap FRow.pre).length := by
          conv => rhs; rw [← List.take_append_drop (j + 1) it.rows]
          rw [List.flatMap_append, List.length_append]
          omega
        rw [snoc2, List.length_append] at c2
        refine ⟨_, _, gt_name, ?_⟩
        walk_at "d"
        refine s_setl (ds := (r :: ((r.items.take i).flatMap FItem.inn ++ (it.rows.take j).flatMap FRow.pre) ++ q.pre).map rowT) (Nat.le_of_ble_eq_true rfl) (EL.is (xl_cat (r_var rfl) (e_r (x_call (M := pure0 K) (xa_one (x_var rfl)) ⟨q, rfl, FItem.dep_le.mp di q qm, by omega, rfl⟩)) (by
            rw [List.length_map, List.length_map, List.length_cons, List.length_append]
            omega)) List.map_append.symm) ?_
        walk_at "d"
        rw [snoc2]
        have e : r :: ((r.items.take i).flatMap FItem.inn ++ (it.rows.take j).flatMap FRow.pre) ++ q.pre = r :: ((r.items.take i).flatMap FItem.inn ++ ((it.rows.take j).flatMap FRow.pre ++ q.pre)) := by simp
        rw [e]
        walk_at "s"
      · show Sub _ _
        rw [List.length_map, List.take_length, snoc]
        walk_at "s"
    · refine w_retO rfl ?_
      rw [List.length_map, List.take_length, ← FRow.inn_eq]
      rfl
theorem brows_all {f : Addr} {fd : FuncData} (F : Fun K "_law_rows" "_law_rows" sBRows f fd) (C_law_inner : Cal P w K mg base CX0 1 "_law_inner" ["item"] (spX K RInB)) (c : Abk K mg "_law_rows" f fd ["row"]) : ∀ n, Cal P w K mg base CX0 (n + 1) "_law_rows" ["row"] (spX K (RRws n)) := by
  intro n
  induction n with
  | zero => exact ⟨f, fd, FnOk.vac fun vs H Q E ⟨_, _, _, _, _, ⟨_, _, h, _⟩, _⟩ => Nat.not_lt_zero _ h, c.1, c.2.1, c.2.2⟩
  | succ n ih => exact ⟨f, fd, ok_brows1 F C_law_inner ih, c.1, c.2.1, c.2.2⟩
/-! small formulas -/
def smB (r : FRow) : Bool := decide (r.count ≤ 80) && decide (((glueW r.words).length : Int) ≤ 400)
def RSmB : List Dt → Dt → Prop := fun ds d => ∃ r : FRow, ds = [rowT r] ∧ FmB r ∧ d = .bl (smB r)
def RFmB : List Dt → Dt → Prop := fun ds d => ∃ (c : Int) (m : Nat) (r : FRow), ds = [.int c, .int (m : Int)] ∧ m ≤ 10 ∧ FmB r ∧ smB r = true ∧ d = rowT r
theorem glue_lenB {ws : List Str} (h : ∀ x ∈ ws, x.length ≤ 9) : (glueW ws).length ≤ 10 * ws.length := by
  have := gFB_len h ws.length (Nat.le_refl _)
  rw [← gFB_glue] at this
  exact this
theorem scBSmall : FnScope ["row", "inner"] ["row"] (defScope sBSmall) := ⟨rfl, rfl, rfl, by decide +kernel, rfl, by decide +kernel, by decide +kernel⟩
theorem ok_bsmall {f : Addr} {fd : FuncData} (F : Fun K "_law_small" "_law_small" sBSmall f fd) (T : TxtSrc mg) (C_law_rows : Cal P w K mg base CX0 5 "_law_rows" ["row"] (spX K (RRws 4))) (C_law_text : Cal P w K mg base CX0 13 "_law_text" ["row"] (spX K RText)) : FnOk P w K mg base CX0 14 f fd ["row"] (spX K RSmB) := by
  have sc := scBSmall
  refine F.ok scBSmall (fun vs H Q E h => ?_) (fun cdv A outer s H vs Q E hr h => ?_)
  · obtain ⟨_, ds, d, _, l, ⟨_, rfl, _⟩, _⟩ := h
    exact l.len
  · obtain ⟨A0, ds, d, av, l, ⟨r, rfl, fm, rfl⟩, k⟩ := h
    refine ⟨_, (pss_one (ps_ret (pe_and (pe_cmpR op_le (pe_callB (r := rSum K) (cr_sum rfl) (by rfl) T.b_sum (by decide +kernel) (pa_cons (pe_lc (own := [("inner", 1)]) rfl sc.nd (pi_list (pe_cal C_law_rows (hr.mono (by omega)) rfl pass0 (pa_cons (pv 0) pa_nil))) (blkOk_by (own := [("inner", 1)]) (N := ["row", "inner"]) (sc := defScope sBSmall) (by decide +kernel)) (fun _ _ _ _ _ => (pg_name (i := 1) sc.nd rfl (Or.inl rfl))) (fun _ _ _ _ _ => pts_nil) (fun _ _ _ _ _ => (pe_callB (r := rLenQ K) call_lenK (by rfl) T.b_len PySem.boot_len (pa_cons (pv 1) pa_nil)))) pa_nil)) pe_int (nomark _)) (pe_one (pe_cmpR op_le (pe_callB call_len_str (by rfl) T.b_len PySem.boot_len (pa_cons (pe_cal C_law_text (hr.mono (by omega)) rfl pass0 (pa_cons (pv 0) pa_nil)) pa_nil)) pe_int (nomark _)))))), ?_⟩
    refine body_ok av l k ?_
    walk_at "go"
    have wl := fm.wl
    have dp := fm.dep
    have pl := pre_len r
    have gl := glue_lenB (fun x hx => (words_row wkB fm.g x hx).2)
    refine w_ret (x_and (x_op (x_sum (ns := r.pre.map fun q => (q.items.length : Int)) (el_r (EL.is (xl_lc r.pre rowT (fun q => .int (q.items.length : Nat)) (it_lst (x_call (M := pure0 K) (xa_one (x_var rfl)) ⟨r, rfl, by omega, by omega, rfl⟩)) (by omega) rfl fun q hq => ⟨_, _, gt_name, rfl, (x_lenU (x_var rfl)).is (by rw [List.length_map])⟩) (by rw [List.map_map]; rfl)))) x_int o_I0b) fun _ => x_op (x_lenS (xa_one (x_call (M := pure0 K) (xa_one (x_var rfl)) ⟨r, rfl, fm, rfl⟩)) (by omega)) x_int o_I0b) rfl
theorem scBFormula : FnScope ["cell", "most", "row"] ["cell", "most"] (defScope sBFormula) := ⟨rfl, rfl, rfl, by decide +kernel, rfl, by decide +kernel, by decide +kernel⟩
theorem ok_bformula {f : Addr} {fd : FuncData} (F : Fun K "_law_formula" "_law_formula" sBFormula f fd) (C_law_drawn : Cal P w K mg base CX0 9 "_law_drawn" ["cell", "most"] (spN K RDrawn)) (C_law_small : Cal P w K mg base CX0 14 "_law_small" ["row"] (spX K RSmB)) : FnOk P w K mg base CX0 15 f fd ["cell", "most"] (spN K RFmB) := by
  have sc := scBFormula
  refine F.ok scBFormula (fun vs H Q E h => ?_) (fun cdv A outer s H vs Q E hr h => ?_)
  · obtain ⟨_, ds, _, l, ⟨d, _, _, _, rfl, _⟩, _⟩ := h
    exact l.len
  · obtain ⟨A0, ds, av, l, ⟨d0, c, m, r0, rfl, m10, _⟩, k⟩ := h
    refine ⟨_, (pss_cons (ps_set (i := 2) sc.nd rfl (Or.inl rfl) (pe_cal C_law_drawn (hr.mono (by omega)) rfl pass0 (pa_cons (pv 0) (pa_cons (pv 1) pa_nil))))
  (pss_one (ps_ret (pe_ifExp (pt_val (pe_cal C_law_small (hr.mono (by omega)) rfl pass0 (pa_cons (pv 2) pa_nil))) (pv 2) (pe_ifExp (pt_val (pe_cal C_law_small (hr.mono (by omega)) rfl pass0 (pa_cons (pe_slice sl_tupA (pv 2) po_none (po_some pe_int)) pa_nil))) (pe_slice sl_tupA (pv 2) po_none (po_some pe_int)) (pe_tup pa_nil)))))), ?_⟩
    refine body_okN av l k ?_
    walk_at "go"
    refine w_setN (en_ncall (ena_cons (en_of (x_var rfl)) (ena_cons (en_of (x_var rfl)) ena_nil)) ?_) fun d hd => ?_
    · rintro ds ⟨_, _, rfl, rfl, _, _, rfl, rfl, rfl⟩
      exact ⟨_, c, m, .nil, rfl, m10, FmB.nil, rfl⟩
    obtain ⟨_, ⟨_, _, rfl, rfl, _, _, rfl, rfl, rfl⟩, c', m', r, e, _, fm, rfl⟩ := hd
    walk_at "d"
    have one : ∀ {Γ : List Sl}, Γ[2]? = some (.f (rowT r)) → Nw.E (pure0 K) (tSl (rSlA K) (tVar 2) tNoPart (tPart (tC (.int 1)))) Γ (rowT (oneR r)) := fun h => by
      rw [rowT_one]
      exact x_sl1 (x_var h) xo_no (xo_some x_int)
    have ts : ∀ {Γ : List Sl} {ta : TE} {q : FRow} {X : XK}, FmB q → Nw.E (pure0 K) ta Γ (rowT q) → ET (pure0 K) (tTest (tCall (spX K RSmB) [] X (tCons ta tNil))) Γ (smB q) := fun fq h => xt_test (x_call (M := pure0 K) (xa_one h) ⟨_, rfl, fq, rfl⟩)
    cases h1 : smB r with
    | true => exact w_ret (x_if (b := true) ((ts fm (x_var rfl)).is h1) (fun _ => x_var rfl) (fun z => by cases z)) ⟨c, m, r, rfl, m10, fm, h1, rfl⟩
    | false =>
      cases h2 : smB (oneR r) with
      | true => exact w_ret (x_if (b := false) ((ts fm (x_var rfl)).is h1) (fun z => by cases z) (fun _ => x_if (b := true) ((ts fm.one (one rfl)).is h2) (fun _ => one rfl) (fun z => by cases z))) ⟨c, m, oneR r, rfl, m10, fm.one, h2, rfl⟩
      | false => exact w_ret (d := rowT .nil) (x_if (b := false) ((ts fm (x_var rfl)).is h1) (fun z => by cases z) (fun _ => x_if (b := false) ((ts fm.one (one rfl)).is h2) (fun z => by cases z) (fun _ => x_tup xa_nil (Nat.zero_le _)))) ⟨c, m, .nil, rfl, m10, FmB.nil, by decide +kernel, rfl⟩
end
end Mg.Nw

set_option Elab.async false
set_option linter.all false
set_option maxRecDepth 100000
set_option maxHeartbeats 1000000
namespace Mg.Nw
open PySem PySem.Spec PyProof.Rows L2
local macro_rules | `(tactic| walk_at "op") => `(tactic| first | exact o_I0i | exact o_I0b | exact o_ixT rfl | exact o_eqS | exact o_neS | exact o_eqI | exact o_neI | exact o_isN rfl | exact o_notN rfl | exact o_Ii (.inl ⟨by decide, by decide⟩) | exact o_Ii (.inr ⟨by decide, by decide⟩) | exact o_Ii ⟨by decide, by decide⟩ | skip)
local macro_rules | `(tactic| walk_at "x") => `(tactic| first
  | exact x_int | exact x_str | exact x_bl | exact x_non | exact xa_nil | exact xo_no | exact x_var rfl | exact r_var rfl | exact xt_yes
  | ((with_reducible apply xa_cons) <;> walk_at "x")
  | ((with_reducible apply x_op) <;> walk_at "x")
  | ((with_reducible apply x_ixL) <;> walk_at "x")
  | ((with_reducible apply x_tup) <;> walk_at "x")
  | ((with_reducible apply xl_lst) <;> walk_at "x")
  | ((with_reducible apply xl_cat) <;> walk_at "x")
  | ((with_reducible apply x_catT) <;> walk_at "x")
  | ((with_reducible apply x_slT) <;> walk_at "x")
  | ((with_reducible apply xl_slL) <;> walk_at "x")
  | ((with_reducible apply xo_some) <;> walk_at "x")
  | ((with_reducible apply xt_test) <;> walk_at "x")
  | ((with_reducible apply xt_B) <;> walk_at "x")
  | ((with_reducible apply xt_not) <;> walk_at "x")
  | ((with_reducible apply xt_and) <;> walk_at "x")
  | ((with_reducible apply xt_or) <;> walk_at "x")
  | ((with_reducible apply x_and) <;> walk_at "x")
  | ((with_reducible apply x_or) <;> walk_at "x")
  | ((with_reducible apply x_not) <;> walk_at "x")
  | ((with_reducible apply it_tup) <;> walk_at "x")
  | ((with_reducible apply it_lst) <;> walk_at "x")
  | ((with_reducible apply it_enum) <;> walk_at "x")
  | ((with_reducible apply it_zip) <;> walk_at "x")
  | ((with_reducible apply it_rev) <;> walk_at "x")
  | exact gt_name | exact gts_nil
  | ((with_reducible apply gt_tup) <;> walk_at "x")
  | ((with_reducible apply gt_lst) <;> walk_at "x")
  | ((with_reducible apply gts_cons) <;> walk_at "x")
  | (with_reducible apply x_b2; walk_at "x"; walk_at "x"; exact b_max2)
  | (with_reducible apply x_lenU; walk_at "x"; done)
  | (with_reducible apply x_lenL; walk_at "x"; done)
  | ((with_reducible apply x_sum) <;> walk_at "x")
  | ((with_reducible apply x_max) <;> walk_at "x")
  | ((with_reducible apply x_call) <;> walk_at "x")
  | ((with_reducible apply xt_tuple) <;> walk_at "x")
  | (with_reducible apply xl_listU; walk_at "x"; done)
  | (with_reducible apply xl_listL; walk_at "x"; done)
  | (with_reducible apply el_r; walk_at "y")
  | (with_reducible apply el_e; walk_at "y")
  | (with_reducible apply e_r; walk_at "x")
  | exact Nat.le_of_ble_eq_true rfl
  | exact List.cons_ne_nil _ _
  | rfl
  | (simp only [List.length_cons, List.length_nil]; decide +kernel)
  | (with_reducible intro _; walk_at "x")
  | walk_at "op")
local macro_rules | `(tactic| walk_at "y") => `(tactic| first
  | ((with_reducible apply xl_lst) <;> walk_at "x")
  | ((with_reducible apply xl_cat) <;> walk_at "x")
  | ((with_reducible apply xl_slL) <;> walk_at "x")
  | (with_reducible apply xl_listU; walk_at "x"; done)
  | (with_reducible apply xl_listL; walk_at "x"; done))
local macro_rules | `(tactic| walk_at "s") => `(tactic| first | exact Sub.nil | (apply Sub.cons; (first | exact SlLe.refl | exact SlLe.any | exact SlLe.frz | skip); walk_at "s") | skip)
local macro_rules | `(tactic| walk_at "d") => `(tactic| try dsimp only [List.set, wipeS])
local macro_rules | `(tactic| walk_at "go") => `(tactic| ((try dsimp only [cxOf]); simp only [st0, List.map_cons, List.map_nil, List.length_cons, List.length_nil, List.cons_append, List.nil_append, Nat.reduceAdd, Nat.reduceSub, List.replicate]))

/-! reading texts -/
theorem nmB_sy : ∀ x, nmB x → Sy x := by
  show ∀ x ∈ sy9, x.length ≤ 1000 ∧ isSymbol x = true
  decide +kernel
theorem delB_sy : ∀ o, delB o → Sy (delimW o) := by
  rintro o (rfl | rfl | rfl) <;> exact ⟨by decide +kernel, by decide +kernel⟩
theorem delB_opt : ∀ o, delB o → optW (delimW o) = o := by
  rintro o (rfl | rfl | rfl) <;> decide +kernel
theorem twB : WKind nmB delB Tw := ⟨fun x h => sy_tw (nmB_sy x h), fun o h => sy_tw (delB_sy o h), fun x h => mark_tw (by
  have : ∀ x ∈ ([("{" : Str), "}", "_", "^", "&", "~", "@frac", "@root", "@left", "@right", "@grid"] : List Str), x ∈ marks := by decide +kernel
  exact this x h)⟩
theorem parse_glue {n : Nat} {r : FRow} (fm : FmB r) (sm : smB r = true) (hn : 4 ≤ n) : RParse n [.str (glueW r.words)] r.d := by
  unfold smB at sm
  rw [Bool.and_eq_true, decide_eq_true_eq, decide_eq_true_eq] at sm
  have dp := fm.dep
  have wl := fm.wl
  have tf := FRow.t_f delB_opt r fm.g
  exact ⟨glueW r.words, 0, spW r.words, r.t, rfl, by rw [glue_txt]; rfl, spW_ok (words_row twB fm.g), by rw [spW_fst, FRow.t_ws], by omega, FRow.t_ok nmB_sy delB_sy r fm.g, by rw [FRow.t_h]; omega, by rw [FRow.t_h]; omega,
    by rw [tf]; exact ⟨by omega, by omega, by omega, words_row wkB fm.g, sm.1, by omega⟩, by rw [tf]⟩
/-- known texts -/
def wrdB (w : Str) : Bool := (isSymbol w && decide (w.length ≤ 1000)) || decide (w ∈ marks)
def tokB : List (Str × Nat) → Bool
  | [] => true
  | [(w, _)] => wrdB w
  | (w, k) :: (w', k') :: r => wrdB w && (!(isCommand w && headLet w') || decide (1 ≤ k)) && tokB ((w', k') :: r)
theorem wrdB_tw {w : Str} (h : wrdB w = true) : Tw w := by
  unfold wrdB at h
  rw [Bool.or_eq_true, Bool.and_eq_true, decide_eq_true_eq, decide_eq_true_eq] at h
  rcases h with h | h
  · exact sy_tw ⟨h.2, h.1⟩
  · exact mark_tw h
theorem tokB_ok : ∀ {l : List (Str × Nat)}, tokB l = true → TOk l
  | [], _ => trivial
  | [(w, k)], h => ⟨wrdB_tw h, (fun _ _ _ e => by cases e), trivial⟩
  | (w, k) :: (w', k') :: r, h => by
    rw [tokB, Bool.and_eq_true, Bool.and_eq_true] at h
    refine ⟨wrdB_tw h.1.1, fun v j r' e hc hl => ?_, tokB_ok h.2⟩
    cases e
    have := h.1.2
    rw [hc, hl] at this
    simpa using this
theorem x_parse {M : Md} {Γ : List Sl} {te : TE} {X : XK} {n : Nat} {t : Str} {d : PyData} (h : Nw.E M te Γ (.str t)) (r : RParse n [.str t] d) : Nw.E M (tCall (spR M.K (RParse n)) [] X (tCons te tNil)) Γ (pd d) := x_callO (ds := [.str t]) (xa_one h) rfl r
/-! the places of carets -/
abbrev sPlacesOf : Stmt := top 46
abbrev sBPlaces : Stmt := top 61
def cntP (l : List FRow) : Nat := (l.map fun q => q.pre.length).sum
def inP (f : FRow → Int → List (Int × Int)) : List FRow → Int → List (Int × Int)
  | [], _ => []
  | q :: qs, a => f q a ++ inP f qs (a + q.pre.length)
def itP (f : FRow → Int → List (Int × Int)) (num : Int) : List FItem → Nat → Int → List (Int × Int)
  | [], _, _ => []
  | i :: is, k, a => inP f i.rows a ++ (num, ((k + 1 : Nat) : Int)) :: itP f num is (k + 1) (a + cntP i.rows)
def cntI (l : List FItem) : Nat := (l.map fun i => cntP i.rows).sum
def plcN : Nat → FRow → Int → List (Int × Int)
  | 0, _, _ => []
  | n + 1, r, num => (num, 0) :: itP (plcN n) num r.items 0 (num + 1)
def pairT (p : Int × Int) : Dt := .tup [.int p.1, .int p.2]
section
variable {f : FRow → Int → List (Int × Int)} {num a : Int}
theorem cntP_app (l m : List FRow) : cntP (l ++ m) = cntP l + cntP m := by unfold cntP; rw [List.map_append, List.sum_append]
theorem cntI_app (l m : List FItem) : cntI (l ++ m) = cntI l + cntI m := by unfold cntI; rw [List.map_append, List.sum_append]
theorem inP_snoc : ∀ (l : List FRow) (q : FRow) (a : Int), inP f (l ++ [q]) a = inP f l a ++ f q (a + cntP l)
  | [], q, a => by simp [inP, cntP]
  | x :: l, q, a => by
    rw [List.cons_append, inP, inP, inP_snoc l q, List.append_assoc]
    have : a + (x.pre.length : Int) + (cntP l : Int) = a + (cntP (x :: l) : Int) := by
      show _ = a + ((x.pre.length + cntP l : Nat) : Int)
      omega
    rw [this]
theorem itP_snoc : ∀ (l : List FItem) (i : FItem) (k : Nat) (a : Int), itP f num (l ++ [i]) k a = itP f num l k a ++ (inP f i.rows (a + cntI l) ++ [(num, ((k + l.length + 1 : Nat) : Int))])
  | [], i, k, a => by simp [itP, cntI]
  | x :: l, i, k, a => by
    rw [List.cons_append, itP, itP, itP_snoc l i]
    have : a + (cntP x.rows : Int) + (cntI l : Int) = a + (cntI (x :: l) : Int) := by
      show _ = a + ((cntP x.rows + cntI l : Nat) : Int)
      omega
    have e2 : k + 1 + l.length + 1 = k + (x :: l).length + 1 := by rw [List.length_cons]; omega
    rw [this, e2]
    simp
theorem cntP_flat (l : List FRow) : cntP l = (l.flatMap FRow.pre).length := by
  unfold cntP
  rw [List.length_flatMap]
theorem cntI_flat (l : List FItem) : cntI l = (l.flatMap FItem.inn).length := by
  unfold cntI
  rw [List.length_flatMap]
  congr 1
  apply List.map_congr_left
  intro i _
  rw [FItem.inn_eq, cntP_flat]
/-- how many -/
theorem inP_len (cn : FRow → Nat) : ∀ (l : List FRow), (∀ q ∈ l, ∀ a, (f q a).length = cn q) → ∀ a, (inP f l a).length = (l.map cn).sum
  | [], _, _ => rfl
  | x :: l, h, a => by
    rw [inP, List.length_append, h x List.mem_cons_self, inP_len cn l (fun q hq => h q (List.mem_cons_of_mem _ hq))]
    rfl
theorem itP_len (cn : FRow → Nat) : ∀ (l : List FItem), (∀ i ∈ l, ∀ q ∈ i.rows, ∀ a, (f q a).length = cn q) → ∀ k a, (itP f num l k a).length = (l.map fun i => (i.rows.map cn).sum + 1).sum
  | [], _, _, _ => rfl
  | x :: l, h, k, a => by
    rw [itP, List.length_append, List.length_cons, inP_len cn x.rows (h x List.mem_cons_self), itP_len cn l fun i hi => h i (List.mem_cons_of_mem _ hi)]
    rw [List.map_cons, List.sum_cons]
    omega
end
def cnR (r : FRow) : Nat := r.pre.length + (r.pre.map fun q => q.items.length).sum
theorem sum_add {α : Type} (f g : α → Nat) : ∀ l : List α, (l.map fun x => f x + g x).sum = (l.map f).sum + (l.map g).sum
  | [] => rfl
  | x :: l => by
    simp only [List.map_cons, List.sum_cons, sum_add f g l]
    omega
theorem sum_flat {α : Type} (g : α → Nat) : ∀ l : List (List α), (l.flatten.map g).sum = (l.map fun x => (x.map g).sum).sum
  | [] => rfl
  | x :: l => by
    simp only [List.flatten_cons, List.map_append, List.sum_append, List.map_cons, List.sum_cons, sum_flat g l]
theorem cnR_flat (l : List FRow) : (l.map cnR).sum = (l.flatMap FRow.pre).length + ((l.flatMap FRow.pre).map fun q => q.items.length).sum := by
  unfold cnR
  rw [sum_add, List.length_flatMap, List.flatMap_def, sum_flat, List.map_map]
  rfl
theorem plcN_len : ∀ (n : Nat) (r : FRow), r.dep < n → ∀ a, (plcN n r a).length = cnR r
  | 0, _, h, _ => absurd h (Nat.not_lt_zero _)
  | n + 1, r, h, a => by
    rw [plcN, List.length_cons, itP_len cnR r.items fun i hi q hq b => plcN_len n q (by
      have := FItem.dep_le.mp (FRow.dep_le.mp (Nat.le_of_lt_succ h) i hi) q hq
      omega) b]
    rw [sum_add (fun i : FItem => (i.rows.map cnR).sum) (fun _ => 1)]
    have e1 : (r.items.map fun _ => 1).sum = r.items.length := by
      generalize r.items = l
      induction l with
      | nil => rfl
      | cons x l ih => simp only [List.map_cons, List.sum_cons, ih, List.length_cons]; omega
    have e2 : (r.items.map fun i : FItem => (i.rows.map cnR).sum).sum = r.inn.length + (r.inn.map fun q => q.items.length).sum := by
      rw [FRow.inn_eq]
      have : (fun i : FItem => (i.rows.map cnR).sum) = fun i => i.inn.length + (i.inn.map fun q => q.items.length).sum := by
        funext i
        rw [cnR_flat, ← FItem.inn_eq]
      rw [this, sum_add, List.length_flatMap, List.flatMap_def, sum_flat, List.map_map]
      rfl
    rw [e1, e2]
    unfold cnR FRow.pre
    rw [List.length_cons, List.map_cons, List.sum_cons]
    omega
/-! where they are, and that none is there twice -/
structure In (a : Int) (L : List FRow) (p : Int × Int) : Prop where
  ex : ∃ (j : Nat) (q : FRow), p.1 = a + j ∧ L[j]? = some q ∧ 0 ≤ p.2 ∧ p.2 ≤ q.items.length
theorem In.left {a : Int} {L M : List FRow} {p : Int × Int} (h : In a L p) : In a (L ++ M) p := by
  obtain ⟨j, q, h1, h2, h3⟩ := h.ex
  exact ⟨j, q, h1, by rw [List.getElem?_append_left (List.getElem?_eq_some_iff.mp h2).1]; exact h2, h3⟩
theorem In.right {a : Int} {L M : List FRow} {p : Int × Int} (h : In (a + L.length) M p) : In a (L ++ M) p := by
  obtain ⟨j, q, h1, h2, h3⟩ := h.ex
  exact ⟨L.length + j, q, by rw [h1]; omega, by rw [List.getElem?_append_right (by omega), Nat.add_sub_cancel_left]; exact h2, h3⟩
theorem In.rng {a : Int} {L : List FRow} {p : Int × Int} (h : In a L p) : a ≤ p.1 ∧ p.1 < a + L.length := by
  obtain ⟨j, q, h1, h2, h3⟩ := h.ex
  have := (List.getElem?_eq_some_iff.mp h2).1
  omega
section
variable {f : FRow → Int → List (Int × Int)} {num a : Int}
theorem inP_in : ∀ (l : List FRow), (∀ q ∈ l, ∀ a, ∀ p ∈ f q a, In a q.pre p) → ∀ a, ∀ p ∈ inP f l a, In a (l.flatMap FRow.pre) p
  | [], _, _, _, h => nomatch h
  | x :: l, h, a, p, hp => by
    rw [List.flatMap_cons]
    rw [inP, List.mem_append] at hp
    rcases hp with hp | hp
    · exact (h x List.mem_cons_self a p hp).left
    · exact (inP_in l (fun q hq => h q (List.mem_cons_of_mem _ hq)) _ p hp).right
theorem itP_in : ∀ (l : List FItem), (∀ i ∈ l, ∀ q ∈ i.rows, ∀ a, ∀ p ∈ f q a, In a q.pre p) → ∀ k a, ∀ p ∈ itP f num l k a, In a (l.flatMap FItem.inn) p ∨ ∃ j : Nat, k < j ∧ j ≤ k + l.length ∧ p = (num, (j : Int))
  | [], _, _, _, _, h => nomatch h
  | x :: l, h, k, a, p, hp => by
    rw [List.flatMap_cons]
    rw [itP, List.mem_append, List.mem_cons] at hp
    rcases hp with hp | rfl | hp
    · rw [FItem.inn_eq]
      exact .inl (inP_in _ (h x List.mem_cons_self) a p hp).left
    · exact .inr ⟨k + 1, by omega, by rw [List.length_cons]; omega, rfl⟩
    · rcases itP_in l (fun i hi => h i (List.mem_cons_of_mem _ hi)) _ _ p hp with z | ⟨j, j1, j2, z⟩
      · refine .inl (In.right ?_)
        rw [FItem.inn_eq, ← cntP_flat]
        exact z
      · exact .inr ⟨j, by omega, by rw [List.length_cons]; omega, z⟩
theorem inP_nd : ∀ (l : List FRow), (∀ q ∈ l, ∀ a, (f q a).Nodup ∧ ∀ p ∈ f q a, In a q.pre p) → ∀ a, (inP f l a).Nodup
  | [], _, _ => List.nodup_nil
  | x :: l, h, a => by
    rw [inP, List.nodup_append]
    refine ⟨(h x List.mem_cons_self a).1, inP_nd l (fun q hq => h q (List.mem_cons_of_mem _ hq)) _, fun p hp p' hp' e => ?_⟩
    subst e
    have h1 := ((h x List.mem_cons_self a).2 p hp).rng
    have h2 := (inP_in l (fun q hq b => (h q (List.mem_cons_of_mem _ hq) b).2) _ p hp').rng
    omega
theorem itP_nd : ∀ (l : List FItem), (∀ i ∈ l, ∀ q ∈ i.rows, ∀ a, (f q a).Nodup ∧ ∀ p ∈ f q a, In a q.pre p) → ∀ k a, num < a → (itP f num l k a).Nodup
  | [], _, _, _, _ => List.nodup_nil
  | x :: l, h, k, a, lt => by
    have hx := fun i hi q hq b => (h i hi q hq b).2
    have tail := itP_in (num := num) l (fun i hi => hx i (List.mem_cons_of_mem _ hi)) (k + 1) (a + cntP x.rows)
    have inx := inP_in x.rows (hx x List.mem_cons_self) a
    rw [itP, List.nodup_append]
    refine ⟨inP_nd _ (h x List.mem_cons_self) a, List.nodup_cons.mpr ⟨fun hp => ?_, itP_nd l (fun i hi => h i (List.mem_cons_of_mem _ hi)) _ _ (by omega)⟩, fun p hp p' hp' e => ?_⟩
    · rcases tail _ hp with z | ⟨j, j1, j2, z⟩
      · have := z.rng
        have e : ((num, ((k + 1 : Nat) : Int)) : Int × Int).1 = num := rfl
        omega
      · injection z with _ z
        omega
    · subst e
      have h1 := (inx p hp).rng
      rw [← cntP_flat] at h1
      rcases List.mem_cons.mp hp' with rfl | hp'
      · have e : ((num, ((k + 1 : Nat) : Int)) : Int × Int).1 = num := rfl
        omega
      · rcases tail p hp' with z | ⟨j, j1, j2, rfl⟩
        · have := z.rng
          omega
        · have e : ((num, (j : Int)) : Int × Int).1 = num := rfl
          omega
end
theorem plcN_in : ∀ (n : Nat) (r : FRow), r.dep < n → ∀ a, (plcN n r a).Nodup ∧ ∀ p ∈ plcN n r a, In a r.pre p
  | 0, _, h, _ => absurd h (Nat.not_lt_zero _)
  | n + 1, r, h, a => by
    have ih : ∀ i ∈ r.items, ∀ q ∈ i.rows, ∀ b, (plcN n q b).Nodup ∧ ∀ p ∈ plcN n q b, In b q.pre p := fun i hi q hq => plcN_in n q (by
      have := FItem.dep_le.mp (FRow.dep_le.mp (Nat.le_of_lt_succ h) i hi) q hq
      omega)
    have own : ∀ j : Nat, j ≤ r.items.length → In a r.pre (a, (j : Int)) := fun j hj => ⟨0, r, by show a = a + ((0 : Nat) : Int); omega, rfl, by show (0 : Int) ≤ (j : Int); omega, by show (j : Int) ≤ _; omega⟩
    have it := itP_in (f := plcN n) (num := a) r.items (fun i hi q hq b => (ih i hi q hq b).2) 0 (a + 1)
    refine ⟨?_, fun p hp => ?_⟩
    · rw [plcN, List.nodup_cons]
      refine ⟨fun hp => ?_, itP_nd r.items ih 0 (a + 1) (by omega)⟩
      rcases it _ hp with z | ⟨j, j1, j2, z⟩
      · have := z.rng
        have e : ((a, 0) : Int × Int).1 = a := rfl
        omega
      · injection z with _ z
        omega
    · rw [plcN] at hp
      rcases List.mem_cons.mp hp with rfl | hp
      · exact own 0 (Nat.zero_le _)
      · rcases it p hp with z | ⟨j, j1, j2, rfl⟩
        · have e : r.pre = [r] ++ r.items.flatMap FItem.inn := by
            unfold FRow.pre
            rw [FRow.inn_eq]
            rfl
          rw [e]
          exact z.right
        · exact own j (by omega)
/-! the defs that list them -/
def RPlc (n : Nat) : List Dt → Dt → Prop := fun ds d => ∃ (r : FRow) (a : Int), ds = [rowT r, .int a] ∧ r.dep < n ∧ r.words.length ≤ 100000 ∧ d = .lst ((plcN n r a).map pairT)
def il (q : FRow) : Nat := q.items.length
theorem ilc (a : FRow) (l : List FRow) : ((a :: l).map il).sum = a.items.length + (l.map il).sum := rfl
theorem ila (l m : List FRow) : ((l ++ m).map il).sum = (l.map il).sum + (m.map il).sum := by rw [List.map_append, List.sum_append]
mutual
theorem cw_row : ∀ r : FRow, (r.inn.map il).sum + r.items.length ≤ r.words.length
  | .nil => Nat.zero_le _
  | .cons i r => by
    have h1 := cw_item i
    have h2 := cw_row r
    rw [FRow.inn, FRow.words, FRow.items, ila, List.length_append, List.length_cons]
    omega
theorem cw_item : ∀ i : FItem, (i.inn.map il).sum + 1 ≤ i.words.length
  | .mk n b a => by
    have h1 := cw_nuc n
    have h2 := cw_scr "_" b
    have h3 := cw_scr "^" a
    rw [FItem.inn, FItem.words, ila, ila, List.length_append, List.length_append]
    omega
theorem cw_scr (s : Str) : ∀ i : FScr, (i.inn.map il).sum ≤ (i.words s).length
  | .no => Nat.zero_le _
  | .yes r => by
    have h1 := cw_row r
    rw [FScr.inn, ilc]
    simp only [FScr.words, List.length_cons, List.length_append, List.length_nil]
    omega
theorem cw_nuc : ∀ i : FNuc, (i.inn.map il).sum + 1 ≤ i.words.length
  | .sym x => Nat.le_refl _
  | .group r => by
    have h1 := cw_row r
    rw [FNuc.inn, ilc]
    simp only [FNuc.words, List.length_cons, List.length_append, List.length_nil]
    omega
  | .root r => by
    have h1 := cw_row r
    rw [FNuc.inn, ilc]
    simp only [FNuc.words, List.length_cons, List.length_append, List.length_nil]
    omega
  | .fence o c r => by
    have h1 := cw_row r
    rw [FNuc.inn, ilc]
    simp only [FNuc.words, List.length_cons, List.length_append, List.length_nil]
    omega
  | .frac o u => by
    have h1 := cw_row o
    have h2 := cw_row u
    rw [FNuc.inn, ila, ilc, ilc]
    simp only [FNuc.words, List.length_cons, List.length_append, List.length_nil]
    omega
  | .grid g => by
    have h1 := cw_grid "{" g
    simp only [FNuc.inn, FNuc.words, List.length_cons, List.length_append, List.length_nil]
    omega
theorem cw_grid (s : Str) : ∀ g : FGrid, (g.inn.map il).sum ≤ (g.words s).length
  | .nil => Nat.zero_le _
  | .cons c g => by
    have h1 := cw_cells s c
    have h2 := cw_grid "~" g
    rw [FGrid.inn, FGrid.words, ila, List.length_append]
    omega
theorem cw_cells (s : Str) : ∀ g : FCells, (g.inn.map il).sum ≤ (g.words s).length
  | .nil => Nat.zero_le _
  | .cons r c => by
    have h1 := cw_row r
    have h2 := cw_cells "&" c
    rw [FCells.inn, ila, ilc]
    simp only [FCells.words, List.length_append, List.length_cons]
    omega
end
theorem items_le (r : FRow) : r.items.length ≤ r.words.length := by
  have := cw_row r
  omega
theorem cnR_le (r : FRow) : cnR r ≤ 2 * r.words.length + 1 := by
  have h1 := cw_row r
  have h2 := pre_len r
  unfold cnR
  have : (r.pre.map fun q => q.items.length).sum = r.items.length + (r.inn.map il).sum := rfl
  rw [this]
  omega
section
variable {P : Program} {w : World} {K : PySem.W.Frag} {mg : Str → Option Value} {base : Heap} {M : Md} {Γ : List Sl} {ta te tb : TE} {X : XK}
theorem xl_rowsIn {i : FItem} {tas : TA} (h : EA M tas Γ [itemT i]) (hw : i.words.length ≤ 100000) : EL M (tCall (spRowsIn M.K) [] X tas) Γ (i.rows.map rowT) :=
  (xl_callO (ds := [i.d]) (es := i.rows.map FRow.d) (by rw [pdL, pdL]; exact h) (by rw [tOnlyL, tOnlyL, tOnly_item]; rfl) ⟨i, rfl, rfl, hw⟩).is (by
    rw [pdL_eq, List.map_map]
    exact List.map_congr_left fun q _ => pd_row q)
theorem xl_rowsOf {n : Nat} {r : FRow} {tas : TA} (h : EA M tas Γ [rowT r]) (hd : r.dep < n) (hw : r.words.length ≤ 100000) : EL M (tCall (spRowsOf M.K n) [] X tas) Γ (r.pre.map rowT) :=
  (xl_callO (ds := [r.d]) (es := r.pre.map FRow.d) (by rw [pdL, pdL, pd_row]; exact h) (by rw [tOnlyL, tOnlyL, FRow.d, tOnly, tOnly_row]; rfl) ⟨r, rfl, rfl, hd, hw⟩).is (by
    rw [pdL_eq, List.map_map]
    exact List.map_congr_left fun q _ => pd_row q)
/-- what one turn of either list adds: the places within the rows of an item, then the one behind it -/
theorem inP_take {f : FRow → Int → List (Int × Int)} {l : List FRow} {j : Nat} {q : FRow} {a : Int} (h : l[j]? = some q) : inP f (l.take (j + 1)) a = inP f (l.take j) a ++ f q (a + cntP (l.take j)) := by
  rw [List.take_add_one, h]
  exact inP_snoc _ _ _
theorem cntP_take {l : List FRow} {j : Nat} {q : FRow} (h : l[j]? = some q) : cntP (l.take (j + 1)) = cntP (l.take j) + q.pre.length := by
  rw [List.take_add_one, h, cntP_app]
  rfl
theorem itP_take {f : FRow → Int → List (Int × Int)} {l : List FItem} {j : Nat} {q : FItem} {a num : Int} (h : l[j]? = some q) : itP f num (l.take (j + 1)) 0 a = itP f num (l.take j) 0 a ++ (inP f q.rows (a + cntI (l.take j)) ++ [(num, ((j + 1 : Nat) : Int))]) := by
  have jl := (List.getElem?_eq_some_iff.mp h).1
  rw [List.take_add_one, h]
  rw [show (some q).toList = [q] from rfl, itP_snoc, List.length_take, Nat.min_eq_left (by omega), Nat.zero_add]
theorem cntI_take {l : List FItem} {j : Nat} {q : FItem} (h : l[j]? = some q) : cntI (l.take (j + 1)) = cntI (l.take j) + cntP q.rows := by
  rw [List.take_add_one, h, cntI_app]
  rfl
theorem len_take {α β : Type} {g : List α → List β} (mono : ∀ l m, (g l).length ≤ (g (l ++ m)).length) (l : List α) (j : Nat) : (g (l.take j)).length ≤ (g l).length := by
  conv => rhs; rw [← List.take_append_drop j l]
  exact mono _ _
theorem inP_mono {f : FRow → Int → List (Int × Int)} : ∀ (l m : List FRow) (a : Int), (inP f l a).length ≤ (inP f (l ++ m) a).length
  | [], m, a => Nat.zero_le _
  | x :: l, m, a => by
    rw [List.cons_append, inP, inP, List.length_append, List.length_append]
    have := inP_mono (f := f) l m (a + x.pre.length)
    omega
theorem itP_mono {f : FRow → Int → List (Int × Int)} {num : Int} : ∀ (l m : List FItem) (k : Nat) (a : Int), (itP f num l k a).length ≤ (itP f num (l ++ m) k a).length
  | [], m, k, a => Nat.zero_le _
  | x :: l, m, k, a => by
    rw [List.cons_append, itP, itP, List.length_append, List.length_append, List.length_cons, List.length_cons]
    have := itP_mono (f := f) (num := num) l m (k + 1) (a + cntP x.rows)
    omega
theorem s_augB {P : Po} {i : Nat} {a b : Int} {f : Int → Int → Int} (h0 : Γ[i]? = some (.f (.int a))) (h : Nw.E M te Γ (.int b)) (k : P.nx (Γ.set i (.f (.int (f a b))))) : W M (tAug i te (ipI f)) Γ P := fun A H0 D σ H e kn kb kc kr => by
  obtain ⟨v, h1, h2⟩ := e.at' i _ h0
  refine ⟨v, h1, h A H0 σ H e _ fun y H1 n1 ty => ?_⟩
  rw [isd_int h2, isd_int ty]
  exact ⟨a, b, rfl, rfl, kn _ _ _ k ((e.nx n1).setf (.int _)) (n1.go.trans (e.nx n1) Go.setf)⟩
theorem scPlaces : FnScope ["row", "number", "places", "inner_number", "k", "item", "inner"] ["row", "number"] (defScope sPlacesOf) := ⟨rfl, rfl, rfl, by decide +kernel, rfl, by decide +kernel, by decide +kernel⟩
theorem ok_places1 {n : Nat} {f : Addr} {fd : FuncData} (F : Fun K "places_of" "places_of" sPlacesOf f fd) (T : TxtSrc mg) (C_rows_in : Cal P w K mg base CX0 2 "rows_in" ["item"] (spRowsIn K)) (C_rows_of : Cal P w K mg base CX0 (n + 2) "rows_of" ["formula"] (spRowsOf K n)) (C_places_of : Cal P w K mg base CX0 (n + 3) "places_of" ["row", "number"] (spX K (RPlc n))) : FnOk P w K mg base CX0 (n + 4) f fd ["row", "number"] (spX K (RPlc (n + 1))) := by
  have sc := scPlaces
  refine F.ok scPlaces (fun vs H Q E h => ?_) (fun cdv A outer s H vs Q E hr h => ?_)
  · obtain ⟨_, ds, d, _, l, ⟨_, _, rfl, _⟩, _⟩ := h
    exact l.len
  · obtain ⟨A0, ds, d, av, l, ⟨r, num, rfl, dep, wl, rfl⟩, k⟩ := h
    refine ⟨_, (pss_cons (ps_set (i := 2) sc.nd rfl (Or.inl rfl) (pe_lst (pa_cons (pe_tup (pa_cons (pv 1) (pa_cons pe_int pa_nil))) pa_nil)))
  (pss_cons (ps_set (i := 3) sc.nd rfl (Or.inl rfl) (pe_op op_add (pv 1) pe_int))
  (pss_cons (ps_for PassesOwn.never rfl (pi_enumT (by rfl) T.b_enumerate (pa_cons (pv 0) pa_nil)) (pg_tup rfl (pgs_cons (pg_name (i := 4) sc.nd rfl (Or.inl rfl)) (pgs_cons (pg_name (i := 5) sc.nd rfl (Or.inl rfl)) pgs_nil)))
  (pss_cons (ps_for PassesOwn.never rfl (pi_list (pe_cal C_rows_in (hr.mono (by omega)) rfl pass0 (pa_cons (pv 5) pa_nil))) (pg_name (i := 6) sc.nd rfl (Or.inl rfl))
  (pss_cons (ps_expr (pe_bm PySem.F.plainAttrs_list PySem.F.slot_list_extend PySem.F.type_list_extend mt_extend (pv 2) (pa_cons (pe_cal C_places_of (hr.mono (by omega)) rfl pass0 (pa_cons (pv 6) (pa_cons (pv 3) pa_nil))) pa_nil)))
  (pss_one (ps_aug (i := 3) sc.nd rfl (Or.inl rfl) (pe_callB (r := rLenQ K) call_lenK (by rfl) T.b_len PySem.boot_len (pa_cons (pe_cal C_rows_of (hr.mono (by omega)) rfl pass0 (pa_cons (pv 6) pa_nil)) pa_nil)) ip_add))))
  (pss_one (ps_expr (pe_bm PySem.F.plainAttrs_list PySem.F.slot_list_append PySem.F.type_list_append mt_append (pv 2) (pa_cons (pe_tup (pa_cons (pv 1) (pa_cons (pe_op op_add (pv 4) pe_int) pa_nil))) pa_nil))))))
  (pss_one (ps_ret (pv 2)))))), ?_⟩
    refine body_ok av l k ?_
    walk_at "go"
    have tot := plcN_len (n + 1) r dep num
    have cl := cnR_le r
    have lim : ∀ i, (itP (plcN n) num (r.items.take i) 0 (num + 1)).length + 1 ≤ 300000 := fun i => by
      have h1 := len_take (g := fun l => itP (plcN n) num l 0 (num + 1)) (fun l m => itP_mono l m 0 (num + 1)) r.items i
      rw [plcN, List.length_cons] at tot
      have h1 : (itP (plcN n) num (r.items.take i) 0 (num + 1)).length ≤ (itP (plcN n) num r.items 0 (num + 1)).length := h1
      omega
    refine w_setl (ds := ((num, 0) :: itP (plcN n) num (r.items.take 0) 0 (num + 1)).map pairT) (Nat.le_of_ble_eq_true rfl) (EL.is (xl_lst (xa_one (x_tup (xa_cons (x_var rfl) (xa_one x_int)) (Nat.le_of_ble_eq_true rfl))) (Nat.le_of_ble_eq_true rfl)) rfl) ?_
    walk_at "d"
    refine w_set (d := .int (num + 1 + cntI (r.items.take 0))) ((x_op (x_var rfl) x_int o_I0i).is (by rw [List.take_zero]; show _ = Dt.int (num + 1 + ((0 : Nat) : Int)); congr 1; omega)) ?_
    walk_at "d"
    refine w_for (ds := enumD (r.items.map itemT)) (it_enumT (x_var rfl)) (fun i => [.f (rowT r), .f (.int num), .o (((num, 0) :: itP (plcN n) num (r.items.take i) 0 (num + 1)).map pairT), .f (.int (num + 1 + cntI (r.items.take i))), .any, .any, .any]) (by walk_at "s") (fun i d hd => ?_) ?_
    · obtain ⟨it, hi, rfl⟩ := enum_get hd
      have im := List.mem_of_getElem? hi
      have di := FRow.dep_le.mp (Nat.le_of_lt_succ dep) it im
      have wi := words_item im
      have lm := lim (i + 1)
      rw [itP_take hi, List.length_append, List.length_append, List.length_singleton] at lm
      refine ⟨_, _, gt_tup (gts_cons gt_name (gts_cons gt_name gts_nil)) rfl, ?_⟩
      walk_at "d"
      generalize hb : (num, (0 : Int)) :: itP (plcN n) num (r.items.take i) 0 (num + 1) = bs
      have bl : bs.length = (itP (plcN n) num (r.items.take i) 0 (num + 1)).length + 1 := by rw [← hb]; rfl
      generalize ha : num + 1 + (cntI (r.items.take i) : Int) = a0 at *
      have e0 : bs.map pairT = (bs ++ inP (plcN n) (it.rows.take 0) a0).map pairT := by simp [inP]
      have e1 : a0 = a0 + (cntP (it.rows.take 0) : Int) := by rw [List.take_zero]; show _ = a0 + ((0 : Nat) : Int); omega
      refine w_for (ds := it.rows.map rowT) (it_lst (el_e (xl_rowsIn (xa_one (x_var rfl)) (by omega)))) (fun j => [.f (rowT r), .f (.int num), .o ((bs ++ inP (plcN n) (it.rows.take j) a0).map pairT), .f (.int (a0 + cntP (it.rows.take j))), .f (.int (i : Int)), .f (itemT it), .any]) (by rw [← e0, ← e1]; walk_at "s") (fun j d hd => ?_) ?_
      · obtain ⟨q, hq, rfl⟩ := Mg.get_map hd
        have qm := List.mem_of_getElem? hq
        have wq := words_rows qm
        have dq : q.dep < n := by have := FItem.dep_le.mp di q qm; omega
        have pq := pre_len q
        have l2 := len_take (g := fun l => inP (plcN n) l a0) (fun l m => inP_mono l m a0) it.rows (j + 1)
        have l2 : (inP (plcN n) (it.rows.take (j + 1)) a0).length ≤ (inP (plcN n) it.rows a0).length := l2
        rw [inP_take hq, List.length_append] at l2
        refine ⟨_, _, gt_name, ?_⟩
        walk_at "d"
        refine w_ext rfl (e_r (x_call (M := pure0 K) (xa_cons (x_var rfl) (xa_one (x_var rfl))) ⟨q, _, rfl, dq, by omega, rfl⟩)) (by
          rw [List.length_map, List.length_map, List.length_append]
          omega) ?_
        walk_at "d"
        refine s_augB rfl ((x_lenL (el_r (xl_rowsOf (xa_one (x_var rfl)) dq (by omega)))).is (by rw [List.length_map])) ?_
        walk_at "d"
        rw [inP_take hq, cntP_take hq]
        have e2 : (bs ++ inP (plcN n) (it.rows.take j) a0).map pairT ++ (plcN n q (a0 + cntP (it.rows.take j))).map pairT = (bs ++ (inP (plcN n) (it.rows.take j) a0 ++ plcN n q (a0 + cntP (it.rows.take j)))).map pairT := by simp
        have e3 : a0 + ((cntP (it.rows.take j) + q.pre.length : Nat) : Int) = a0 + (cntP (it.rows.take j) : Int) + (q.pre.length : Int) := by omega
        rw [e2, e3]
        show Sub _ _
        walk_at "s"
      · rw [List.length_map, List.take_length]
        refine s_app rfl (x_tup (xa_cons (x_var rfl) (xa_one ((x_op (x_var rfl) x_int o_I0i).is (d1 := .int ((i + 1 : Nat) : Int)) (by congr 1)))) (Nat.le_of_ble_eq_true rfl)) (by
          rw [List.length_map, List.length_append]
          omega) ?_
        walk_at "d"
        rw [itP_take hi, cntI_take hi, ha]
        have e2 : (bs ++ inP (plcN n) it.rows a0).map pairT ++ [.tup [.int num, .int ((i + 1 : Nat) : Int)]] = ((num, (0 : Int)) :: (itP (plcN n) num (r.items.take i) 0 (num + 1) ++ (inP (plcN n) it.rows a0 ++ [(num, ((i + 1 : Nat) : Int))]))).map pairT := by
          rw [← hb]
          simp [pairT]
        have e3 : num + 1 + ((cntI (r.items.take i) + cntP it.rows : Nat) : Int) = a0 + (cntP it.rows : Int) := by omega
        rw [e2, e3]
        show Sub _ _
        walk_at "s"
    · refine w_retO rfl ?_
      have e : (enumD (r.items.map itemT)).length = r.items.length := by unfold enumD; rw [List.length_mapIdx, List.length_map]
      rw [e, List.take_length]
      rfl
end
end Mg.Nw

set_option Elab.async false
set_option linter.all false
set_option maxRecDepth 100000
set_option maxHeartbeats 1000000
namespace Mg.Nw
open PySem PySem.Spec PyProof.Rows L2
local macro_rules | `(tactic| walk_at "op") => `(tactic| first | exact o_I0i | exact o_I0b | exact o_ixT rfl | exact o_eqS | exact o_neS | exact o_eqI | exact o_neI | exact o_isN rfl | exact o_notN rfl | exact o_Ii (.inl ⟨by decide, by decide⟩) | exact o_Ii (.inr ⟨by decide, by decide⟩) | exact o_Ii ⟨by decide, by decide⟩ | skip)
local macro_rules | `(tactic| walk_at "x") => `(tactic| first
  | exact x_int | exact x_str | exact x_bl | exact x_non | exact xa_nil | exact xo_no | exact x_var rfl | exact r_var rfl | exact xt_yes
  | ((with_reducible apply xa_cons) <;> walk_at "x")
  | ((with_reducible apply x_op) <;> walk_at "x")
  | ((with_reducible apply x_ixL) <;> walk_at "x")
  | ((with_reducible apply x_tup) <;> walk_at "x")
  | ((with_reducible apply xl_lst) <;> walk_at "x")
  | ((with_reducible apply xl_cat) <;> walk_at "x")
  | ((with_reducible apply x_catT) <;> walk_at "x")
  | ((with_reducible apply x_slT) <;> walk_at "x")
  | ((with_reducible apply xl_slL) <;> walk_at "x")
  | ((with_reducible apply xo_some) <;> walk_at "x")
  | ((with_reducible apply xt_test) <;> walk_at "x")
  | ((with_reducible apply xt_B) <;> walk_at "x")
  | ((with_reducible apply xt_not) <;> walk_at "x")
  | ((with_reducible apply xt_and) <;> walk_at "x")
  | ((with_reducible apply xt_or) <;> walk_at "x")
  | ((with_reducible apply x_and) <;> walk_at "x")
  | ((with_reducible apply x_or) <;> walk_at "x")
  | ((with_reducible apply x_not) <;> walk_at "x")
  | ((with_reducible apply it_tup) <;> walk_at "x")
  | ((with_reducible apply it_lst) <;> walk_at "x")
  | ((with_reducible apply it_enum) <;> walk_at "x")
  | ((with_reducible apply it_zip) <;> walk_at "x")
  | ((with_reducible apply it_rev) <;> walk_at "x")
  | exact gt_name | exact gts_nil
  | ((with_reducible apply gt_tup) <;> walk_at "x")
  | ((with_reducible apply gt_lst) <;> walk_at "x")
  | ((with_reducible apply gts_cons) <;> walk_at "x")
  | (with_reducible apply x_b2; walk_at "x"; walk_at "x"; exact b_max2)
  | (with_reducible apply x_lenU; walk_at "x"; done)
  | (with_reducible apply x_lenL; walk_at "x"; done)
  | ((with_reducible apply x_sum) <;> walk_at "x")
  | ((with_reducible apply x_max) <;> walk_at "x")
  | ((with_reducible apply x_call) <;> walk_at "x")
  | ((with_reducible apply xt_tuple) <;> walk_at "x")
  | (with_reducible apply xl_listU; walk_at "x"; done)
  | (with_reducible apply xl_listL; walk_at "x"; done)
  | (with_reducible apply el_r; walk_at "y")
  | (with_reducible apply el_e; walk_at "y")
  | (with_reducible apply e_r; walk_at "x")
  | exact Nat.le_of_ble_eq_true rfl
  | exact List.cons_ne_nil _ _
  | rfl
  | (simp only [List.length_cons, List.length_nil]; decide +kernel)
  | (with_reducible intro _; walk_at "x")
  | walk_at "op")
local macro_rules | `(tactic| walk_at "y") => `(tactic| first
  | ((with_reducible apply xl_lst) <;> walk_at "x")
  | ((with_reducible apply xl_cat) <;> walk_at "x")
  | ((with_reducible apply xl_slL) <;> walk_at "x")
  | (with_reducible apply xl_listU; walk_at "x"; done)
  | (with_reducible apply xl_listL; walk_at "x"; done))
local macro_rules | `(tactic| walk_at "s") => `(tactic| first | exact Sub.nil | (apply Sub.cons; (first | exact SlLe.refl | exact SlLe.any | exact SlLe.frz | skip); walk_at "s") | skip)
local macro_rules | `(tactic| walk_at "d") => `(tactic| try dsimp only [List.set, wipeS])
local macro_rules | `(tactic| walk_at "go") => `(tactic| ((try dsimp only [cxOf]); simp only [st0, List.map_cons, List.map_nil, List.length_cons, List.length_nil, List.cons_append, List.nil_append, Nat.reduceAdd, Nat.reduceSub, List.replicate]))

/-! the law's own list of places; carets by number and by place -/
theorem hu65 {A : Around} {k : Nat} (hr : Room k A) : A.units + 65 < cLine := by
  have := hr.un
  omega
abbrev sCPlace : Stmt := top 44
abbrev sCNumber : Stmt := top 45
abbrev sBRef : Stmt := top 62
section
variable {P : Program} {w : World} {K : PySem.W.Frag} {mg : Str → Option Value} {base : Heap} {M : Md} {Γ : List Sl} {ta te tb : TE} {X : XK} {CN CE : Addr}
theorem scBPlaces : FnScope ["row", "number", "found", "following", "k", "inner"] ["row", "number"] (defScope sBPlaces) := ⟨rfl, rfl, rfl, by decide +kernel, rfl, by decide +kernel, by decide +kernel⟩
theorem ok_bplaces1 {n : Nat} {f : Addr} {fd : FuncData} (F : Fun K "_law_places" "_law_places" sBPlaces f fd) (T : TxtB mg) (C_law_inner : Cal P w K mg base CX0 1 "_law_inner" ["item"] (spX K RInB)) (C_law_rows : Cal P w K mg base CX0 (n + 1) "_law_rows" ["row"] (spX K (RRws n))) (C_law_places : Cal P w K mg base CX0 (n + 3) "_law_places" ["row", "number"] (spX K (RPlc n))) : FnOk P w K mg base CX0 (n + 4) f fd ["row", "number"] (spX K (RPlc (n + 1))) := by
  have sc := scBPlaces
  refine F.ok scBPlaces (fun vs H Q E h => ?_) (fun cdv A outer s H vs Q E hr h => ?_)
  · obtain ⟨_, ds, d, _, l, ⟨_, _, rfl, _⟩, _⟩ := h
    exact l.len
  · obtain ⟨A0, ds, d, av, l, ⟨r, num, rfl, dep, wl, rfl⟩, k⟩ := h
    refine ⟨_, (pss_cons (ps_set (i := 2) sc.nd rfl (Or.inl rfl) (pe_lst (pa_cons (pe_tup (pa_cons (pv 1) (pa_cons pe_int pa_nil))) pa_nil)))
  (pss_cons (ps_set (i := 3) sc.nd rfl (Or.inl rfl) (pe_op op_add (pv 1) pe_int))
  (pss_cons (ps_for PassesOwn.never rfl (pi_range1 rfl T.range (pa_cons (pe_callB (r := rLenQ K) call_lenK (by rfl) T.b_len PySem.boot_len (pa_cons (pv 0) pa_nil)) pa_nil)) (pg_name (i := 4) sc.nd rfl (Or.inl rfl))
  (pss_cons (ps_for PassesOwn.never rfl (pi_list (pe_cal C_law_inner (hr.mono (by omega)) rfl pass0 (pa_cons (pe_ix ix_tup (pv 0) (pv 4) (fun _ _ => rfl)) pa_nil))) (pg_name (i := 5) sc.nd rfl (Or.inl rfl))
  (pss_cons (ps_set (i := 2) sc.nd rfl (Or.inl rfl) (pe_op op_cat (pv 2) (pe_cal C_law_places (hr.mono (by omega)) rfl pass0 (pa_cons (pv 5) (pa_cons (pv 3) pa_nil)))))
  (pss_one (ps_set (i := 3) sc.nd rfl (Or.inl rfl) (pe_op op_add (pv 3) (pe_callB (r := rLenQ K) call_lenK (by rfl) T.b_len PySem.boot_len (pa_cons (pe_cal C_law_rows (hr.mono (by omega)) rfl pass0 (pa_cons (pv 5) pa_nil)) pa_nil)))))))
  (pss_one (ps_expr (pe_bm PySem.F.plainAttrs_list PySem.F.slot_list_append PySem.F.type_list_append mt_append (pv 2) (pa_cons (pe_tup (pa_cons (pv 1) (pa_cons (pe_op op_add (pv 4) pe_int) pa_nil))) pa_nil))))))
  (pss_one (ps_ret (pv 2)))))), ?_⟩
    refine body_ok av l k ?_
    walk_at "go"
    have tot := plcN_len (n + 1) r dep num
    have cl := cnR_le r
    have il := items_le r
    have lim : ∀ i, (itP (plcN n) num (r.items.take i) 0 (num + 1)).length + 1 ≤ 300000 := fun i => by
      have h1 := len_take (g := fun l => itP (plcN n) num l 0 (num + 1)) (fun l m => itP_mono l m 0 (num + 1)) r.items i
      rw [plcN, List.length_cons] at tot
      have h1 : (itP (plcN n) num (r.items.take i) 0 (num + 1)).length ≤ (itP (plcN n) num r.items 0 (num + 1)).length := h1
      omega
    refine w_setl (ds := ((num, 0) :: itP (plcN n) num (r.items.take 0) 0 (num + 1)).map pairT) (Nat.le_of_ble_eq_true rfl) (EL.is (xl_lst (xa_one (x_tup (xa_cons (x_var rfl) (xa_one x_int)) (Nat.le_of_ble_eq_true rfl))) (Nat.le_of_ble_eq_true rfl)) rfl) ?_
    walk_at "d"
    refine w_set (d := .int (num + 1 + cntI (r.items.take 0))) ((x_op (x_var rfl) x_int o_I0i).is (by rw [List.take_zero]; show _ = Dt.int (num + 1 + ((0 : Nat) : Int)); congr 1; omega)) ?_
    walk_at "d"
    refine w_for (ds := (List.range r.items.length).map fun i : Nat => Dt.int (i : Int)) (it_rng1 ((x_lenU (x_var rfl)).is (by rw [List.length_map])) (by omega)) (fun i => [.f (rowT r), .f (.int num), .o (((num, 0) :: itP (plcN n) num (r.items.take i) 0 (num + 1)).map pairT), .f (.int (num + 1 + cntI (r.items.take i))), .any, .any]) (by walk_at "s") (fun i d hd => ?_) ?_
    · obtain ⟨i', hi', rfl⟩ := Mg.get_map hd
      have ii : i' = i := by
        obtain ⟨h1, h2⟩ := List.getElem?_eq_some_iff.mp hi'
        rw [← h2, List.getElem_range]
      subst ii
      have ilt : i' < r.items.length := by
        have := (List.getElem?_eq_some_iff.mp hi').1
        rwa [List.length_range] at this
      obtain ⟨it, hi⟩ : ∃ it, r.items[i']? = some it := ⟨_, List.getElem?_eq_getElem ilt⟩
      have im := List.mem_of_getElem? hi
      have di := FRow.dep_le.mp (Nat.le_of_lt_succ dep) it im
      have wi := words_item im
      have lm := lim (i' + 1)
      rw [itP_take hi, List.length_append, List.length_append, List.length_singleton] at lm
      refine ⟨_, _, gt_name, ?_⟩
      walk_at "d"
      generalize hb : (num, (0 : Int)) :: itP (plcN n) num (r.items.take i') 0 (num + 1) = bs
      have bl : bs.length = (itP (plcN n) num (r.items.take i') 0 (num + 1)).length + 1 := by rw [← hb]; rfl
      generalize ha : num + 1 + (cntI (r.items.take i') : Int) = a0 at *
      have e0 : bs.map pairT = (bs ++ inP (plcN n) (it.rows.take 0) a0).map pairT := by simp [inP]
      have e1 : a0 = a0 + (cntP (it.rows.take 0) : Int) := by rw [List.take_zero]; show _ = a0 + ((0 : Nat) : Int); omega
      refine w_for (ds := it.rows.map rowT) (it_lst (x_call (M := pure0 K) (xa_one (x_op (d1 := rowT r) (x_var rfl) (x_var rfl) (o_ixT (at_nat (by rw [List.getElem?_map, hi]; rfl))))) ⟨it, rfl, by omega, rfl⟩)) (fun j => [.f (rowT r), .f (.int num), .o ((bs ++ inP (plcN n) (it.rows.take j) a0).map pairT), .f (.int (a0 + cntP (it.rows.take j))), .f (.int (i' : Int)), .any]) (by rw [← e0, ← e1]; walk_at "s") (fun j d hd => ?_) ?_
      · obtain ⟨q, hq, rfl⟩ := Mg.get_map hd
        have qm := List.mem_of_getElem? hq
        have wq := words_rows qm
        have dq : q.dep < n := by have := FItem.dep_le.mp di q qm; omega
        have pq := pre_len q
        have l2 := len_take (g := fun l => inP (plcN n) l a0) (fun l m => inP_mono l m a0) it.rows (j + 1)
        have l2 : (inP (plcN n) (it.rows.take (j + 1)) a0).length ≤ (inP (plcN n) it.rows a0).length := l2
        rw [inP_take hq, List.length_append] at l2
        refine ⟨_, _, gt_name, ?_⟩
        walk_at "d"
        refine w_setl (ds := ((bs ++ inP (plcN n) (it.rows.take j) a0) ++ plcN n q (a0 + cntP (it.rows.take j))).map pairT) (Nat.le_of_ble_eq_true rfl) (EL.is (xl_cat (r_var rfl) (e_r (x_call (M := pure0 K) (xa_cons (x_var rfl) (xa_one (x_var rfl))) ⟨q, _, rfl, dq, by omega, rfl⟩)) (by
          rw [List.length_map, List.length_map, List.length_append]
          omega)) List.map_append.symm) ?_
        walk_at "d"
        refine s_set (d := .int (a0 + cntP (it.rows.take j) + q.pre.length)) (x_op (x_var rfl) ((x_lenL (e_r (x_call (M := pure0 K) (xa_one (x_var rfl)) ⟨q, rfl, dq, by omega, rfl⟩))).is (by rw [List.length_map])) o_I0i) ?_
        walk_at "d"
        rw [inP_take hq, cntP_take hq]
        have e2 : (bs ++ inP (plcN n) (it.rows.take j) a0) ++ plcN n q (a0 + cntP (it.rows.take j)) = bs ++ (inP (plcN n) (it.rows.take j) a0 ++ plcN n q (a0 + cntP (it.rows.take j))) := by simp
        have e3 : a0 + ((cntP (it.rows.take j) + q.pre.length : Nat) : Int) = a0 + (cntP (it.rows.take j) : Int) + (q.pre.length : Int) := by omega
        rw [e2, e3]
        show Sub _ _
        walk_at "s"
      · rw [List.length_map, List.take_length]
        refine s_app rfl (x_tup (xa_cons (x_var rfl) (xa_one ((x_op (x_var rfl) x_int o_I0i).is (d1 := .int ((i' + 1 : Nat) : Int)) (by congr 1)))) (Nat.le_of_ble_eq_true rfl)) (by
          rw [List.length_map, List.length_append]
          omega) ?_
        walk_at "d"
        rw [itP_take hi, cntI_take hi, ha]
        have e2 : (bs ++ inP (plcN n) it.rows a0).map pairT ++ [.tup [.int num, .int ((i' + 1 : Nat) : Int)]] = ((num, (0 : Int)) :: (itP (plcN n) num (r.items.take i') 0 (num + 1) ++ (inP (plcN n) it.rows a0 ++ [(num, ((i' + 1 : Nat) : Int))]))).map pairT := by
          rw [← hb]
          simp [pairT]
        have e3 : num + 1 + ((cntI (r.items.take i') + cntP it.rows : Nat) : Int) = a0 + (cntP it.rows : Int) := by omega
        rw [e2, e3]
        show Sub _ _
        walk_at "s"
    · refine w_retO rfl ?_
      rw [List.length_map, List.length_range, List.take_length]
      rfl
theorem plc_vac {x : Str} {f : Addr} {fd : FuncData} (c : Abk K mg x f fd ["row", "number"]) : Cal P w K mg base CX0 3 x ["row", "number"] (spX K (RPlc 0)) := ⟨f, fd, FnOk.vac fun vs H Q E ⟨_, _, _, _, _, ⟨_, _, _, h, _⟩, _⟩ => Nat.not_lt_zero _ h, c.1, c.2.1, c.2.2⟩
theorem bplaces_all {f : Addr} {fd : FuncData} (F : Fun K "_law_places" "_law_places" sBPlaces f fd) (T : TxtB mg) (C_law_inner : Cal P w K mg base CX0 1 "_law_inner" ["item"] (spX K RInB)) (C_law_rows : ∀ n, Cal P w K mg base CX0 (n + 1) "_law_rows" ["row"] (spX K (RRws n))) (c : Abk K mg "_law_places" f fd ["row", "number"]) : ∀ n, Cal P w K mg base CX0 (n + 3) "_law_places" ["row", "number"] (spX K (RPlc n)) := by
  intro n
  induction n with
  | zero => exact plc_vac c
  | succ n ih => exact ⟨f, fd, ok_bplaces1 F T C_law_inner (C_law_rows n) ih, c.1, c.2.1, c.2.2⟩
theorem places_all {f : Addr} {fd : FuncData} (F : Fun K "places_of" "places_of" sPlacesOf f fd) (T : TxtSrc mg) (C_rows_in : Cal P w K mg base CX0 2 "rows_in" ["item"] (spRowsIn K)) (C_rows_of : ∀ n, Cal P w K mg base CX0 (n + 2) "rows_of" ["formula"] (spRowsOf K n)) (c : Abk K mg "places_of" f fd ["row", "number"]) : ∀ n, Cal P w K mg base CX0 (n + 3) "places_of" ["row", "number"] (spX K (RPlc n)) := by
  intro n
  induction n with
  | zero => exact plc_vac c
  | succ n ih => exact ⟨f, fd, ok_places1 F T C_rows_in (C_rows_of n) ih, c.1, c.2.1, c.2.2⟩
theorem x_isIntB {v lo hi : Int} {tas : TA} (h : EA M tas Γ [.int v, .int lo, .int hi]) : Nw.E M (tCall (spIsInteger M.K) [] X tas) Γ (.bl (isInt lo hi (.int v))) := x_callG h fun S vs H Q av l k => by
  cases l with
  | cons a l => cases l with
  | cons b l => cases l with
  | cons c l =>
    cases l
    cases isd_int a
    cases isd_int b
    cases isd_int c
    exact ⟨_, .int v, lo, hi, rfl, .int v, k _ H (.refl H) (.bl _)⟩
theorem isInt_in {v lo hi : Int} (h1 : lo ≤ v) (h2 : v ≤ hi) : isInt lo hi (.int v) = true := by
  show (decide (lo ≤ v) && decide (v ≤ hi)) = true
  rw [decide_eq_true h1, decide_eq_true h2]
  rfl
theorem isInt_out {v lo hi : Int} (h : v < lo ∨ hi < v) : isInt lo hi (.int v) = false := by
  show (decide (lo ≤ v) && decide (v ≤ hi)) = false
  rcases h with h | h
  · rw [decide_eq_false (by omega)]
    rfl
  · rw [decide_eq_false (p := v ≤ hi) (by omega), Bool.and_false]
def RPl (n : Nat) : List Dt → Dt → Prop := fun ds d => ∃ (r : FRow) (k : Nat) (p : Int × Int), ds = [rowT r, .int (k : Int)] ∧ r.dep < n ∧ r.words.length ≤ 100000 ∧ (plcN n r 0)[k]? = some p ∧ d = pairT p
def RPlE (CN : Addr) (n : Nat) : List Dt → Exn → Prop := fun ds x => ∃ (r : FRow) (v : Int), ds = [rowT r, .int v] ∧ r.dep < n ∧ r.words.length ≤ 100000 ∧ (v < 0 ∨ ((plcN n r 0).length : Int) ≤ v) ∧ x = ⟨CN, none⟩
def RNm (n : Nat) : List Dt → Dt → Prop := fun ds d => ∃ (r : FRow) (k : Nat) (p : Int × Int), ds = [rowT r, .int p.1, .int p.2] ∧ r.dep < n ∧ r.words.length ≤ 100000 ∧ (plcN n r 0)[k]? = some p ∧ d = .int (k : Int)
def RNmE (CN : Addr) (n : Nat) : List Dt → Exn → Prop := fun ds x => ∃ (r : FRow) (a b : Int), ds = [rowT r, .int a, .int b] ∧ r.dep < n ∧ r.words.length ≤ 100000 ∧ ((a < 0 ∨ (r.pre.length : Int) ≤ a) ∨ ∃ (j : Nat) (q : FRow), a = j ∧ r.pre[j]? = some q ∧ (b < 0 ∨ (q.items.length : Int) < b)) ∧ x = ⟨CN, none⟩
abbrev spPl (K : PySem.W.Frag) (CN : Addr) (n : Nat) : Sp := spO (spX K (RPl n)) (spZ K (RPlE CN n))
abbrev spNm (K : PySem.W.Frag) (CN : Addr) (n : Nat) : Sp := spO (spX K (RNm n)) (spZ K (RNmE CN n))
theorem x_plc {n : Nat} {r : FRow} {tas : TA} {M : Md} {Γ : List Sl} {a : Int} {X : XK} (h : EA M tas Γ [rowT r, .int a]) (dep : r.dep < n) (wl : r.words.length ≤ 100000) : Nw.E M (tCall (spX M.K (RPlc n)) [] X tas) Γ (.lst ((plcN n r a).map pairT)) := x_call h ⟨r, a, rfl, dep, wl, rfl⟩
theorem scCPlace : FnScope ["formula", "number", "places"] ["formula", "number"] (defScope sCPlace) := ⟨rfl, rfl, rfl, by decide +kernel, rfl, by decide +kernel, by decide +kernel⟩
theorem ok_cplace {n : Nat} {f : Addr} {fd : FuncData} (F : Fun K "caret_place" "caret_place" sCPlace f fd) (T : TxtB mg) (B : ExB K mg "NoSuchCaret" CN) (C_places_of : Cal P w K mg base CX0 (n + 3) "places_of" ["row", "number"] (spX K (RPlc n))) (C_is_integer : Cal P w K mg base CX0 1 "is_integer" ["value", "least", "most"] (spIsInteger K)) : FnOk P w K mg base (L2.CX P w) (n + 4) f fd ["formula", "number"] (spPl K CN n) := by
  have sc := scCPlace
  refine F.okX scCPlace (fun vs H Q E h => ?_) (fun cdv A outer s H vs Q E hr h => ?_)
  · rcases h with ⟨_, ds, d, _, l, ⟨_, _, _, rfl, _⟩, _⟩ | ⟨_, ds, d, _, l, ⟨_, _, rfl, _⟩, _⟩
    · exact l.len
    · exact l.len
  · refine ⟨_, (pss_cons (ps_set (i := 2) sc.nd rfl (Or.inl rfl) (pe_cal C_places_of (hr.mono (by omega)) rfl pass0 (pa_cons (pv 0) (pa_cons pe_int pa_nil))))
  (pss_cons (ps_if (pt_not (pt_val (pe_cal C_is_integer (hr.mono (by omega)) rfl pass0 (pa_cons (pv 1) (pa_cons pe_int (pa_cons (pe_op op_sub (pe_callB (r := rLenQ K) call_lenK (by rfl) T.b_len PySem.boot_len (pa_cons (pv 2) pa_nil)) pe_int) pa_nil))))))
  (pss_one (ps_raise rfl (takes_of rfl rfl rfl rfl) (pmk_own PySem.F.excBase_ValueError B.x B.g B.k (raises_own B.b B.t) rfl)))
  pss_nil)
  (pss_one (ps_ret (pe_ix ix_list (pv 2) (pv 1) (fun _ _ => rfl)))))), ?_⟩
    rcases h with ⟨A0, ds, d, av, l, ⟨r, j, p, rfl, dep, wl, hp, rfl⟩, k⟩ | ⟨A0, ds, x, av, l, ⟨r, v, rfl, dep, wl, out, rfl⟩, k⟩
    · refine body_ok av l k ?_
      walk_at "go"
      have jl := (List.getElem?_eq_some_iff.mp hp).1
      refine w_set (x_plc (xa_cons (x_var rfl) (xa_one x_int)) dep wl) ?_
      walk_at "d"
      refine w_when (b := false) ((xt_not (xt_test (x_isIntB (xa_cons (x_var rfl) (xa_cons x_int (xa_one (x_op ((x_lenL (e_r (x_var rfl))).is (by rw [List.length_map])) x_int o_I0i))))))).is (by rw [isInt_in (by omega) (by omega)]; rfl)) (fun z => by cases z) (fun _ => ?_)
      exact w_ret (x_ixL (e_r (x_var rfl)) (x_var rfl) (at_nat (by rw [List.getElem?_map, hp]; rfl))) rfl
    · refine body_okZ l ?_
      walk_at "go"
      refine w_set (x_plc (M := pureH K H) (xa_cons (x_var rfl) (xa_one x_int)) dep wl) ?_
      walk_at "d"
      refine w_when (b := true) ((xt_not (xt_test (x_isIntB (M := pureH K H) (xa_cons (x_var rfl) (xa_cons x_int (xa_one (x_op ((x_lenL (e_r (x_var rfl))).is (by rw [List.length_map])) x_int o_I0i))))))).is (by rw [isInt_out (by omega)]; rfl)) (fun _ => ?_) (fun z => by cases z)
      exact s_err (X := E) (CB := CN) fun H' sm => k _ _ _ sm ⟨rfl, rfl⟩
theorem dpy_pairs (l : List (Int × Int)) : dpy (.lst (l.map pairT)) = .list (l.map fun p => .tuple [.int p.1, .int p.2]) := by
  show PyData.list (dpyL _) = _
  rw [dpyL_eq, List.map_map]
  rfl
theorem pl_pairs (l : List (Int × Int)) : (Dt.lst (l.map pairT)).pl = true := plL_of fun d hd => by
  obtain ⟨p, _, rfl⟩ := List.mem_map.mp hd
  rfl
theorem shp_pair (p : Int × Int) : SeqAt.shaped (dpy (pairT p)) = true := rfl
theorem shp_pairs (l : List (Int × Int)) : SeqAt.shaped (dpy (.lst (l.map pairT))) = true := shaped_of (layL_of fun d hd => by
    obtain ⟨p, _, rfl⟩ := List.mem_map.mp hd
    rfl) (Nat.le_trans (dep_lst (n := 1) fun d hd => by
    obtain ⟨p, _, rfl⟩ := List.mem_map.mp hd
    exact dep_tup (n := 0) fun d hd => by
      simp only [List.mem_cons, List.not_mem_nil, or_false] at hd
      rcases hd with rfl | rfl <;> exact Nat.zero_le _) (by decide))
theorem eqv_pair (p q : Int × Int) : PyData.eqv (.tuple [.int p.1, .int p.2]) (.tuple [.int q.1, .int q.2]) = decide (p = q) := by
  obtain ⟨a, b⟩ := p
  obtain ⟨c, d⟩ := q
  rw [Bool.eq_iff_iff, decide_eq_true_eq]
  simp [PyData.eqv, PyData.eqvAll]
theorem x_indexP {L : List (Int × Int)} {p : Int × Int} {j : Nat} (h : Nw.E M te Γ (.lst (L.map pairT))) (hp : Nw.E M ta Γ (pairT p)) (nd : L.Nodup) (hj : L[j]? = some p) : Nw.E M (tBM M.K "list" (rIndexD M.K) te (tCons ta tNil)) Γ (.int (j : Int)) := fun A H0 σ H e Q q => h A H0 σ H e _ fun v H1 n1 tv => by
  obtain ⟨a, xs, rfl, h1, h2, h3⟩ := isd_lst tv
  refine ⟨.inl ⟨rfl, _, SqL.of h1⟩, hp A H0 σ H1 (e.nx n1) _ fun u H2 n2 tu => ?_⟩
  have tv2 := tv.stay n2.sf
  have jl := (List.getElem?_eq_some_iff.mp hj).1
  refine ⟨a, u, dpy (pairT p), L.map fun p => .tuple [.int p.1, .int p.2], j, .tuple [.int p.1, .int p.2], rfl, rfl, by rw [← dpy_pairs]; exact isd_dp tv2 (pl_pairs L), isd_dp tu rfl, by rw [← dpy_pairs]; exact shp_pairs L, shp_pair p, by rw [List.getElem?_map, hj]; rfl, ?_, fun m z hm hz => ?_, q _ _ (n1.trans n2) (.int _)⟩
  · show PyData.eqv (.tuple [.int p.1, .int p.2]) (.tuple [.int p.1, .int p.2]) = true
    rw [eqv_pair, decide_eq_true rfl]
  · obtain ⟨y, hy, rfl⟩ := Mg.get_map hz
    show PyData.eqv (.tuple [.int y.1, .int y.2]) (.tuple [.int p.1, .int p.2]) = false
    rw [eqv_pair, decide_eq_false]
    intro z
    subst z
    have ml := (List.getElem?_eq_some_iff.mp hy).1
    have e1 := (List.getElem?_eq_some_iff.mp hy).2
    have e2 := (List.getElem?_eq_some_iff.mp hj).2
    exact absurd (e1.trans e2.symm) (List.pairwise_iff_getElem.mp nd m j ml jl hm)
theorem scCNumber : FnScope ["formula", "row", "offset", "rows"] ["formula", "row", "offset"] (defScope sCNumber) := ⟨rfl, rfl, rfl, by decide +kernel, rfl, by decide +kernel, by decide +kernel⟩
theorem ok_cnumber {n : Nat} {f : Addr} {fd : FuncData} (F : Fun K "caret_number" "caret_number" sCNumber f fd) (T : TxtB mg) (B : ExB K mg "NoSuchCaret" CN) (C_places_of : Cal P w K mg base CX0 (n + 3) "places_of" ["row", "number"] (spX K (RPlc n))) (C_is_integer : Cal P w K mg base CX0 1 "is_integer" ["value", "least", "most"] (spIsInteger K)) (C_rows_of : Cal P w K mg base CX0 (n + 2) "rows_of" ["formula"] (spRowsOf K n)) : FnOk P w K mg base (L2.CX P w) (n + 4) f fd ["formula", "row", "offset"] (spNm K CN n) := by
  have sc := scCNumber
  refine F.okX scCNumber (fun vs H Q E h => ?_) (fun cdv A outer s H vs Q E hr h => ?_)
  · rcases h with ⟨_, ds, d, _, l, ⟨_, _, _, rfl, _⟩, _⟩ | ⟨_, ds, d, _, l, ⟨_, _, _, rfl, _⟩, _⟩
    · exact l.len
    · exact l.len
  · refine ⟨_, (pss_cons (ps_set (i := 3) sc.nd rfl (Or.inl rfl) (pe_cal C_rows_of (hr.mono (by omega)) rfl pass0 (pa_cons (pv 0) pa_nil)))
  (pss_cons (ps_if (PW.pt (pw_or (pt_not (pt_val (pe_cal C_is_integer (hr.mono (by omega)) rfl pass0 (pa_cons (pv 1) (pa_cons pe_int (pa_cons (pe_op op_sub (pe_callB (r := rLenQ K) call_lenK (by rfl) T.b_len PySem.boot_len (pa_cons (pv 3) pa_nil)) pe_int) pa_nil)))))) (pw_or1 (pt_not (pt_val (pe_cal C_is_integer (hr.mono (by omega)) rfl pass0 (pa_cons (pv 2) (pa_cons pe_int (pa_cons (pe_callB (r := rLenQ K) call_lenK (by rfl) T.b_len PySem.boot_len (pa_cons (pe_ix ix_list (pv 3) (pv 1) (fun _ _ => rfl)) pa_nil)) pa_nil)))))))))
  (pss_one (ps_raise rfl (takes_of rfl rfl rfl rfl) (pmk_own PySem.F.excBase_ValueError B.x B.g B.k (raises_own B.b B.t) rfl)))
  pss_nil)
  (pss_one (ps_ret (pe_bm PySem.F.plainAttrs_list PySem.F.slot_list_index PySem.F.type_list_index (mt_indexD (hu65 hr)) (pe_cal C_places_of (hr.mono (by omega)) rfl pass0 (pa_cons (pv 0) (pa_cons pe_int pa_nil))) (pa_cons (pe_tup (pa_cons (pv 1) (pa_cons (pv 2) pa_nil))) pa_nil)))))), ?_⟩
    have t1 : ∀ {M : Md} {Γ : List Sl} {r : FRow} {a : Int}, M.K = K → Γ[1]? = some (.f (.int a)) → Γ[3]? = some (.f (.lst (r.pre.map rowT))) → ∀ {X : XK}, ET M (tNot (tTest (tCall (spIsInteger K) [] X (tCons (tVar 1) (tCons (tC (.int 0)) (tCons (tOp (rI0 fun i j => .int (i - j)) (tCB (Mg.rLenQ K) (tCons (tVar 3) tNil)) (tC (.int 1))) tNil)))))) Γ (!isInt 0 ((r.pre.length : Int) - 1) (.int a)) := fun {M Γ r a} eK h1 h3 {X} => by
      subst eK
      exact xt_not (xt_test (x_isIntB (xa_cons (x_var h1) (xa_cons x_int (xa_one (x_op ((x_lenL (e_r (x_var h3))).is (by rw [List.length_map])) x_int o_I0i))))))
    have t2 : ∀ {M : Md} {Γ : List Sl} {r q : FRow} {j : Nat} {b : Int}, M.K = K → Γ[1]? = some (.f (.int (j : Int))) → Γ[2]? = some (.f (.int b)) → Γ[3]? = some (.f (.lst (r.pre.map rowT))) → r.pre[j]? = some q → ∀ {X : XK}, ET M (tNot (tTest (tCall (spIsInteger K) [] X (tCons (tVar 2) (tCons (tC (.int 0)) (tCons (tCB (Mg.rLenQ K) (tCons (tOp (rIxL K) (tVar 3) (tVar 1)) tNil)) tNil)))))) Γ (!isInt 0 (q.items.length : Int) (.int b)) := fun {M Γ r q j b} eK h1 h2 h3 hq {X} => by
      subst eK
      exact xt_not (xt_test (x_isIntB (xa_cons (x_var h2) (xa_cons x_int (xa_one ((x_lenU (x_ixL (d := rowT q) (e_r (x_var h3)) (x_var h1) (at_nat (by rw [List.getElem?_map, hq]; rfl)))).is (by rw [List.length_map])))))))
    rcases h with ⟨A0, ds, d, av, l, ⟨r, j, p, rfl, dep, wl, hp, rfl⟩, k⟩ | ⟨A0, ds, x, av, l, ⟨r, a, b, rfl, dep, wl, out, rfl⟩, k⟩
    · refine body_ok av l k ?_
      walk_at "go"
      obtain ⟨nd, inn⟩ := plcN_in n r dep 0
      obtain ⟨i, q, p1, hq, p2, p3⟩ := (inn p (List.mem_of_getElem? hp)).ex
      have il := (List.getElem?_eq_some_iff.mp hq).1
      rw [Int.zero_add] at p1
      refine w_set (el_e (xl_rowsOf (M := pure0 K) (xa_one (x_var rfl)) dep wl)) ?_
      walk_at "d"
      rw [p1]
      refine w_when (b := false) ((xt_or (b := false) ((t1 (M := pure0 K) rfl rfl rfl).is (by rw [isInt_in (by omega) (by omega)]; rfl)) fun _ => (t2 (M := pure0 K) rfl rfl rfl rfl hq).is (by rw [isInt_in (by omega) (by omega)]; rfl))) (fun z => by cases z) (fun _ => ?_)
      refine w_ret (x_indexP (M := pure0 K) (L := plcN n r 0) (p := p) (x_plc (M := pure0 K) (xa_cons (x_var rfl) (xa_one x_int)) dep wl) (x_tup (xa_cons ((x_var rfl).is (by rw [p1])) (xa_one (x_var rfl))) (Nat.le_of_ble_eq_true rfl)) nd hp) rfl
    · refine body_okZ l ?_
      walk_at "go"
      refine w_set (el_e (xl_rowsOf (M := pureH K H) (xa_one (x_var rfl)) dep wl)) ?_
      walk_at "d"
      have er : W (pureH K H) (fun _ _ H => E (.ref CN) none H) [.f (rowT r), .f (.int a), .f (.int b), .f (.lst (r.pre.map rowT))] { nx := fun Γ' => False, rt := fun _ => False } := s_err (X := E) (CB := CN) fun H' sm => k _ _ _ sm ⟨rfl, rfl⟩
      by_cases c : a < 0 ∨ (r.pre.length : Int) ≤ a
      · refine w_when (b := true) (xt_or (b := true) (c := true) ((t1 (M := pureH K H) rfl rfl rfl).is (by rw [isInt_out (by omega)]; rfl)) fun z => by cases z) (fun _ => W.post er (fun _ z => z.elim) (fun _ z => z) (fun _ z => z.elim) fun _ z => z.elim) (fun z => by cases z)
      · rcases out with z | ⟨j, q, rfl, hq, ob⟩
        · exact absurd z c
        · refine w_when (b := true) (xt_or (b := false) (c := true) ((t1 (M := pureH K H) rfl rfl rfl).is (by rw [isInt_in (by omega) (by omega)]; rfl)) fun _ => (t2 (M := pureH K H) rfl rfl rfl rfl hq).is (by rw [isInt_out (by omega)]; rfl)) (fun _ => W.post er (fun _ z => z.elim) (fun _ z => z) (fun _ z => z.elim) fun _ z => z.elim) (fun z => by cases z)
/-! _law_refused -/
structure TxtRf (K : PySem.W.Frag) (mg : Str → Option Value) (CN CE : Addr) : Prop where
  g_NoSuchCaret : mg "NoSuchCaret" = some (.ref CN)
  g_SetError : mg "SetError" = some (.ref CE)
  b_isinstance : mg "isinstance" = none
  exNN : PySem.W.exmOne K (.ref CN) (.ref CN) = some true
  ecN : ExcC K CN
  kNE : PySem.W.kitOne K (.ref CN) (.ref CE) = some true
def RRef (CN : Addr) (n : Nat) : List Dt → Dt → Prop := fun ds d => ∃ (r : FRow) (c : Str) (a b : Int), ds = [.str c, rowT r, .int a, .int b] ∧ ((c = "place" ∧ RPlE CN n [rowT r, .int a] ⟨CN, none⟩) ∨ (c = "number" ∧ RNmE CN n [rowT r, .int a, .int b] ⟨CN, none⟩)) ∧ d = .bl true
theorem scBRef : FnScope ["call", "formula", "one", "other", "e"] ["call", "formula", "one", "other"] (defScope sBRef) := ⟨rfl, rfl, rfl, by decide +kernel, rfl, by decide +kernel, by decide +kernel⟩
theorem ok_bref {n : Nat} {f : Addr} {fd : FuncData} (F : Fun K "_law_refused" "_law_refused" sBRef f fd) (T : TxtRf K mg CN CE) (C_caret_place : Cal P w K mg base (L2.CX P w) (n + 4) "caret_place" ["formula", "number"] (spPl K CN n)) (C_caret_number : Cal P w K mg base (L2.CX P w) (n + 4) "caret_number" ["formula", "row", "offset"] (spNm K CN n)) : FnOk P w K mg base CX0 (n + 5) f fd ["call", "formula", "one", "other"] (spX K (RRef CN n)) := by
  have sc := scBRef
  refine F.ok scBRef (fun vs H Q E h => ?_) (fun cdv A outer s H vs Q E hr h => ?_)
  · obtain ⟨_, ds, d, _, l, ⟨_, _, _, _, rfl, _⟩, _⟩ := h
    exact l.len
  · obtain ⟨f1, fd1, F1, g1, k1, b1⟩ := C_caret_place
    obtain ⟨f2, fd2, F2, g2, k2, b2⟩ := C_caret_number
    have hrc : Room (n + 4) _ := hr.mono (by omega)
    refine ⟨_, (pss_cons (ps_try_mix (tb := fun W => tIfS (tTest (tOp rEq (tVar 0) (tC (.str "place")))) (tDrop (tCallS (spPl K CN n) (WE W) (tCons (tVar 1) (tCons (tVar 2) tNil)))) (tDrop (tCallS (spNm K CN n) (WE W) (tCons (tVar 1) (tCons (tVar 2) (tCons (tVar 3) tNil))))))
        (l := [(.ref CN, some 4, fun a cls d => tRet (tCB (rIsG K a cls d) (tCons (tVar 4) (tCons (tC (.ref CE)) tNil))))])
        (Wo := fun _ _ _ _ => False) rfl rfl sc.nd takes0
        (fun W pn xe tk _ => pss_one (ps_if (pt_cmpR op_eq (pv 0) pe_str (nomark _)) (pss_one (ps_expr (pe_callS F1 hrc rfl g1 k1 b1 (fun σ => passAt tk σ) (pa_cons (pv 1) (pa_cons (pv 2) pa_nil))))) (pss_one (ps_expr (pe_callS F2 hrc rfl g2 k2 b2 (fun σ => passAt tk σ) (pa_cons (pv 1) (pa_cons (pv 2) (pa_cons (pv 3) pa_nil))))))))
        (.named (i := 4) ⟨rfl, by decide, Or.inl T.g_NoSuchCaret⟩ rfl rfl (fun a oe cls d pn hz hf => pss_one (ps_ret (pe_callB (call_isG hz hf) (by rfl) T.b_isinstance (by decide +kernel) (pa_cons (pv 4) (pa_cons (pe_gref rfl T.g_SetError) pa_nil))))) .nil))
      (pss_one (ps_ret pe_bl))), ?_⟩
    obtain ⟨A0, ds, d, av, l, ⟨r, c, a, b, rfl, hh, rfl⟩, k⟩ := h
    cases l with
    | cons l0 l => cases l with
    | cons l1 l => cases l with
    | cons l2 l => cases l with
    | cons l3 l =>
    cases l
    cases isd_str l0
    cases isd_int l2
    cases isd_int l3
    have catch' : ∀ {D : Ends} {σ : L2.St} {cc : Value} {dd : Option Addr} {H' : Hp}, (∀ v G, D.rt v G = Q v G) → σ.length = 5 → Same H H' → exOk ⟨CN, none⟩ cc dd H' → wMix K (fun _ _ _ _ => False) D [(.ref CN, some 4, fun a cls d => tRet (tCB (rIsG K a cls d) (tCons (tVar 4) (tCons (tC (.ref CE)) tNil))))] cc dd σ H' := fun {D σ cc dd H'} hD hl sm ok => by
      have ok : cc = .ref CN ∧ dd = none := ok
      obtain ⟨rfl, rfl⟩ := ok
      refine ⟨true, T.exNN, fun _ a na => ?_, fun z => Bool.noConfusion z⟩
      refine ⟨.ref a, ?_, CN, rfl, rfl, T.ecN, _, .ref CE, true, rfl, fun _ r => r, T.kNE, ?_⟩
      · rw [List.getElem?_set, if_pos rfl, if_pos (by omega)]
      · show D.rt _ _
        rw [hD]
        exact k _ _ sm (fun a z => sm.free z) (.bl true)
    refine ⟨_, rfl, rfl, _, rfl, ?_⟩
    rcases hh with ⟨rfl, he⟩ | ⟨rfl, he⟩
    · refine iteP (by simp) ?_
      exact ⟨_, rfl, _, rfl, .inr ⟨A0, _, _, av, .cons l1 (.cons l2 .nil), he, fun cc dd H' sm ok => catch' (fun _ _ => rfl) rfl sm ok⟩⟩
    · refine iteN (by decide +kernel) ?_
      exact ⟨_, rfl, _, rfl, _, rfl, .inr ⟨A0, _, _, av, .cons l1 (.cons l2 (.cons l3 .nil)), he, fun cc dd H' sm ok => catch' (fun _ _ => rfl) rfl sm ok⟩⟩
end
end Mg.Nw

set_option Elab.async false
set_option linter.all false
set_option maxRecDepth 100000
set_option maxHeartbeats 1000000
namespace Mg.Nw
open PySem PySem.Spec PyProof.Rows L2
section
variable {P : Program} {w : World} {K : PySem.W.Frag} {mg : Str → Option Value} {base : Heap}
/-- the law's words, level by level -/
theorem bpieces_all {f1 f2 f3 : Addr} {d1 d2 d3 : FuncData} (F1 : Fun K "_law_pieces" "_law_pieces" sBPieces f1 d1) (F2 : Fun K "_law_nucleus" "_law_nucleus" sBNuc f2 d2) (F3 : Fun K "_law_braced" "_law_braced" sBBraced f3 d3) (T : TxtB mg)
    (c1 : Abk K mg "_law_pieces" f1 d1 ["row"]) (c2 : Abk K mg "_law_nucleus" f2 d2 ["nucleus"]) (c3 : Abk K mg "_law_braced" f3 d3 ["row"]) : ∀ n, Cal P w K mg base CX0 (3 * n) "_law_pieces" ["row"] (spX K (RPc n)) := by
  intro n
  induction n with
  | zero => exact ⟨f1, d1, FnOk.vac fun vs H Q E ⟨_, _, _, _, _, ⟨_, _, _, h, _⟩, _⟩ => Nat.not_lt_zero _ h, c1.1, c1.2.1, c1.2.2⟩
  | succ n ih =>
    have qb : Cal P w K mg base CX0 (3 * n + 1) "_law_braced" ["row"] (spX K (RBr n)) := ⟨f3, d3, ok_bbraced F3 ih, c3.1, c3.2.1, c3.2.2⟩
    exact ⟨f1, d1, ok_bpieces F1 ⟨f2, d2, ok_bnuc F2 T ih qb, c2.1, c2.2.1, c2.2.2⟩ qb, c1.1, c1.2.1, c1.2.2⟩
end
end Mg.Nw

set_option Elab.async false
set_option linter.all false
set_option maxRecDepth 100000
set_option maxHeartbeats 1000000
namespace Mg.Nw
open PySem PySem.Spec PyProof.Rows L2
local macro_rules | `(tactic| walk_at "op") => `(tactic| first | exact o_I0i | exact o_I0b | exact o_ixT rfl | exact o_eqS | exact o_neS | exact o_eqI | exact o_neI | exact o_isN rfl | exact o_notN rfl | exact o_Ii (.inl ⟨by decide, by decide⟩) | exact o_Ii (.inr ⟨by decide, by decide⟩) | exact o_Ii ⟨by decide, by decide⟩ | skip)
local macro_rules | `(tactic| walk_at "x") => `(tactic| first
  | exact x_int | exact x_str | exact x_bl | exact x_non | exact xa_nil | exact xo_no | exact x_var rfl | exact r_var rfl | exact xt_yes
  | ((with_reducible apply xa_cons) <;> walk_at "x")
  | ((with_reducible apply x_op) <;> walk_at "x")
  | ((with_reducible apply x_ixL) <;> walk_at "x")
  | ((with_reducible apply x_tup) <;> walk_at "x")
  | ((with_reducible apply xl_lst) <;> walk_at "x")
  | ((with_reducible apply xl_cat) <;> walk_at "x")
  | ((with_reducible apply x_catT) <;> walk_at "x")
  | ((with_reducible apply x_slT) <;> walk_at "x")
  | ((with_reducible apply xl_slL) <;> walk_at "x")
  | ((with_reducible apply xo_some) <;> walk_at "x")
  | ((with_reducible apply xt_test) <;> walk_at "x")
  | ((with_reducible apply xt_B) <;> walk_at "x")
  | ((with_reducible apply xt_not) <;> walk_at "x")
  | ((with_reducible apply xt_and) <;> walk_at "x")
  | ((with_reducible apply xt_or) <;> walk_at "x")
  | ((with_reducible apply x_and) <;> walk_at "x")
  | ((with_reducible apply x_or) <;> walk_at "x")
  | ((with_reducible apply x_not) <;> walk_at "x")
  | ((with_reducible apply it_tup) <;> walk_at "x")
  | ((with_reducible apply it_lst) <;> walk_at "x")
  | ((with_reducible apply it_enum) <;> walk_at "x")
  | ((with_reducible apply it_zip) <;> walk_at "x")
  | ((with_reducible apply it_rev) <;> walk_at "x")
  | exact gt_name | exact gts_nil
  | ((with_reducible apply gt_tup) <;> walk_at "x")
  | ((with_reducible apply gt_lst) <;> walk_at "x")
  | ((with_reducible apply gts_cons) <;> walk_at "x")
  | (with_reducible apply x_b2; walk_at "x"; walk_at "x"; exact b_max2)
  | (with_reducible apply x_lenU; walk_at "x"; done)
  | (with_reducible apply x_lenL; walk_at "x"; done)
  | ((with_reducible apply x_sum) <;> walk_at "x")
  | ((with_reducible apply x_max) <;> walk_at "x")
  | ((with_reducible apply x_call) <;> walk_at "x")
  | ((with_reducible apply xt_tuple) <;> walk_at "x")
  | (with_reducible apply xl_listU; walk_at "x"; done)
  | (with_reducible apply xl_listL; walk_at "x"; done)
  | (with_reducible apply el_r; walk_at "y")
  | (with_reducible apply el_e; walk_at "y")
  | (with_reducible apply e_r; walk_at "x")
  | exact Nat.le_of_ble_eq_true rfl
  | exact List.cons_ne_nil _ _
  | rfl
  | (simp only [List.length_cons, List.length_nil]; decide +kernel)
  | (with_reducible intro _; walk_at "x")
  | walk_at "op")
local macro_rules | `(tactic| walk_at "y") => `(tactic| first
  | ((with_reducible apply xl_lst) <;> walk_at "x")
  | ((with_reducible apply xl_cat) <;> walk_at "x")
  | ((with_reducible apply xl_slL) <;> walk_at "x")
  | (with_reducible apply xl_listU; walk_at "x"; done)
  | (with_reducible apply xl_listL; walk_at "x"; done))
local macro_rules | `(tactic| walk_at "s") => `(tactic| first | exact Sub.nil | (apply Sub.cons; (first | exact SlLe.refl | exact SlLe.any | exact SlLe.frz | skip); walk_at "s") | skip)
local macro_rules | `(tactic| walk_at "d") => `(tactic| try dsimp only [List.set, wipeS])
local macro_rules | `(tactic| walk_at "go") => `(tactic| ((try dsimp only [cxOf]); simp only [st0, List.map_cons, List.map_nil, List.length_cons, List.length_nil, List.cons_append, List.nil_append, Nat.reduceAdd, Nat.reduceSub, List.replicate]))

/-! the law: law_k50 -/
abbrev sBFixed : Stmt := top 63
abbrev sLaw : Stmt := top 64
def fxC : CRow := .cons (.mk (.sym "x") (.ba (.brace .nil) (.brace (.cons (.mk (.sym "2") .no) .nil)))) (.cons (.mk (.frac (.one "1") (.one "2")) .no) .nil)
def fxTs : List (Str × Nat) := [("x", 0), ("_", 0), ("{", 0), ("}", 0), ("^", 0), ("{", 0), ("2", 0), ("}", 0), ("@frac", 1), ("1", 1), ("2", 0)]
def fxR : FRow := fxC.f
def dueL : List (Int × Int) := [(0, 0), (1, 0), (2, 0), (2, 1), (0, 1), (3, 0), (3, 1), (4, 0), (4, 1), (0, 2)]
theorem sy_1 : Sy "1" := ⟨by decide +kernel, by decide +kernel⟩
theorem sy_2 : Sy "2" := ⟨by decide +kernel, by decide +kernel⟩
theorem sy_x : Sy "x" := ⟨by decide +kernel, by decide +kernel⟩
theorem fx_parse : RParse 4 [.str "x_{}^{2}@frac 1 2"] fxR.d :=
  ⟨"x_{}^{2}@frac 1 2", 0, fxTs, fxC, rfl, by decide +kernel, tokB_ok (by decide +kernel), by decide +kernel, by decide +kernel, ⟨⟨sy_x, trivial, ⟨⟨sy_2, trivial⟩, trivial⟩⟩, ⟨⟨sy_1, sy_2⟩, trivial⟩, trivial⟩, by decide +kernel, by decide +kernel, ⟨by decide +kernel, by decide +kernel, by decide +kernel, by decide +kernel, by decide +kernel, by decide +kernel⟩, rfl⟩
theorem fx_dep : fxR.dep < 4 := by decide +kernel
theorem fx_len : fxR.words.length ≤ 100000 := by decide +kernel
theorem fx_plc : plcN 4 fxR 0 = dueL := by decide +kernel
theorem due_get {k : Nat} (h : k < 10) : dueL[k]? = some (dueL.getD k (0, 0)) := by
  rw [List.getD_eq_getElem?_getD, List.getElem?_eq_getElem (show k < dueL.length from h)]
  rfl
def RFxB : List Dt → Dt → Prop := fun ds d => ds = [] ∧ d = .bl true
section
variable {P : Program} {w : World} {K : PySem.W.Frag} {mg : Str → Option Value} {base : Heap} {M : Md} {Γ : List Sl} {ta te tb : TE} {X : XK} {CN : Addr}
theorem shp_ints (l : List Int) : SeqAt.shaped (dpy (.lst (l.map Dt.int))) = true := shaped_of (layL_of fun d hd => by
    obtain ⟨p, _, rfl⟩ := List.mem_map.mp hd
    rfl) (Nat.le_trans (dep_lst (n := 0) fun d hd => by
    obtain ⟨p, _, rfl⟩ := List.mem_map.mp hd
    exact Nat.zero_le _) (by decide))
theorem plB_ints (l : List Int) : (Dt.lst (l.map Dt.int)).pl = true := plL_of fun d hd => by
  obtain ⟨p, _, rfl⟩ := List.mem_map.mp hd
  rfl
theorem x_listRg {n : Nat} (h : Nw.E M te Γ (.int (n : Int))) (hn : n ≤ 1000000) : EL M (tLstRg (tRg1 te)) Γ (((List.range n).map fun i : Nat => (i : Int)).map Dt.int) := fun A H0 σ H e Q q => h A H0 σ H e _ fun v H1 n1 tv => by
  refine ⟨n, isd_int tv, .of_le (Int.le_refl _) (by omega) (by decide) (by omega), fun p hp => ?_⟩
  have er : rgV 0 (n : Int) = ((List.range n).map fun i : Nat => (i : Int)).map V.int := by
    unfold rgV
    rw [List.map_map, Int.sub_zero, Int.toNat_natCast]
    exact List.map_congr_left fun i _ => by
      show V.int (0 + (i : Int)) = V.int (i : Int)
      rw [Int.zero_add]
  rw [er]
  exact el_new e n1 hp (isl_of_ints _) q
theorem scBFixed : FnScope ["formula", "due", "k", "row", "offset"] [] (defScope sBFixed) := ⟨rfl, rfl, rfl, by decide +kernel, rfl, by decide +kernel, by decide +kernel⟩
theorem ok_bfixed {f : Addr} {fd : FuncData} (F : Fun K "_law_fixed" "_law_fixed" sBFixed f fd) (T : TxtB mg) (C_parse : Cal P w K mg base CX0 30 "parse" ["text"] (spR K (RParse 4))) (C_caret_place : Cal P w K mg base (L2.CX P w) 8 "caret_place" ["formula", "number"] (spPl K CN 4)) (C_caret_number : Cal P w K mg base (L2.CX P w) 8 "caret_number" ["formula", "row", "offset"] (spNm K CN 4)) : FnOk P w K mg base CX0 31 f fd [] (spX K RFxB) := by
  have sc := scBFixed
  refine F.ok scBFixed (fun vs H Q E h => ?_) (fun cdv A outer s H vs Q E hr h => ?_)
  · obtain ⟨_, ds, d, _, l, ⟨rfl, _⟩, _⟩ := h
    exact l.len
  · obtain ⟨A0, ds, d, av, l, ⟨rfl, rfl⟩, k⟩ := h
    refine ⟨_, (pss_cons (ps_set (i := 0) sc.nd rfl (Or.inr rfl) (pe_cal C_parse (hr.mono (by omega)) rfl pass0 (pa_cons pe_str pa_nil)))
  (pss_cons (ps_set (i := 1) sc.nd rfl (Or.inl rfl) (pe_lst (pa_cons (pe_tup (pa_cons pe_int (pa_cons pe_int pa_nil))) (pa_cons (pe_tup (pa_cons pe_int (pa_cons pe_int pa_nil))) (pa_cons (pe_tup (pa_cons pe_int (pa_cons pe_int pa_nil))) (pa_cons (pe_tup (pa_cons pe_int (pa_cons pe_int pa_nil))) (pa_cons (pe_tup (pa_cons pe_int (pa_cons pe_int pa_nil))) (pa_cons (pe_tup (pa_cons pe_int (pa_cons pe_int pa_nil))) (pa_cons (pe_tup (pa_cons pe_int (pa_cons pe_int pa_nil))) (pa_cons (pe_tup (pa_cons pe_int (pa_cons pe_int pa_nil))) (pa_cons (pe_tup (pa_cons pe_int (pa_cons pe_int pa_nil))) (pa_cons (pe_tup (pa_cons pe_int (pa_cons pe_int pa_nil))) pa_nil))))))))))))
  (pss_cons (ps_if (pt_cmpR (op_neD hr.units) (pe_lc (own := [("k", 2)]) rfl sc.nd (pi_range1 rfl T.range (pa_cons pe_int pa_nil)) (blkOk_by (own := [("k", 2)]) (N := ["formula", "due", "k", "row", "offset"]) (sc := defScope sBFixed) (by decide +kernel)) (fun _ _ _ _ _ => (pg_name (i := 2) sc.nd rfl (Or.inl rfl))) (fun _ _ _ _ _ => pts_nil) (fun _ _ _ _ _ => (pe_cal C_caret_place (hr.mono (by omega)) rfl passN (pa_cons (pv 0) (pa_cons (pv 2) pa_nil))))) (pv 1) (nomark _))
  (pss_one (ps_ret pe_bl))
  pss_nil)
  (pss_one (ps_ret (pe_cmpR (op_eqD hr.units) (pe_lc (own := [("row", 3), ("offset", 4)]) (g := (gTup K 2 (gCons (gName 3) (gCons (gName 4) gNil)))) rfl sc.nd (pi_list (pv 1)) (blkOk_by (own := [("row", 3), ("offset", 4)]) (N := ["formula", "due", "k", "row", "offset"]) (sc := defScope sBFixed) (by decide +kernel)) (fun _ _ _ _ _ => (pg_tup rfl (pgs_cons (pg_name (i := 3) sc.nd rfl (Or.inl rfl)) (pgs_cons (pg_name (i := 4) sc.nd rfl (Or.inl rfl)) pgs_nil)))) (fun _ _ _ _ _ => pts_nil) (fun _ _ _ _ _ => (pe_cal C_caret_number (hr.mono (by omega)) rfl passN (pa_cons (pv 0) (pa_cons (pv 3) (pa_cons (pv 4) pa_nil)))))) (pe_listRg rfl (by rfl) T.b_list (prg_1 (by rfl) T.range pe_int)) (nomark _))))))), ?_⟩
    refine body_ok av l k ?_
    walk_at "go"
    refine w_set (d := rowT fxR) ((x_parse x_str fx_parse).is (pd_row _)) ?_
    walk_at "d"
    have pr : ∀ {Γ : List Sl} {a b : Int}, Nw.E (pure0 K) (tTup (tCons (tC (.int a)) (tCons (tC (.int b)) tNil))) Γ (pairT (a, b)) := x_tup (xa_cons x_int (xa_one x_int)) (Nat.le_of_ble_eq_true rfl)
    refine w_setl (ds := dueL.map pairT) (Nat.le_of_ble_eq_true rfl) (xl_lst (xa_cons pr (xa_cons pr (xa_cons pr (xa_cons pr (xa_cons pr (xa_cons pr (xa_cons pr (xa_cons pr (xa_cons pr (xa_one pr)))))))))) (Nat.le_of_ble_eq_true rfl)) ?_
    walk_at "d"
    refine w_frz (i := 1) rfl ?_
    walk_at "d"
    refine w_when (b := false) (xt_test (x_op (d1 := .lst (dueL.map pairT)) (el_e (EL.is (xl_lc (List.range 10) (fun i : Nat => Dt.int (i : Int)) (fun i => pairT (dueL.getD i (0, 0))) (it_rng1 (n := 10) x_int (by decide)) (by decide) rfl fun i hi => ⟨_, _, gt_name, rfl, x_callL (M := pure0 K) (xa_cons (x_var rfl) (xa_one (x_var rfl))) ⟨fxR, i, _, rfl, fx_dep, fx_len, by rw [fx_plc]; exact due_get (List.mem_range.mp hi), rfl⟩⟩) rfl)) (x_var rfl) (o_neDt (pl_pairs _) (shp_pairs _)))) (fun z => by cases z) (fun _ => ?_)
    refine w_ret (x_op (d1 := .lst (((List.range 10).map fun i : Nat => (i : Int)).map Dt.int)) (el_e (EL.is (xl_lc (List.range 10) (fun i : Nat => pairT (dueL.getD i (0, 0))) (fun i => Dt.int (i : Int)) (IT.is (it_lst (x_var rfl)) rfl) (by decide) rfl fun i hi => ⟨_, _, gt_tup (ds := [.int (dueL.getD i (0, 0)).1, .int (dueL.getD i (0, 0)).2]) (gts_cons gt_name (gts_cons gt_name gts_nil)) rfl, rfl, x_callL (M := pure0 K) (xa_cons (x_var rfl) (xa_cons (x_var rfl) (xa_one (x_var rfl)))) ⟨fxR, i, _, rfl, fx_dep, fx_len, by rw [fx_plc]; exact due_get (List.mem_range.mp hi), rfl⟩⟩) rfl)) (el_e (x_listRg (n := 10) x_int (by decide))) (o_eqDt (plB_ints _) (shp_ints _))) rfl
structure Law50 (P : Program) (w : World) (K : PySem.W.Frag) (mg : Str → Option Value) (base : Heap) (CN : Addr) : Prop extends TxtB mg, TxtSrc mg where
  fixed : Cal P w K mg base CX0 31 "_law_fixed" [] (spX K RFxB)
  cell : Cal P w K mg base CX0 1 "_law_cell" ["script", "k"] (spCellN K)
  formula : Cal P w K mg base CX0 15 "_law_formula" ["cell", "most"] (spN K RFmB)
  text : Cal P w K mg base CX0 13 "_law_text" ["row"] (spX K RText)
  parse : Cal P w K mg base CX0 30 "parse" ["text"] (spR K (RParse 4))
  places : Cal P w K mg base CX0 7 "_law_places" ["row", "number"] (spX K (RPlc 4))
  rows : Cal P w K mg base CX0 5 "_law_rows" ["row"] (spX K (RRws 4))
  place : Cal P w K mg base (L2.CX P w) 8 "caret_place" ["formula", "number"] (spPl K CN 4)
  number : Cal P w K mg base (L2.CX P w) 8 "caret_number" ["formula", "row", "offset"] (spNm K CN 4)
  refused : Cal P w K mg base CX0 9 "_law_refused" ["call", "formula", "one", "other"] (spX K (RRef CN 4))
theorem scLaw : FnScope ["script", "formula", "places", "rows", "k", "row"] ["script"] (defScope sLaw) := ⟨rfl, rfl, rfl, by decide +kernel, rfl, by decide +kernel, by decide +kernel⟩
theorem ok_law {f : Addr} {fd : FuncData} (F : Fun K "law" "law" sLaw f fd) (T : Law50 P w K mg base CN) : FnOk P w K mg base CX0 32 f fd ["script"] (spLaw K) := by
  have sc := scLaw
  refine F.ok scLaw (fun vs H Q E h => ?_) (fun cdv A outer s H vs Q E hr h => ?_)
  · obtain ⟨a, ns, rfl, _⟩ := h
    rfl
  · obtain ⟨a, ns, rfl, hS, k⟩ := h
    have C_law_fixed := T.fixed
    have C_law_cell := T.cell
    have C_law_formula := T.formula
    have C_law_text := T.text
    have C_parse := T.parse
    have C_law_places := T.places
    have C_law_rows := T.rows
    have C_caret_place := T.place
    have C_caret_number := T.number
    have C_law_refused := T.refused
    refine ⟨_, (pss_cons (ps_if (pt_not (pt_val (by exact (pe_cal0 C_law_fixed (hr.mono (by omega)) rfl pass0))))
  (pss_one (ps_ret pe_bl))
  pss_nil)
  (pss_cons (ps_set (i := 1) sc.nd rfl (Or.inl rfl) (pe_cal C_parse (hr.mono (by omega)) rfl pass0 (pa_cons (pe_cal C_law_text (hr.mono (by omega)) rfl pass0 (pa_cons (pe_cal C_law_formula (hr.mono (by omega)) rfl pass0 (pa_cons (pe_cal C_law_cell (hr.mono (by omega)) rfl pass0 (pa_cons (pv 0) (pa_cons pe_int pa_nil))) (pa_cons pe_int pa_nil))) pa_nil)) pa_nil)))
  (pss_cons (ps_set (i := 2) sc.nd rfl (Or.inl rfl) (pe_cal C_law_places (hr.mono (by omega)) rfl pass0 (pa_cons (pv 1) (pa_cons pe_int pa_nil))))
  (pss_cons (ps_set (i := 3) sc.nd rfl (Or.inl rfl) (pe_cal C_law_rows (hr.mono (by omega)) rfl pass0 (pa_cons (pv 1) pa_nil)))
  (pss_cons (ps_if (pt_cmpR op_ne (pe_callB (r := rLenQ K) call_lenK (by rfl) T.b_len PySem.boot_len (pa_cons (pv 2) pa_nil)) (pe_op op_add (pe_callB (r := rLenQ K) call_lenK (by rfl) T.b_len PySem.boot_len (pa_cons (pv 3) pa_nil)) (pe_callB (r := rSum K) (cr_sum rfl) (by rfl) T.b_sum (by decide +kernel) (pa_cons (pe_lc (own := [("row", 5)]) rfl sc.nd (pi_list (pv 3)) (blkOk_by (own := [("row", 5)]) (N := ["script", "formula", "places", "rows", "k", "row"]) (sc := defScope sLaw) (by decide +kernel)) (fun _ _ _ _ _ => (pg_name (i := 5) sc.nd rfl (Or.inl rfl))) (fun _ _ _ _ _ => pts_nil) (fun _ _ _ _ _ => (pe_callB (r := rLenQ K) call_lenK (by rfl) T.b_len PySem.boot_len (pa_cons (pv 5) pa_nil)))) pa_nil))) (nomark _))
  (pss_one (ps_ret pe_bl))
  pss_nil)
  (pss_cons (ps_for PassesOwn.never rfl (pi_range1 rfl T.range (pa_cons (pe_callB (r := rLenQ K) call_lenK (by rfl) T.b_len PySem.boot_len (pa_cons (pv 2) pa_nil)) pa_nil)) (pg_name (i := 4) sc.nd rfl (Or.inl rfl))
  (pss_one (ps_if (PW.pt (pw_or (pt_cmpR (op_neD hr.units) (pe_cal C_caret_place (hr.mono (by omega)) rfl passN (pa_cons (pv 1) (pa_cons (pv 4) pa_nil))) (pe_ix ix_list (pv 2) (pv 4) (fun _ _ => rfl)) (nomark _)) (pw_or1 (pt_cmpR op_ne (pe_cal C_caret_number (hr.mono (by omega)) rfl passN (pa_cons (pv 1) (pa_cons (pe_ix ix_tup (pe_ix ix_list (pv 2) (pv 4) (fun _ _ => rfl)) pe_int (fun _ _ => rfl)) (pa_cons (pe_ix ix_tup (pe_ix ix_list (pv 2) (pv 4) (fun _ _ => rfl)) pe_int (fun _ _ => rfl)) pa_nil)))) (pv 4) (nomark _)))))
  (pss_one (ps_ret pe_bl))
  pss_nil)))
  (pss_cons (ps_for PassesOwn.never rfl (pi_range1 rfl T.range (pa_cons (pe_callB (r := rLenQ K) call_lenK (by rfl) T.b_len PySem.boot_len (pa_cons (pv 3) pa_nil)) pa_nil)) (pg_name (i := 4) sc.nd rfl (Or.inl rfl))
  (pss_one (ps_if (PW.pt (pw_or (pt_not (pt_val (pe_cal C_law_refused (hr.mono (by omega)) rfl pass0 (pa_cons pe_str (pa_cons (pv 1) (pa_cons (pv 4) (pa_cons (pe_op op_add (pe_callB (r := rLenQ K) call_lenK (by rfl) T.b_len PySem.boot_len (pa_cons (pe_ix ix_list (pv 3) (pv 4) (fun _ _ => rfl)) pa_nil)) pe_int) pa_nil))))))) (pw_or1 (pt_not (pt_val (pe_cal C_law_refused (hr.mono (by omega)) rfl pass0 (pa_cons pe_str (pa_cons (pv 1) (pa_cons (pv 4) (pa_cons (pe_un un_neg pe_int) pa_nil))))))))))
  (pss_one (ps_ret pe_bl))
  pss_nil)))
  (pss_cons (ps_if (PW.pt (pw_or (pt_not (pt_val (pe_cal C_law_refused (hr.mono (by omega)) rfl pass0 (pa_cons pe_str (pa_cons (pv 1) (pa_cons (pe_callB (r := rLenQ K) call_lenK (by rfl) T.b_len PySem.boot_len (pa_cons (pv 3) pa_nil)) (pa_cons pe_int pa_nil))))))) (pw_or1 (pt_not (pt_val (pe_cal C_law_refused (hr.mono (by omega)) rfl pass0 (pa_cons pe_str (pa_cons (pv 1) (pa_cons (pe_un un_neg pe_int) (pa_cons pe_int pa_nil))))))))))
  (pss_one (ps_ret pe_bl))
  pss_nil)
  (pss_one (ps_ret (pe_and (pe_cal C_law_refused (hr.mono (by omega)) rfl pass0 (pa_cons pe_str (pa_cons (pv 1) (pa_cons (pe_callB (r := rLenQ K) call_lenK (by rfl) T.b_len PySem.boot_len (pa_cons (pv 2) pa_nil)) (pa_cons pe_int pa_nil))))) (pe_one (pe_cal C_law_refused (hr.mono (by omega)) rfl pass0 (pa_cons pe_str (pa_cons (pv 1) (pa_cons (pe_un un_neg pe_int) (pa_cons pe_int pa_nil))))))))))))))))), ?_⟩
    refine law_ok hS k ?_
    walk_at "go"
    refine w_when (b := false) (xt_not (xt_test (b := true) (x_call (R := RFxB) xa_nil ⟨rfl, rfl⟩))) (fun z => by cases z) (fun _ => ?_)
    refine w_setN (en_callR (RX := RParse 4) (R := fun d => ∃ r, d = rowT r ∧ FmB r) (ena_cons (en_call (RX := RText) (R := fun d => ∃ r, d = .str (glueW r.words) ∧ FmB r ∧ smB r = true) (ena_cons (en_ncall (RX := RFmB) (ena_cons (en_cell rfl x_int (Int.le_refl _)) (ena_cons (en_of x_int) ena_nil)) ?_) ena_nil) ?_) ena_nil) ?_) fun d hd => ?_
    · rintro ds ⟨_, _, rfl, ⟨n, rfl⟩, _, _, rfl, rfl, rfl⟩
      exact ⟨_, n, 4, .nil, rfl, by decide, FmB.nil, by decide +kernel, rfl⟩
    · rintro ds ⟨_, _, rfl, ⟨_, _, _, _, r, _, _, fm, sm, rfl⟩, rfl⟩
      exact ⟨_, ⟨r, rfl, fm, rfl⟩, r, rfl, fm, sm⟩
    · rintro ds ⟨_, _, rfl, ⟨r, rfl, fm, sm⟩, rfl⟩
      exact ⟨[.str (glueW r.words)], r.d, rfl, rfl, parse_glue fm sm (by decide), r, pd_row r, fm⟩
    obtain ⟨r, rfl, fm⟩ := hd
    walk_at "d"
    have dep : r.dep < 4 := Nat.lt_succ_of_le fm.dep
    have wl : r.words.length ≤ 100000 := Nat.le_trans fm.wl (by decide)
    have pl := pre_len r
    have fl := fm.wl
    have tot := plcN_len 4 r dep 0
    have tl := cnR_le r
    refine w_set (x_plc (xa_cons (x_var rfl) (xa_one x_int)) dep wl) ?_
    walk_at "d"
    refine w_set (d := .lst (r.pre.map rowT)) (x_call (R := RRws 4) (xa_one (x_var rfl)) ⟨r, rfl, dep, wl, rfl⟩) ?_
    walk_at "d"
    have sm : (r.pre.map fun q => (q.items.length : Int)).sum = ((r.pre.map fun q => q.items.length).sum : Nat) := by
      generalize r.pre = l
      induction l with
      | nil => rfl
      | cons x l ih =>
        rw [List.map_cons, List.sum_cons, List.map_cons, List.sum_cons, ih]
        omega
    refine w_when (b := false) ((xt_test (x_op ((x_lenL (e_r (x_var rfl))).is (by rw [List.length_map])) (x_op ((x_lenL (e_r (x_var rfl))).is (by rw [List.length_map])) (x_sum (ns := r.pre.map fun q => (q.items.length : Int)) (el_r (EL.is (xl_lc r.pre rowT (fun q => .int (q.items.length : Nat)) (it_lst (x_var rfl)) (by omega) rfl fun q hq => ⟨_, _, gt_name, rfl, (x_lenU (x_var rfl)).is (by rw [List.length_map])⟩) (by rw [List.map_map]; rfl)))) o_I0i) o_neI)).is ?_) (fun z => by cases z) (fun _ => ?_)
    · rw [sm, tot, decide_eq_true]
      · rfl
      · unfold cnR
        omega
    refine w_for (ds := (List.range (plcN 4 r 0).length).map fun i : Nat => Dt.int (i : Int)) (it_rng1 ((x_lenL (e_r (x_var rfl))).is (by rw [List.length_map])) (by omega)) (fun i => [.f (scrO K ns), .f (rowT r), .f (.lst ((plcN 4 r 0).map pairT)), .f (.lst (r.pre.map rowT)), .any, .any]) (by walk_at "s") (fun i d hd => ?_) ?_
    · obtain ⟨m, hm, rfl⟩ := Mg.get_map hd
      have ml := List.mem_range.mp (List.mem_of_getElem? hm)
      obtain ⟨p, hp⟩ : ∃ p, (plcN 4 r 0)[m]? = some p := ⟨_, List.getElem?_eq_getElem ml⟩
      have at' : ∀ {Γ : List Sl}, Γ[2]? = some (.f (.lst ((plcN 4 r 0).map pairT))) → Γ[4]? = some (.f (.int (m : Int))) → Nw.E (pure0 K) (tOp (rIxL K) (tVar 2) (tVar 4)) Γ (pairT p) := fun h2 h4 => x_ixL (M := pure0 K) (e_r (x_var h2)) (x_var h4) (at_nat (by rw [List.getElem?_map, hp]; rfl))
      refine ⟨_, _, gt_name, ?_⟩
      walk_at "d"
      refine s_if (b := false) (xt_or (b := false) (c := false) (xt_test (x_op (d1 := pairT p) (x_callL (M := pure0 K) (xa_cons (x_var rfl) (xa_one (x_var rfl))) ⟨r, m, p, rfl, dep, wl, hp, rfl⟩) (at' rfl rfl) (o_neDt rfl (shp_pair p)))) fun _ => (xt_test (x_op (d1 := .int (m : Int)) (x_callL (M := pure0 K) (xa_cons (x_var rfl) (xa_cons (x_op (d1 := pairT p) (at' rfl rfl) x_int (o_ixT (d := .int p.1) rfl)) (xa_one (x_op (d1 := pairT p) (at' rfl rfl) x_int (o_ixT (d := .int p.2) rfl))))) ⟨r, m, p, rfl, dep, wl, hp, rfl⟩) (x_var rfl) o_neI)).is (by rw [decide_eq_true rfl]; rfl)) (fun z => by cases z) (fun _ => w_next ?_)
      show Sub _ _
      walk_at "s"
    have ref : ∀ {Γ : List Sl} {c : Str} {tas : TA} {a b : Int} {X : XK}, EA (pure0 K) tas Γ [.str c, rowT r, .int a, .int b] → ((c = "place" ∧ RPlE CN 4 [rowT r, .int a] ⟨CN, none⟩) ∨ (c = "number" ∧ RNmE CN 4 [rowT r, .int a, .int b] ⟨CN, none⟩)) → Nw.E (pure0 K) (tCall (spX K (RRef CN 4)) [] X tas) Γ (.bl true) := fun {Γ c tas a b X} h hh => x_call (M := pure0 K) h ⟨r, c, a, b, rfl, hh, rfl⟩
    refine w_for (ds := (List.range r.pre.length).map fun i : Nat => Dt.int (i : Int)) (it_rng1 ((x_lenL (e_r (x_var rfl))).is (by rw [List.length_map])) (by omega)) (fun i => [.f (scrO K ns), .f (rowT r), .f (.lst ((plcN 4 r 0).map pairT)), .f (.lst (r.pre.map rowT)), .any, .any]) (by walk_at "s") (fun i d hd => ?_) ?_
    · obtain ⟨m, hm, rfl⟩ := Mg.get_map hd
      have ml := List.mem_range.mp (List.mem_of_getElem? hm)
      obtain ⟨q, hq⟩ : ∃ q, r.pre[m]? = some q := ⟨_, List.getElem?_eq_getElem ml⟩
      refine ⟨_, _, gt_name, ?_⟩
      walk_at "d"
      refine s_if (b := false) (xt_or (b := false) (c := false) (xt_not (xt_test (b := true) (ref (xa_cons x_str (xa_cons (x_var rfl) (xa_cons (x_var rfl) (xa_one (x_op ((x_lenU (x_ixL (M := pure0 K) (d := rowT q) (e_r (x_var rfl)) (x_var rfl) (at_nat (by rw [List.getElem?_map, hq]; rfl)))).is (by rw [List.length_map])) x_int o_I0i)))))
        (.inr ⟨rfl, r, _, _, rfl, dep, wl, .inr ⟨m, q, rfl, hq, .inr (by omega)⟩, rfl⟩)))) fun _ => xt_not (xt_test (b := true) (ref (xa_cons x_str (xa_cons (x_var rfl) (xa_cons (x_var rfl) (xa_one (x_negB x_int))))) (.inr ⟨rfl, r, _, _, rfl, dep, wl, .inr ⟨m, q, rfl, hq, .inl (by omega)⟩, rfl⟩)))) (fun z => by cases z) (fun _ => w_next ?_)
      show Sub _ _
      walk_at "s"
    refine w_when (b := false) (xt_or (b := false) (c := false) (xt_not (xt_test (b := true) (ref (xa_cons x_str (xa_cons (x_var rfl) (xa_cons ((x_lenL (e_r (x_var rfl))).is (by rw [List.length_map])) (xa_one x_int)))) (.inr ⟨rfl, r, _, _, rfl, dep, wl, .inl (.inr (Int.le_refl _)), rfl⟩)))) fun _ => xt_not (xt_test (b := true) (ref (xa_cons x_str (xa_cons (x_var rfl) (xa_cons (x_negB x_int) (xa_one x_int)))) (.inr ⟨rfl, r, _, _, rfl, dep, wl, .inl (.inl (by decide)), rfl⟩)))) (fun z => by cases z) (fun _ => ?_)
    exact w_ret (x_and (b := true) (c := true) (ref (xa_cons x_str (xa_cons (x_var rfl) (xa_cons ((x_lenL (e_r (x_var rfl))).is (by rw [List.length_map])) (xa_one x_int)))) (.inl ⟨rfl, r, _, rfl, dep, wl, .inr (Int.le_refl _), rfl⟩)) fun _ => ref (xa_cons x_str (xa_cons (x_var rfl) (xa_cons (x_negB x_int) (xa_one x_int)))) (.inl ⟨rfl, r, _, rfl, dep, wl, .inl (by decide), rfl⟩)) rfl
end
end Mg.Nw

set_option Elab.async false
set_option linter.all false
set_option maxRecDepth 100000
set_option maxHeartbeats 4000000
namespace Mg.Nw
open PySem PySem.Spec PyProof.Rows L2
theorem sqt_of {K : PySem.W.Frag} {a : Addr} {od : Option Addr} {its : Array Value} {n : Nat} {sl : Array (Option Value)} {xs : List V} (h : K.lookup a = some ⟨.type "tuple", od, .seq its n, sl⟩) (hz : its.size ≤ sizeLine) (hv : Vals xs its.toList) : ∀ H, SqT K H a xs := fun H => .inr ⟨_, its, n, h, rfl, rfl, hz, hv⟩
theorem kit_own {K : PySem.W.Frag} {t : Value} {C : Addr} (h1 : PySem.W.hasDictIn K C = true) (h2 : PySem.W.typeIn K (.ref C) = some (.type "type")) (h3 : PySem.W.subIn K t (.ref C) = some true) : PySem.W.kitCls K t (.ref C) = some true := by
  obtain ⟨cd, hc, _⟩ := PySem.W.any_some h1
  unfold PySem.W.kitCls
  have e : ((PySem.W.clsIn K C).isSome && PySem.W.typeIn K (.ref C) == some (.type "type")) = true := by
    rw [hc, h2]
    rfl
  dsimp only
  rw [if_pos e]
  exact h3
theorem kit_VE {K : PySem.W.Frag} {t : Value} (h : PySem.W.subIn K t (.type "ValueError") = some true) : PySem.W.kitCls K t (.type "ValueError") = some true := by
  unfold PySem.W.kitCls
  dsimp only
  rw [if_pos (by decide +kernel)]
  exact h
theorem kit_me {K : PySem.W.Frag} {C : Addr} : PySem.W.kitOne K (.ref C) (.ref C) = some true := by
  unfold PySem.W.kitOne
  rw [if_pos (by simp)]
theorem ne_ref {a b : Addr} (h : a ≠ b) : (Value.ref a == Value.ref b) = false := by
  simp [h]
theorem all_mk {P : Program} {w : World} {K : PySem.W.Frag} {h : Heap} {mg : Str → Option Value} {fa : Addr} {f0 f1 f2 f3 f4 f5 f6 f7 f8 f9 CR f10 aR f11 f12 f13 f14 f15 f16 m0 m1 m2 m3 m4 m5 m6 m7 m8 m9 m10 m11 m12 m13 f17 f18 f19 f20 f21 f22 f23 f24 f25 f26 f27 f28 f29 f30 f31 f32 f33 f34 CN f35 f36 f37 CE f38 f39 : Addr}
    (X : K.In h) (G : h.Ns mainGlobals mg) (hfa : mg "law" = some (.ref fa))
    (a0 : PySem.W.nsIn K mainGlobals "law" = some (some (.ref f0)))
    (d0 : ∃ fd, Fun K "law" "law" Mg.Nw.sLaw f0 fd)
    (k0 : PySem.W.keepIn K (.ref f0) = true)
    (a1 : PySem.W.nsIn K mainGlobals "nucleus_rows" = some (some (.ref f1)))
    (d1 : ∃ fd, Fun K "nucleus_rows" "nucleus_rows" Mg.sNucRows f1 fd)
    (k1 : PySem.W.keepIn K (.ref f1) = true)
    (a2 : PySem.W.nsIn K mainGlobals "rows_in" = some (some (.ref f2)))
    (d2 : ∃ fd, Fun K "rows_in" "rows_in" Mg.sRowsIn f2 fd)
    (k2 : PySem.W.keepIn K (.ref f2) = true)
    (a3 : PySem.W.nsIn K mainGlobals "rows_of" = some (some (.ref f3)))
    (d3 : ∃ fd, Fun K "rows_of" "rows_of" Mg.sRowsOf f3 fd)
    (k3 : PySem.W.keepIn K (.ref f3) = true)
    (a4 : PySem.W.nsIn K mainGlobals "row_words" = some (some (.ref f4)))
    (d4 : ∃ fd, Fun K "row_words" "row_words" Mg.sRowWords f4 fd)
    (k4 : PySem.W.keepIn K (.ref f4) = true)
    (a5 : PySem.W.nsIn K mainGlobals "braced_words" = some (some (.ref f5)))
    (d5 : ∃ fd, Fun K "braced_words" "braced_words" Mg.sBraced f5 fd)
    (k5 : PySem.W.keepIn K (.ref f5) = true)
    (a6 : PySem.W.nsIn K mainGlobals "nucleus_words" = some (some (.ref f6)))
    (d6 : ∃ fd, Fun K "nucleus_words" "nucleus_words" Mg.sNucWords f6 fd)
    (k6 : PySem.W.keepIn K (.ref f6) = true)
    (a7 : PySem.W.nsIn K mainGlobals "fence_words" = some (some (.ref f7)))
    (d7 : ∃ fd, Fun K "fence_words" "fence_words" Mg.sFenceW f7 fd)
    (k7 : PySem.W.keepIn K (.ref f7) = true)
    (a8 : PySem.W.nsIn K mainGlobals "grid_words" = some (some (.ref f8)))
    (d8 : ∃ fd, Fun K "grid_words" "grid_words" Mg.sGridW f8 fd)
    (k8 : PySem.W.keepIn K (.ref f8) = true)
    (z_len : PySem.W.nsIn K mainGlobals "len" = some none)
    (z_max : PySem.W.nsIn K mainGlobals "max" = some none)
    (z_sum : PySem.W.nsIn K mainGlobals "sum" = some none)
    (z_enumerate : PySem.W.nsIn K mainGlobals "enumerate" = some none)
    (c_LETTERS : ∃ t : Tok, PySem.W.nsIn K mainGlobals "LETTERS" = some (some (.str Mg.cLETTERS t)))
    (c_DEEPEST : ∃ t : Tok, PySem.W.nsIn K mainGlobals "DEEPEST" = some (some (.int 7 t)))
    (c_MOST_ITEMS : ∃ t : Tok, PySem.W.nsIn K mainGlobals "MOST_ITEMS" = some (some (.int 80 t)))
    (c_LONGEST : ∃ t : Tok, PySem.W.nsIn K mainGlobals "LONGEST" = some (some (.int 400 t)))
    (a9 : PySem.W.nsIn K mainGlobals "depth_of" = some (some (.ref f9)))
    (d9 : ∃ fd, Fun K "depth_of" "depth_of" Mg.sDepthOf f9 fd)
    (k9 : PySem.W.keepIn K (.ref f9) = true)
    (g_Reader : PySem.W.nsIn K mainGlobals "Reader" = some (some (.ref CR)))
    (pg_CR : PySem.W.plainGet K CR Str.empty = true)
    (hd_CR : PySem.W.hasDictIn K CR = true)
    (po_CR : PySem.W.plainOver K CR = true)
    (sa_CR : PySem.W.findIn K (.ref CR) "__setattr__" = some (some (.builtin "object.__setattr__")))
    (mkc_CR : PySem.W.makesIn K CR = true)
    (kc_CR : PySem.W.keepIn K (.ref CR) = true)
    (a10 : PySem.W.nsIn K mainGlobals "is_command" = some (some (.ref f10)))
    (d10 : ∃ fd, Fun K "is_command" "is_command" Mg.sIsCommand f10 fd)
    (k10 : PySem.W.keepIn K (.ref f10) = true)
    (z_all : PySem.W.nsIn K mainGlobals "all" = some none)
    (c_SIGNS : ∃ t : Tok, PySem.W.nsIn K mainGlobals "SIGNS" = some (some (.str Mg.cSIGNS t)))
    (c_MOST_LETTERS : ∃ t : Tok, PySem.W.nsIn K mainGlobals "MOST_LETTERS" = some (some (.int 8 t)))
    (c_RESERVED : PySem.W.nsIn K mainGlobals "RESERVED" = some (some (.ref aR)))
    (k_RESERVED : ∀ H : Hp, SqT K H aR ([V.str "@frac", V.str "@root", V.str "@left", V.str "@right", V.str "@grid"] : List V))
    (a11 : PySem.W.nsIn K mainGlobals "is_symbol" = some (some (.ref f11)))
    (d11 : ∃ fd, Fun K "is_symbol" "is_symbol" Mg.sIsSymbol f11 fd)
    (k11 : PySem.W.keepIn K (.ref f11) = true)
    (a12 : PySem.W.nsIn K mainGlobals "_command_at" = some (some (.ref f12)))
    (d12 : ∃ fd, Fun K "_command_at" "_command_at" Mg.sCommandAt f12 fd)
    (k12 : PySem.W.keepIn K (.ref f12) = true)
    (c_MARKS : ∃ t : Tok, PySem.W.nsIn K mainGlobals "MARKS" = some (some (.str "{}^_&~" t)))
    (c_BAD : ∃ t : Tok, PySem.W.nsIn K mainGlobals "BAD" = some (some (.str "bad" t)))
    (c_END : ∃ t : Tok, PySem.W.nsIn K mainGlobals "END" = some (some (.str "end" t)))
    (a13 : PySem.W.nsIn K mainGlobals "_token_at" = some (some (.ref f13)))
    (d13 : ∃ fd, Fun K "_token_at" "_token_at" Mg.sTokenAt f13 fd)
    (k13 : PySem.W.keepIn K (.ref f13) = true)
    (a14 : PySem.W.nsIn K mainGlobals "tokens_of" = some (some (.ref f14)))
    (d14 : ∃ fd, Fun K "tokens_of" "tokens_of" Mg.sTokensOf f14 fd)
    (k14 : PySem.W.keepIn K (.ref f14) = true)
    (a15 : PySem.W.nsIn K mainGlobals "check_depth" = some (some (.ref f15)))
    (d15 : ∃ fd, Fun K "check_depth" "check_depth" Mg.sCheckDepth0 f15 fd)
    (k15 : PySem.W.keepIn K (.ref f15) = true)
    (no_CR__tokens : PySem.W.findIn K (.ref CR) "_tokens" = some none)
    (no_CR__at : PySem.W.findIn K (.ref CR) "_at" = some none)
    (z_tuple : PySem.W.nsIn K mainGlobals "tuple" = some none)
    (c_MOST_CELLS : ∃ t : Tok, PySem.W.nsIn K mainGlobals "MOST_CELLS" = some (some (.int 6 t)))
    (a16 : PySem.W.nsIn K mainGlobals "cell_stops" = some (some (.ref f16)))
    (d16 : ∃ fd, Fun K "cell_stops" "cell_stops" Mg.sCellStops f16 fd)
    (k16 : PySem.W.keepIn K (.ref f16) = true)
    (ma0 : PySem.W.findIn K (.ref CR) "_peek" = some (some (.ref m0)))
    (mi0 : PySem.W.isFn K (.ref m0) = true)
    (md0 : ∃ fd, Fun K "_peek" "Reader._peek" Mg.sPeek m0 fd)
    (mk0 : PySem.W.keepIn K (.ref m0) = true)
    (ma1 : PySem.W.findIn K (.ref CR) "_accept" = some (some (.ref m1)))
    (mi1 : PySem.W.isFn K (.ref m1) = true)
    (md1 : ∃ fd, Fun K "_accept" "Reader._accept" Mg.sAccept m1 fd)
    (mk1 : PySem.W.keepIn K (.ref m1) = true)
    (ma2 : PySem.W.findIn K (.ref CR) "_symbol" = some (some (.ref m2)))
    (mi2 : PySem.W.isFn K (.ref m2) = true)
    (md2 : ∃ fd, Fun K "_symbol" "Reader._symbol" Mg.sRSymbol m2 fd)
    (mk2 : PySem.W.keepIn K (.ref m2) = true)
    (ma3 : PySem.W.findIn K (.ref CR) "_delimiter" = some (some (.ref m3)))
    (mi3 : PySem.W.isFn K (.ref m3) = true)
    (md3 : ∃ fd, Fun K "_delimiter" "Reader._delimiter" Mg.sDelimiter m3 fd)
    (mk3 : PySem.W.keepIn K (.ref m3) = true)
    (ma4 : PySem.W.findIn K (.ref CR) "_row" = some (some (.ref m4)))
    (mi4 : PySem.W.isFn K (.ref m4) = true)
    (md4 : ∃ fd, Fun K "_row" "Reader._row" Mg.sRRow m4 fd)
    (mk4 : PySem.W.keepIn K (.ref m4) = true)
    (ma5 : PySem.W.findIn K (.ref CR) "_item" = some (some (.ref m5)))
    (mi5 : PySem.W.isFn K (.ref m5) = true)
    (md5 : ∃ fd, Fun K "_item" "Reader._item" Mg.sRItem m5 fd)
    (mk5 : PySem.W.keepIn K (.ref m5) = true)
    (ma6 : PySem.W.findIn K (.ref CR) "_nucleus" = some (some (.ref m6)))
    (mi6 : PySem.W.isFn K (.ref m6) = true)
    (md6 : ∃ fd, Fun K "_nucleus" "Reader._nucleus" Mg.sRNucleus m6 fd)
    (mk6 : PySem.W.keepIn K (.ref m6) = true)
    (ma7 : PySem.W.findIn K (.ref CR) "_braced" = some (some (.ref m7)))
    (mi7 : PySem.W.isFn K (.ref m7) = true)
    (md7 : ∃ fd, Fun K "_braced" "Reader._braced" Mg.sRBraced m7 fd)
    (mk7 : PySem.W.keepIn K (.ref m7) = true)
    (ma8 : PySem.W.findIn K (.ref CR) "_argument" = some (some (.ref m8)))
    (mi8 : PySem.W.isFn K (.ref m8) = true)
    (md8 : ∃ fd, Fun K "_argument" "Reader._argument" Mg.sArgument m8 fd)
    (mk8 : PySem.W.keepIn K (.ref m8) = true)
    (ma9 : PySem.W.findIn K (.ref CR) "_fence" = some (some (.ref m9)))
    (mi9 : PySem.W.isFn K (.ref m9) = true)
    (md9 : ∃ fd, Fun K "_fence" "Reader._fence" Mg.sRFence m9 fd)
    (mk9 : PySem.W.keepIn K (.ref m9) = true)
    (ma10 : PySem.W.findIn K (.ref CR) "_grid" = some (some (.ref m10)))
    (mi10 : PySem.W.isFn K (.ref m10) = true)
    (md10 : ∃ fd, Fun K "_grid" "Reader._grid" Mg.sRGrid m10 fd)
    (mk10 : PySem.W.keepIn K (.ref m10) = true)
    (ma11 : PySem.W.findIn K (.ref CR) "_cells" = some (some (.ref m11)))
    (mi11 : PySem.W.isFn K (.ref m11) = true)
    (md11 : ∃ fd, Fun K "_cells" "Reader._cells" Mg.sRCells m11 fd)
    (mk11 : PySem.W.keepIn K (.ref m11) = true)
    (ma12 : PySem.W.findIn K (.ref CR) "read" = some (some (.ref m12)))
    (mi12 : PySem.W.isFn K (.ref m12) = true)
    (md12 : ∃ fd, Fun K "read" "Reader.read" Mg.sRRead m12 fd)
    (mk12 : PySem.W.keepIn K (.ref m12) = true)
    (ma13 : PySem.W.findIn K (.ref CR) "__init__" = some (some (.ref m13)))
    (mi13 : PySem.W.isFn K (.ref m13) = true)
    (md13 : ∃ fd, Fun K "__init__" "Reader.__init__" Mg.sRInit m13 fd)
    (mk13 : PySem.W.keepIn K (.ref m13) = true)
    (a17 : PySem.W.nsIn K mainGlobals "text_of" = some (some (.ref f17)))
    (d17 : ∃ fd, Fun K "text_of" "text_of" Mg.sTextOf f17 fd)
    (k17 : PySem.W.keepIn K (.ref f17) = true)
    (a18 : PySem.W.nsIn K mainGlobals "check_formula" = some (some (.ref f18)))
    (d18 : ∃ fd, Fun K "check_formula" "check_formula" Mg.sCheckFormula f18 fd)
    (k18 : PySem.W.keepIn K (.ref f18) = true)
    (a19 : PySem.W.nsIn K mainGlobals "parse" = some (some (.ref f19)))
    (d19 : ∃ fd, Fun K "parse" "parse" Mg.sParse f19 fd)
    (k19 : PySem.W.keepIn K (.ref f19) = true)
    (a20 : PySem.W.nsIn K mainGlobals "_law_cell" = some (some (.ref f20)))
    (d20 : ∃ fd, Fun K "_law_cell" "_law_cell" Mg.sCell f20 fd)
    (k20 : PySem.W.keepIn K (.ref f20) = true)
    (z_int : PySem.W.nsIn K mainGlobals "int" = some none)
    (z_abs : PySem.W.nsIn K mainGlobals "abs" = some none)
    (z_range : PySem.W.nsIn K mainGlobals "range" = some none)
    (z_isinstance : PySem.W.nsIn K mainGlobals "isinstance" = some none)
    (z_list : PySem.W.nsIn K mainGlobals "list" = some none)
    (a21 : PySem.W.nsIn K mainGlobals "_law_draws" = some (some (.ref f21)))
    (d21 : ∃ fd, Fun K "_law_draws" "_law_draws" Mg.Nw.sBDraws f21 fd)
    (k21 : PySem.W.keepIn K (.ref f21) = true)
    (a22 : PySem.W.nsIn K mainGlobals "_law_row" = some (some (.ref f22)))
    (d22 : ∃ fd, Fun K "_law_row" "_law_row" Mg.Nw.sBRow f22 fd)
    (k22 : PySem.W.keepIn K (.ref f22) = true)
    (a23 : PySem.W.nsIn K mainGlobals "_law_item" = some (some (.ref f23)))
    (d23 : ∃ fd, Fun K "_law_item" "_law_item" Mg.Nw.sBItem f23 fd)
    (k23 : PySem.W.keepIn K (.ref f23) = true)
    (a24 : PySem.W.nsIn K mainGlobals "_law_drawn" = some (some (.ref f24)))
    (d24 : ∃ fd, Fun K "_law_drawn" "_law_drawn" Mg.Nw.sBDrawn f24 fd)
    (k24 : PySem.W.keepIn K (.ref f24) = true)
    (a25 : PySem.W.nsIn K mainGlobals "_law_pieces" = some (some (.ref f25)))
    (d25 : ∃ fd, Fun K "_law_pieces" "_law_pieces" Mg.Nw.sBPieces f25 fd)
    (k25 : PySem.W.keepIn K (.ref f25) = true)
    (a26 : PySem.W.nsIn K mainGlobals "_law_nucleus" = some (some (.ref f26)))
    (d26 : ∃ fd, Fun K "_law_nucleus" "_law_nucleus" Mg.Nw.sBNuc f26 fd)
    (k26 : PySem.W.keepIn K (.ref f26) = true)
    (a27 : PySem.W.nsIn K mainGlobals "_law_braced" = some (some (.ref f27)))
    (d27 : ∃ fd, Fun K "_law_braced" "_law_braced" Mg.Nw.sBBraced f27 fd)
    (k27 : PySem.W.keepIn K (.ref f27) = true)
    (a28 : PySem.W.nsIn K mainGlobals "_law_text" = some (some (.ref f28)))
    (d28 : ∃ fd, Fun K "_law_text" "_law_text" Mg.Nw.sBText f28 fd)
    (k28 : PySem.W.keepIn K (.ref f28) = true)
    (a29 : PySem.W.nsIn K mainGlobals "_law_inner" = some (some (.ref f29)))
    (d29 : ∃ fd, Fun K "_law_inner" "_law_inner" Mg.Nw.sBInner f29 fd)
    (k29 : PySem.W.keepIn K (.ref f29) = true)
    (a30 : PySem.W.nsIn K mainGlobals "_law_rows" = some (some (.ref f30)))
    (d30 : ∃ fd, Fun K "_law_rows" "_law_rows" Mg.Nw.sBRows f30 fd)
    (k30 : PySem.W.keepIn K (.ref f30) = true)
    (a31 : PySem.W.nsIn K mainGlobals "_law_small" = some (some (.ref f31)))
    (d31 : ∃ fd, Fun K "_law_small" "_law_small" Mg.Nw.sBSmall f31 fd)
    (k31 : PySem.W.keepIn K (.ref f31) = true)
    (a32 : PySem.W.nsIn K mainGlobals "_law_formula" = some (some (.ref f32)))
    (d32 : ∃ fd, Fun K "_law_formula" "_law_formula" Mg.Nw.sBFormula f32 fd)
    (k32 : PySem.W.keepIn K (.ref f32) = true)
    (a33 : PySem.W.nsIn K mainGlobals "places_of" = some (some (.ref f33)))
    (d33 : ∃ fd, Fun K "places_of" "places_of" Mg.Nw.sPlacesOf f33 fd)
    (k33 : PySem.W.keepIn K (.ref f33) = true)
    (a34 : PySem.W.nsIn K mainGlobals "_law_places" = some (some (.ref f34)))
    (d34 : ∃ fd, Fun K "_law_places" "_law_places" Mg.Nw.sBPlaces f34 fd)
    (k34 : PySem.W.keepIn K (.ref f34) = true)
    (g_NoSuchCaret : PySem.W.nsIn K mainGlobals "NoSuchCaret" = some (some (.ref CN)))
    (yx : PySem.W.excIn K CN [.type "ValueError", .type "Exception", .type "BaseException", .type "object"] "ValueError.__new__" = true)
    (yk : PySem.W.keepIn K (.ref CN) = true)
    (yb : PySem.W.subIn K (.ref CN) (.type "BaseException") = some true)
    (yt : PySem.W.typeIn K (.ref CN) = some (.type "type"))
    (a35 : PySem.W.nsIn K mainGlobals "is_integer" = some (some (.ref f35)))
    (d35 : ∃ fd, Fun K "is_integer" "is_integer" Mg.sIsInteger f35 fd)
    (k35 : PySem.W.keepIn K (.ref f35) = true)
    (z_bool : PySem.W.nsIn K mainGlobals "bool" = some none)
    (z_str : PySem.W.nsIn K mainGlobals "str" = some none)
    (a36 : PySem.W.nsIn K mainGlobals "caret_place" = some (some (.ref f36)))
    (d36 : ∃ fd, Fun K "caret_place" "caret_place" Mg.Nw.sCPlace f36 fd)
    (k36 : PySem.W.keepIn K (.ref f36) = true)
    (a37 : PySem.W.nsIn K mainGlobals "caret_number" = some (some (.ref f37)))
    (d37 : ∃ fd, Fun K "caret_number" "caret_number" Mg.Nw.sCNumber f37 fd)
    (k37 : PySem.W.keepIn K (.ref f37) = true)
    (g_SetError : PySem.W.nsIn K mainGlobals "SetError" = some (some (.ref CE)))
    (exNN : PySem.W.exmOne K (.ref CN) (.ref CN) = some true)
    (ycg : PySem.W.findIn K (.ref CN) "__getattribute__" = some (some (.builtin "BaseException.__getattribute__")))
    (yck : PySem.W.findIn K (.ref CN) "__getattr__" = some none)
    (ycd : PySem.W.hasDictIn K CN = true)
    (yca : PySem.W.findIn K (.ref CN) "__class__" = some (some (.builtin "object.__class__")))
    (ycn : PySem.W.specialIn K (.builtin "object.__class__") "__get__" = some (some (.builtin "getset_descriptor.__get__")))
    (yct : PySem.W.takesIn K (.builtin "object.__class__") = some true)
    (ycm : PySem.W.mroIn K CN (.type "object") = some true)
    (kNE : PySem.W.kitOne K (.ref CN) (.ref CE) = some true)
    (a38 : PySem.W.nsIn K mainGlobals "_law_refused" = some (some (.ref f38)))
    (d38 : ∃ fd, Fun K "_law_refused" "_law_refused" Mg.Nw.sBRef f38 fd)
    (k38 : PySem.W.keepIn K (.ref f38) = true)
    (a39 : PySem.W.nsIn K mainGlobals "_law_fixed" = some (some (.ref f39)))
    (d39 : ∃ fd, Fun K "_law_fixed" "_law_fixed" Mg.Nw.sBFixed f39 fd)
    (k39 : PySem.W.keepIn K (.ref f39) = true)
    : ∃ fd : FuncData, (∀ (s : Shared) (v : Value), BindsTo s fd ⟨[v], []⟩ [("script", v)]) ∧ ∀ base : Heap, K.In base → base.Ns mainGlobals mg → FnOk P w K mg base CX0 32 fa fd ["script"] (spLaw K) := by
  have e := hfa.symm.trans (PySem.W.mg_of X G a0)
  cases e
  obtain ⟨fd0, F0⟩ := d0
  obtain ⟨fd1, F1⟩ := d1
  obtain ⟨fd2, F2⟩ := d2
  obtain ⟨fd3, F3⟩ := d3
  obtain ⟨fd4, F4⟩ := d4
  obtain ⟨fd5, F5⟩ := d5
  obtain ⟨fd6, F6⟩ := d6
  obtain ⟨fd7, F7⟩ := d7
  obtain ⟨fd8, F8⟩ := d8
  obtain ⟨fd9, F9⟩ := d9
  obtain ⟨fd10, F10⟩ := d10
  obtain ⟨fd11, F11⟩ := d11
  obtain ⟨fd12, F12⟩ := d12
  obtain ⟨fd13, F13⟩ := d13
  obtain ⟨fd14, F14⟩ := d14
  obtain ⟨fd15, F15⟩ := d15
  obtain ⟨fd16, F16⟩ := d16
  obtain ⟨fd17, F17⟩ := d17
  obtain ⟨fd18, F18⟩ := d18
  obtain ⟨fd19, F19⟩ := d19
  obtain ⟨fd20, F20⟩ := d20
  obtain ⟨fd21, F21⟩ := d21
  obtain ⟨fd22, F22⟩ := d22
  obtain ⟨fd23, F23⟩ := d23
  obtain ⟨fd24, F24⟩ := d24
  obtain ⟨fd25, F25⟩ := d25
  obtain ⟨fd26, F26⟩ := d26
  obtain ⟨fd27, F27⟩ := d27
  obtain ⟨fd28, F28⟩ := d28
  obtain ⟨fd29, F29⟩ := d29
  obtain ⟨fd30, F30⟩ := d30
  obtain ⟨fd31, F31⟩ := d31
  obtain ⟨fd32, F32⟩ := d32
  obtain ⟨fd33, F33⟩ := d33
  obtain ⟨fd34, F34⟩ := d34
  obtain ⟨fd35, F35⟩ := d35
  obtain ⟨fd36, F36⟩ := d36
  obtain ⟨fd37, F37⟩ := d37
  obtain ⟨fd38, F38⟩ := d38
  obtain ⟨fd39, F39⟩ := d39
  obtain ⟨fm0, M0⟩ := md0
  obtain ⟨fm1, M1⟩ := md1
  obtain ⟨fm2, M2⟩ := md2
  obtain ⟨fm3, M3⟩ := md3
  obtain ⟨fm4, M4⟩ := md4
  obtain ⟨fm5, M5⟩ := md5
  obtain ⟨fm6, M6⟩ := md6
  obtain ⟨fm7, M7⟩ := md7
  obtain ⟨fm8, M8⟩ := md8
  obtain ⟨fm9, M9⟩ := md9
  obtain ⟨fm10, M10⟩ := md10
  obtain ⟨fm11, M11⟩ := md11
  obtain ⟨fm12, M12⟩ := md12
  obtain ⟨fm13, M13⟩ := md13
  have b0 : Binds K _ ["script"] [] := F0.binds (ps := ["script"]) fun _ _ _ _ _ _ us hl => match us, hl with | [_], _ => rfl
  have b1 : Binds K _ ["nucleus"] [] := F1.binds (ps := ["nucleus"]) fun _ _ _ _ _ _ us hl => match us, hl with | [_], _ => rfl
  have b2 : Binds K _ ["item"] [] := F2.binds (ps := ["item"]) fun _ _ _ _ _ _ us hl => match us, hl with | [_], _ => rfl
  have b3 : Binds K _ ["formula"] [] := F3.binds (ps := ["formula"]) fun _ _ _ _ _ _ us hl => match us, hl with | [_], _ => rfl
  have b4 : Binds K _ ["row"] [] := F4.binds (ps := ["row"]) fun _ _ _ _ _ _ us hl => match us, hl with | [_], _ => rfl
  have b5 : Binds K _ ["row"] [] := F5.binds (ps := ["row"]) fun _ _ _ _ _ _ us hl => match us, hl with | [_], _ => rfl
  have b6 : Binds K _ ["nucleus"] [] := F6.binds (ps := ["nucleus"]) fun _ _ _ _ _ _ us hl => match us, hl with | [_], _ => rfl
  have b7 : Binds K _ ["opening", "closing", "row"] [] := F7.binds (ps := ["opening", "closing", "row"]) fun _ _ _ _ _ _ us hl => match us, hl with | [_, _, _], _ => rfl
  have b8 : Binds K _ ["rows"] [] := F8.binds (ps := ["rows"]) fun _ _ _ _ _ _ us hl => match us, hl with | [_], _ => rfl
  have b9 : Binds K _ ["row"] [] := F9.binds (ps := ["row"]) fun _ _ _ _ _ _ us hl => match us, hl with | [_], _ => rfl
  have b10 : Binds K _ ["word"] [] := F10.binds (ps := ["word"]) fun _ _ _ _ _ _ us hl => match us, hl with | [_], _ => rfl
  have b11 : Binds K _ ["word"] [] := F11.binds (ps := ["word"]) fun _ _ _ _ _ _ us hl => match us, hl with | [_], _ => rfl
  have b12 : Binds K _ ["text", "at"] [] := F12.binds (ps := ["text", "at"]) fun _ _ _ _ _ _ us hl => match us, hl with | [_, _], _ => rfl
  have b13 : Binds K _ ["text", "at"] [] := F13.binds (ps := ["text", "at"]) fun _ _ _ _ _ _ us hl => match us, hl with | [_, _], _ => rfl
  have b14 : Binds K _ ["text"] [] := F14.binds (ps := ["text"]) fun _ _ _ _ _ _ us hl => match us, hl with | [_], _ => rfl
  have b15 : Binds K _ ["depth"] [] := F15.binds (ps := ["depth"]) fun _ _ _ _ _ _ us hl => match us, hl with | [_], _ => rfl
  have b16 : Binds K _ ["count", "many", "ends"] [] := F16.binds (ps := ["count", "many", "ends"]) fun _ _ _ _ _ _ us hl => match us, hl with | [_, _, _], _ => rfl
  have b17 : Binds K _ ["formula"] [] := F17.binds (ps := ["formula"]) fun _ _ _ _ _ _ us hl => match us, hl with | [_], _ => rfl
  have b18 : Binds K _ ["formula"] [] := F18.binds (ps := ["formula"]) fun _ _ _ _ _ _ us hl => match us, hl with | [_], _ => rfl
  have b19 : Binds K _ ["text"] [] := F19.binds (ps := ["text"]) fun _ _ _ _ _ _ us hl => match us, hl with | [_], _ => rfl
  have b20 : Binds K _ ["script", "k"] [] := F20.binds (ps := ["script", "k"]) fun _ _ _ _ _ _ us hl => match us, hl with | [_, _], _ => rfl
  have b21 : Binds K _ ["cell", "count"] [] := F21.binds (ps := ["cell", "count"]) fun _ _ _ _ _ _ us hl => match us, hl with | [_, _], _ => rfl
  have b22 : Binds K _ ["n", "at", "depth", "most"] [] := F22.binds (ps := ["n", "at", "depth", "most"]) fun _ _ _ _ _ _ us hl => match us, hl with | [_, _, _, _], _ => rfl
  have b23 : Binds K _ ["n", "at", "depth"] [] := F23.binds (ps := ["n", "at", "depth"]) fun _ _ _ _ _ _ us hl => match us, hl with | [_, _, _], _ => rfl
  have b24 : Binds K _ ["cell", "most"] [] := F24.binds (ps := ["cell", "most"]) fun _ _ _ _ _ _ us hl => match us, hl with | [_, _], _ => rfl
  have b25 : Binds K _ ["row"] [] := F25.binds (ps := ["row"]) fun _ _ _ _ _ _ us hl => match us, hl with | [_], _ => rfl
  have b26 : Binds K _ ["nucleus"] [] := F26.binds (ps := ["nucleus"]) fun _ _ _ _ _ _ us hl => match us, hl with | [_], _ => rfl
  have b27 : Binds K _ ["row"] [] := F27.binds (ps := ["row"]) fun _ _ _ _ _ _ us hl => match us, hl with | [_], _ => rfl
  have b28 : Binds K _ ["row"] [] := F28.binds (ps := ["row"]) fun _ _ _ _ _ _ us hl => match us, hl with | [_], _ => rfl
  have b29 : Binds K _ ["item"] [] := F29.binds (ps := ["item"]) fun _ _ _ _ _ _ us hl => match us, hl with | [_], _ => rfl
  have b30 : Binds K _ ["row"] [] := F30.binds (ps := ["row"]) fun _ _ _ _ _ _ us hl => match us, hl with | [_], _ => rfl
  have b31 : Binds K _ ["row"] [] := F31.binds (ps := ["row"]) fun _ _ _ _ _ _ us hl => match us, hl with | [_], _ => rfl
  have b32 : Binds K _ ["cell", "most"] [] := F32.binds (ps := ["cell", "most"]) fun _ _ _ _ _ _ us hl => match us, hl with | [_, _], _ => rfl
  have b33 : Binds K _ ["row", "number"] [] := F33.binds (ps := ["row", "number"]) fun _ _ _ _ _ _ us hl => match us, hl with | [_, _], _ => rfl
  have b34 : Binds K _ ["row", "number"] [] := F34.binds (ps := ["row", "number"]) fun _ _ _ _ _ _ us hl => match us, hl with | [_, _], _ => rfl
  have b35 : Binds K _ ["value", "least", "most"] [] := F35.binds (ps := ["value", "least", "most"]) fun _ _ _ _ _ _ us hl => match us, hl with | [_, _, _], _ => rfl
  have b36 : Binds K _ ["formula", "number"] [] := F36.binds (ps := ["formula", "number"]) fun _ _ _ _ _ _ us hl => match us, hl with | [_, _], _ => rfl
  have b37 : Binds K _ ["formula", "row", "offset"] [] := F37.binds (ps := ["formula", "row", "offset"]) fun _ _ _ _ _ _ us hl => match us, hl with | [_, _, _], _ => rfl
  have b38 : Binds K _ ["call", "formula", "one", "other"] [] := F38.binds (ps := ["call", "formula", "one", "other"]) fun _ _ _ _ _ _ us hl => match us, hl with | [_, _, _, _], _ => rfl
  have b39 : Binds K _ [] [] := F39.binds (ps := []) fun _ _ _ _ _ _ us hl => match us, hl with | [], _ => rfl
  have mb0 : Binds K _ ["self"] [] := M0.binds (ps := ["self"]) fun _ _ _ _ _ _ us hl => match us, hl with | [_], _ => rfl
  have mb1 : Binds K _ ["self", "wanted"] [] := M1.binds (ps := ["self", "wanted"]) fun _ _ _ _ _ _ us hl => match us, hl with | [_, _], _ => rfl
  have mb2 : Binds K _ ["self"] [] := M2.binds (ps := ["self"]) fun _ _ _ _ _ _ us hl => match us, hl with | [_], _ => rfl
  have mb3 : Binds K _ ["self"] [] := M3.binds (ps := ["self"]) fun _ _ _ _ _ _ us hl => match us, hl with | [_], _ => rfl
  have mb4 : Binds K _ ["self", "depth", "stops"] [] := M4.binds (ps := ["self", "depth", "stops"]) fun _ _ _ _ _ _ us hl => match us, hl with | [_, _, _], _ => rfl
  have mb5 : Binds K _ ["self", "depth"] [] := M5.binds (ps := ["self", "depth"]) fun _ _ _ _ _ _ us hl => match us, hl with | [_, _], _ => rfl
  have mb6 : Binds K _ ["self", "depth"] [] := M6.binds (ps := ["self", "depth"]) fun _ _ _ _ _ _ us hl => match us, hl with | [_, _], _ => rfl
  have mb7 : Binds K _ ["self", "depth"] [] := M7.binds (ps := ["self", "depth"]) fun _ _ _ _ _ _ us hl => match us, hl with | [_, _], _ => rfl
  have mb8 : Binds K _ ["self", "depth"] [] := M8.binds (ps := ["self", "depth"]) fun _ _ _ _ _ _ us hl => match us, hl with | [_, _], _ => rfl
  have mb9 : Binds K _ ["self", "depth"] [] := M9.binds (ps := ["self", "depth"]) fun _ _ _ _ _ _ us hl => match us, hl with | [_, _], _ => rfl
  have mb10 : Binds K _ ["self", "depth"] [] := M10.binds (ps := ["self", "depth"]) fun _ _ _ _ _ _ us hl => match us, hl with | [_, _], _ => rfl
  have mb11 : Binds K _ ["self", "depth", "many", "ends"] [] := M11.binds (ps := ["self", "depth", "many", "ends"]) fun _ _ _ _ _ _ us hl => match us, hl with | [_, _, _, _], _ => rfl
  have mb12 : Binds K _ ["self"] [] := M12.binds (ps := ["self"]) fun _ _ _ _ _ _ us hl => match us, hl with | [_], _ => rfl
  have mb13 : Binds K _ ["self", "text"] [] := M13.binds (ps := ["self", "text"]) fun _ _ _ _ _ _ us hl => match us, hl with | [_, _], _ => rfl
  refine ⟨fd0, (by obtain ⟨_, _, _, _, _, _, _, _, _, e, _, _⟩ := F0.ex; rw [e]; exact fun s v => .of_eq rfl), fun base _ _ => ?_⟩
  have q_nucleus_rows : Cal P w K mg base _ _ "nucleus_rows" _ _ := ⟨f1, fd1, ok_nucrows F1, PySem.W.mg_of X G a1, k1, b1⟩
  have q_rows_in : Cal P w K mg base _ _ "rows_in" _ _ := ⟨f2, fd2, ok_rowsin F2 q_nucleus_rows, PySem.W.mg_of X G a2, k2, b2⟩
  have q_rowsof := fun n => ok_rowsof (P := P) (w := w) (base := base) F3 q_rows_in (PySem.W.mg_of X G a3) k3 b3 n
  have q_words := fun n => words_ok (P := P) (w := w) (base := base) F4 F5 F6 F7 F8 ⟨PySem.W.mg_of X G a4, k4, b4⟩ ⟨PySem.W.mg_of X G a5, k5, b5⟩ ⟨PySem.W.mg_of X G a6, k6, b6⟩ ⟨PySem.W.mg_of X G a7, k7, b7⟩ ⟨PySem.W.mg_of X G a8, k8, b8⟩ n
  have T_TxtSrc : TxtSrc mg := { b_len := (PySem.W.mg_none_of X G z_len), b_max := (PySem.W.mg_none_of X G z_max), b_sum := (PySem.W.mg_none_of X G z_sum), b_enumerate := (PySem.W.mg_none_of X G z_enumerate), c_LETTERS := (Hk.mg_ex X G c_LETTERS), c_DEEPEST := (Hk.mg_ex X G c_DEEPEST), c_MOST_ITEMS := (Hk.mg_ex X G c_MOST_ITEMS), c_LONGEST := (Hk.mg_ex X G c_LONGEST) }
  have q_depth := fun n => ok_depthof (P := P) (w := w) (base := base) F9 T_TxtSrc q_rows_in (PySem.W.mg_of X G a9) k9 b9 n
  have T_TxtS : TxtS K mg aR := { b_len := (PySem.W.mg_none_of X G z_len), b_all := (PySem.W.mg_none_of X G z_all), c_LETTERS := (Hk.mg_ex X G c_LETTERS), c_SIGNS := (Hk.mg_ex X G c_SIGNS), c_MOST_LETTERS := (Hk.mg_ex X G c_MOST_LETTERS), c_RESERVED := (PySem.W.mg_of X G c_RESERVED), k_RESERVED := k_RESERVED }
  have q_is_command : Cal P w K mg base _ _ "is_command" _ _ := ⟨f10, fd10, ok_is_command F10 T_TxtS, PySem.W.mg_of X G a10, k10, b10⟩
  have q_is_symbol : Cal P w K mg base _ _ "is_symbol" _ _ := ⟨f11, fd11, ok_is_symbol F11 T_TxtS q_is_command, PySem.W.mg_of X G a11, k11, b11⟩
  have T_TxtTok : TxtTok mg := { b_len := (PySem.W.mg_none_of X G z_len), c_LETTERS := (Hk.mg_ex X G c_LETTERS), c_SIGNS := (Hk.mg_ex X G c_SIGNS), c_MARKS := (Hk.mg_ex X G c_MARKS), c_BAD := (Hk.mg_ex X G c_BAD), c_END := (Hk.mg_ex X G c_END) }
  have q__command_at : Cal P w K mg base _ _ "_command_at" _ _ := ⟨f12, fd12, ok_cmdat F12 T_TxtTok q_is_command, PySem.W.mg_of X G a12, k12, b12⟩
  have q__token_at : Cal P w K mg base _ _ "_token_at" _ _ := ⟨f13, fd13, ok_tokat F13 T_TxtTok q__command_at, PySem.W.mg_of X G a13, k13, b13⟩
  have q_tokens_of : Cal P w K mg base _ _ "tokens_of" _ _ := ⟨f14, fd14, ok_tokens F14 T_TxtTok q__token_at, PySem.W.mg_of X G a14, k14, b14⟩
  have T_TxtR : TxtR K CR := { cl := ⟨pg_CR, hd_CR, po_CR, sa_CR⟩, nT := no_CR__tokens, nA := no_CR__at }
  have T_TxtRd : TxtRd K mg CR := { T_TxtR with b_len := (PySem.W.mg_none_of X G z_len), b_tuple := (PySem.W.mg_none_of X G z_tuple), c_END := (Hk.mg_ex X G c_END), c_DEEPEST := (Hk.mg_ex X G c_DEEPEST), c_MOST_CELLS := (Hk.mg_ex X G c_MOST_CELLS) }
  have q_check_depth : Cal P w K mg base _ _ "check_depth" _ _ := ⟨f15, fd15, ok_checkdepth0 F15 T_TxtRd, PySem.W.mg_of X G a15, k15, b15⟩
  have q_cell_stops : Cal P w K mg base _ _ "cell_stops" _ _ := ⟨f16, fd16, ok_cellstops F16 T_TxtRd, PySem.W.mg_of X G a16, k16, b16⟩
  have q__peek : CalM P w K mg base _ _ CR "_peek" _ _ := ⟨m0, fm0, ok_peek M0 T_TxtRd, ⟨ma0, mi0, mk0⟩, mb0⟩
  have q__accept : CalM P w K mg base _ _ CR "_accept" _ _ := ⟨m1, fm1, ok_accept M1 T_TxtRd, ⟨ma1, mi1, mk1⟩, mb1⟩
  have q__symbol : CalM P w K mg base _ _ CR "_symbol" _ _ := ⟨m2, fm2, ok_rsymbol M2 T_TxtRd q_is_symbol, ⟨ma2, mi2, mk2⟩, mb2⟩
  have q__delimiter : CalM P w K mg base _ _ CR "_delimiter" _ _ := ⟨m3, fm3, ok_delimiter M3 T_TxtRd q__symbol, ⟨ma3, mi3, mk3⟩, mb3⟩
  have q_read0 := read_ok (P := P) (w := w) (base := base) T_TxtRd q__peek q__accept q__symbol q__delimiter q_check_depth q_cell_stops M4 M5 M6 M7 M8 M9 M10 M11 ⟨⟨ma4, mi4, mk4⟩, mb4⟩ ⟨⟨ma5, mi5, mk5⟩, mb5⟩ ⟨⟨ma6, mi6, mk6⟩, mb6⟩ ⟨⟨ma7, mi7, mk7⟩, mb7⟩ ⟨⟨ma8, mi8, mk8⟩, mb8⟩ ⟨⟨ma9, mi9, mk9⟩, mb9⟩ ⟨⟨ma10, mi10, mk10⟩, mb10⟩ ⟨⟨ma11, mi11, mk11⟩, mb11⟩ 4
  have q_read : CalM P w K mg base CX0 _ CR "read" _ _ := ⟨m12, fm12, ok_rread (n := 4) M12 T_TxtRd q_read0, ⟨ma12, mi12, mk12⟩, mb12⟩
  have T_MkR : MkR P w K mg base CR := ⟨m13, fm13, ok_rinit M13 T_TxtRd q_tokens_of, ⟨mkc_CR, ma13, mi13, kc_CR⟩, mb13⟩
  have q_text_of : Cal P w K mg base _ _ "text_of" _ _ := ⟨f17, fd17, ok_textof (n := 4) F17 T_TxtSrc (q_words 4).row, PySem.W.mg_of X G a17, k17, b17⟩
  have q_check_formula : Cal P w K mg base _ _ "check_formula" _ _ := ⟨f18, fd18, ok_checkformula0 (n := 4) F18 T_TxtSrc (by decide) q_check_depth (q_depth 4) (q_rowsof 4) q_text_of, PySem.W.mg_of X G a18, k18, b18⟩
  have TP : Mg.TxtP P w K mg base CR := { T_TxtSrc with cl := ⟨pg_CR, hd_CR, po_CR, sa_CR⟩, g_Reader := (PySem.W.mg_of X G g_Reader), mkR := T_MkR }
  have q_parse : Cal P w K mg base CX0 30 "parse" _ _ := ⟨f19, fd19, ok_parse (n := 4) F19 TP (by decide) q_read q_check_formula, PySem.W.mg_of X G a19, k19, b19⟩
  have T_TxtB : TxtB mg := { b_len := (PySem.W.mg_none_of X G z_len), b_int := (PySem.W.mg_none_of X G z_int), b_abs := (PySem.W.mg_none_of X G z_abs), range := (PySem.W.mg_none_of X G z_range), b_isinstance := (PySem.W.mg_none_of X G z_isinstance), b_tuple := (PySem.W.mg_none_of X G z_tuple), b_list := (PySem.W.mg_none_of X G z_list) }
  have q__law_cell : Cal P w K mg base _ _ "_law_cell" _ _ := ⟨f20, fd20, ok_cell F20 T_TxtB, PySem.W.mg_of X G a20, k20, b20⟩
  have q__law_draws : Cal P w K mg base _ _ "_law_draws" _ _ := ⟨f21, fd21, ok_bdraws F21 T_TxtB, PySem.W.mg_of X G a21, k21, b21⟩
  have q_brow := brow_all (P := P) (w := w) (base := base) F22 F23 T_TxtB ⟨PySem.W.mg_of X G a22, k22, b22⟩ ⟨PySem.W.mg_of X G a23, k23, b23⟩
  have q__law_drawn : Cal P w K mg base _ _ "_law_drawn" _ _ := ⟨f24, fd24, ok_bdrawn F24 T_TxtB (q_brow 4) q__law_draws, PySem.W.mg_of X G a24, k24, b24⟩
  have q_bpc := bpieces_all (P := P) (w := w) (base := base) F25 F26 F27 T_TxtB ⟨PySem.W.mg_of X G a25, k25, b25⟩ ⟨PySem.W.mg_of X G a26, k26, b26⟩ ⟨PySem.W.mg_of X G a27, k27, b27⟩
  have q__law_text : Cal P w K mg base _ _ "_law_text" _ _ := ⟨f28, fd28, ok_btext F28 (q_bpc 4), PySem.W.mg_of X G a28, k28, b28⟩
  have q__law_inner : Cal P w K mg base _ _ "_law_inner" _ _ := ⟨f29, fd29, ok_binner F29 T_TxtB, PySem.W.mg_of X G a29, k29, b29⟩
  have q_brs := brows_all (P := P) (w := w) (base := base) F30 q__law_inner ⟨PySem.W.mg_of X G a30, k30, b30⟩
  have q__law_small : Cal P w K mg base _ _ "_law_small" _ _ := ⟨f31, fd31, ok_bsmall F31 T_TxtSrc (q_brs 4) q__law_text, PySem.W.mg_of X G a31, k31, b31⟩
  have q__law_formula : Cal P w K mg base _ _ "_law_formula" _ _ := ⟨f32, fd32, ok_bformula F32 q__law_drawn q__law_small, PySem.W.mg_of X G a32, k32, b32⟩
  have q_plc := places_all (P := P) (w := w) (base := base) F33 T_TxtSrc q_rows_in q_rowsof ⟨PySem.W.mg_of X G a33, k33, b33⟩
  have q_bplc := bplaces_all (P := P) (w := w) (base := base) F34 T_TxtB q__law_inner q_brs ⟨PySem.W.mg_of X G a34, k34, b34⟩
  have EB_CN : ExB K mg "NoSuchCaret" CN := ⟨(PySem.W.mg_of X G g_NoSuchCaret), yx, yk, yb, yt⟩
  have T_TxtC : TxtC mg := { T_TxtB with b_bool := (PySem.W.mg_none_of X G z_bool), b_str := (PySem.W.mg_none_of X G z_str) }
  have q_is_integer : Cal P w K mg base _ _ "is_integer" _ _ := ⟨f35, fd35, ok_is_integer F35 T_TxtC, PySem.W.mg_of X G a35, k35, b35⟩
  have q_caret_place : Cal P w K mg base _ _ "caret_place" _ _ := ⟨f36, fd36, ok_cplace (n := 4) F36 T_TxtB EB_CN (q_plc 4) q_is_integer, PySem.W.mg_of X G a36, k36, b36⟩
  have q_caret_number : Cal P w K mg base _ _ "caret_number" _ _ := ⟨f37, fd37, ok_cnumber (n := 4) F37 T_TxtB EB_CN (q_plc 4) q_is_integer (q_rowsof 4), PySem.W.mg_of X G a37, k37, b37⟩
  have T_TxtRf : TxtRf K mg CN CE := { g_NoSuchCaret := (PySem.W.mg_of X G g_NoSuchCaret), g_SetError := (PySem.W.mg_of X G g_SetError), b_isinstance := (PySem.W.mg_none_of X G z_isinstance), exNN := exNN, ecN := ⟨ycg, yck, yb, ycd, yca, ycn, yct, ycm⟩, kNE := kNE }
  have q__law_refused : Cal P w K mg base _ _ "_law_refused" _ _ := ⟨f38, fd38, ok_bref (n := 4) F38 T_TxtRf q_caret_place q_caret_number, PySem.W.mg_of X G a38, k38, b38⟩
  have q__law_fixed : Cal P w K mg base _ _ "_law_fixed" _ _ := ⟨f39, fd39, ok_bfixed F39 T_TxtB q_parse q_caret_place q_caret_number, PySem.W.mg_of X G a39, k39, b39⟩
  exact ok_law F0 { T_TxtB, T_TxtSrc with fixed := q__law_fixed, cell := q__law_cell, formula := q__law_formula, text := q__law_text, parse := q_parse, places := (q_bplc 4), rows := (q_brs 4), place := q_caret_place, number := q_caret_number, refused := q__law_refused }
end Mg.Nw

set_option Elab.async false
set_option linter.all false
set_option maxRecDepth 100000
set_option maxHeartbeats 0
namespace Mg.Nw
open PySem PySem.Spec PyProof.Rows L2 He Hk
theorem facts {w : World} {K : PySem.W.Frag} {h : Heap} {mg : Str → Option Value} {f : Addr} (X : K.In h) (G : h.Ns mainGlobals mg) (hfa : mg ("law" : Str) = some (.ref f)) (c : SaysU chk fnl tbl usl w K) :
    ∃ fd : FuncData, (∀ (s : Shared) (v : Value), BindsTo s fd ⟨[v], []⟩ [("script", v)]) ∧ ∀ base : Heap, K.In base → base.Ns mainGlobals mg → FnOk RW.prog w K mg base CX0 32 f fd ["script"] (spLaw K) := by
  have q : ∀ (i : Nat) {b : Bool}, (chks K)[i]? = some b → b = true := fun i {b} e => chk_at c.ex i e
  have h_a0 := of_decide_eq_true (q 0 rfl)
  have h_d0 := fun_of (x := "law") (q := "law") (s := Mg.Nw.sLaw) (f := ga K "law") (c.def_ 0 rfl)
  have h_k0 := q 1 rfl
  have h_a1 := of_decide_eq_true (q 2 rfl)
  have h_d1 := fun_of (x := "nucleus_rows") (q := "nucleus_rows") (s := Mg.sNucRows) (f := ga K "nucleus_rows") (c.def_ 1 rfl)
  have h_k1 := q 3 rfl
  have h_a2 := of_decide_eq_true (q 4 rfl)
  have h_d2 := fun_of (x := "rows_in") (q := "rows_in") (s := Mg.sRowsIn) (f := ga K "rows_in") (c.def_ 2 rfl)
  have h_k2 := q 5 rfl
  have h_a3 := of_decide_eq_true (q 6 rfl)
  have h_d3 := fun_of (x := "rows_of") (q := "rows_of") (s := Mg.sRowsOf) (f := ga K "rows_of") (c.def_ 3 rfl)
  have h_k3 := q 7 rfl
  have h_a4 := of_decide_eq_true (q 8 rfl)
  have h_d4 := fun_of (x := "row_words") (q := "row_words") (s := Mg.sRowWords) (f := ga K "row_words") (c.def_ 4 rfl)
  have h_k4 := q 9 rfl
  have h_a5 := of_decide_eq_true (q 10 rfl)
  have h_d5 := fun_of (x := "braced_words") (q := "braced_words") (s := Mg.sBraced) (f := ga K "braced_words") (c.def_ 5 rfl)
  have h_k5 := q 11 rfl
  have h_a6 := of_decide_eq_true (q 12 rfl)
  have h_d6 := fun_of (x := "nucleus_words") (q := "nucleus_words") (s := Mg.sNucWords) (f := ga K "nucleus_words") (c.def_ 6 rfl)
  have h_k6 := q 13 rfl
  have h_a7 := of_decide_eq_true (q 14 rfl)
  have h_d7 := fun_of (x := "fence_words") (q := "fence_words") (s := Mg.sFenceW) (f := ga K "fence_words") (c.def_ 7 rfl)
  have h_k7 := q 15 rfl
  have h_a8 := of_decide_eq_true (q 16 rfl)
  have h_d8 := fun_of (x := "grid_words") (q := "grid_words") (s := Mg.sGridW) (f := ga K "grid_words") (c.def_ 8 rfl)
  have h_k8 := q 17 rfl
  have h_z_len := of_decide_eq_true (q 18 rfl)
  have h_z_max := of_decide_eq_true (q 19 rfl)
  have h_z_sum := of_decide_eq_true (q 20 rfl)
  have h_z_enumerate := of_decide_eq_true (q 21 rfl)
  have h_c_LETTERS := Hk.strN (q 22 rfl)
  have h_c_DEEPEST := Hk.intN (q 23 rfl)
  have h_c_MOST_ITEMS := Hk.intN (q 24 rfl)
  have h_c_LONGEST := Hk.intN (q 25 rfl)
  have h_a9 := of_decide_eq_true (q 26 rfl)
  have h_d9 := fun_of (x := "depth_of") (q := "depth_of") (s := Mg.sDepthOf) (f := ga K "depth_of") (c.def_ 9 rfl)
  have h_k9 := q 27 rfl
  have h_g_Reader := of_decide_eq_true (q 28 rfl)
  have h_pg_CR := q 29 rfl
  have h_hd_CR := q 30 rfl
  have h_po_CR := q 31 rfl
  have h_sa_CR := of_decide_eq_true (q 32 rfl)
  have h_mkc_CR := q 33 rfl
  have h_kc_CR := q 34 rfl
  have h_a10 := of_decide_eq_true (q 35 rfl)
  have h_d10 := fun_of (x := "is_command") (q := "is_command") (s := Mg.sIsCommand) (f := ga K "is_command") (c.def_ 10 rfl)
  have h_k10 := q 36 rfl
  have h_z_all := of_decide_eq_true (q 37 rfl)
  have h_c_SIGNS := Hk.strN (q 38 rfl)
  have h_c_MOST_LETTERS := Hk.intN (q 39 rfl)
  have h_c_RESERVED := of_decide_eq_true (q 40 rfl)
  have h_k_RESERVED := Hk.seqB_ok (q 41 rfl)
  have h_a11 := of_decide_eq_true (q 42 rfl)
  have h_d11 := fun_of (x := "is_symbol") (q := "is_symbol") (s := Mg.sIsSymbol) (f := ga K "is_symbol") (c.def_ 11 rfl)
  have h_k11 := q 43 rfl
  have h_a12 := of_decide_eq_true (q 44 rfl)
  have h_d12 := fun_of (x := "_command_at") (q := "_command_at") (s := Mg.sCommandAt) (f := ga K "_command_at") (c.def_ 12 rfl)
  have h_k12 := q 45 rfl
  have h_c_MARKS := Hk.strN (q 46 rfl)
  have h_c_BAD := Hk.strN (q 47 rfl)
  have h_c_END := Hk.strN (q 48 rfl)
  have h_a13 := of_decide_eq_true (q 49 rfl)
  have h_d13 := fun_of (x := "_token_at") (q := "_token_at") (s := Mg.sTokenAt) (f := ga K "_token_at") (c.def_ 13 rfl)
  have h_k13 := q 50 rfl
  have h_a14 := of_decide_eq_true (q 51 rfl)
  have h_d14 := fun_of (x := "tokens_of") (q := "tokens_of") (s := Mg.sTokensOf) (f := ga K "tokens_of") (c.def_ 14 rfl)
  have h_k14 := q 52 rfl
  have h_a15 := of_decide_eq_true (q 53 rfl)
  have h_d15 := fun_of (x := "check_depth") (q := "check_depth") (s := Mg.sCheckDepth0) (f := ga K "check_depth") (c.def_ 15 rfl)
  have h_k15 := q 54 rfl
  have h_no_CR__tokens := of_decide_eq_true (q 55 rfl)
  have h_no_CR__at := of_decide_eq_true (q 56 rfl)
  have h_z_tuple := of_decide_eq_true (q 57 rfl)
  have h_c_MOST_CELLS := Hk.intN (q 58 rfl)
  have h_a16 := of_decide_eq_true (q 59 rfl)
  have h_d16 := fun_of (x := "cell_stops") (q := "cell_stops") (s := Mg.sCellStops) (f := ga K "cell_stops") (c.def_ 16 rfl)
  have h_k16 := q 60 rfl
  have h_ma0 := of_decide_eq_true (q 61 rfl)
  have h_mi0 := q 62 rfl
  have h_md0 := fun_of (x := "_peek") (q := "Reader._peek") (s := Mg.sPeek) (f := ma K (ga K "Reader") "_peek") (c.def_ 17 rfl)
  have h_mk0 := q 63 rfl
  have h_ma1 := of_decide_eq_true (q 64 rfl)
  have h_mi1 := q 65 rfl
  have h_md1 := fun_of (x := "_accept") (q := "Reader._accept") (s := Mg.sAccept) (f := ma K (ga K "Reader") "_accept") (c.def_ 18 rfl)
  have h_mk1 := q 66 rfl
  have h_ma2 := of_decide_eq_true (q 67 rfl)
  have h_mi2 := q 68 rfl
  have h_md2 := fun_of (x := "_symbol") (q := "Reader._symbol") (s := Mg.sRSymbol) (f := ma K (ga K "Reader") "_symbol") (c.def_ 19 rfl)
  have h_mk2 := q 69 rfl
  have h_ma3 := of_decide_eq_true (q 70 rfl)
  have h_mi3 := q 71 rfl
  have h_md3 := fun_of (x := "_delimiter") (q := "Reader._delimiter") (s := Mg.sDelimiter) (f := ma K (ga K "Reader") "_delimiter") (c.def_ 20 rfl)
  have h_mk3 := q 72 rfl
  have h_ma4 := of_decide_eq_true (q 73 rfl)
  have h_mi4 := q 74 rfl
  have h_md4 := fun_of (x := "_row") (q := "Reader._row") (s := Mg.sRRow) (f := ma K (ga K "Reader") "_row") (c.def_ 21 rfl)
  have h_mk4 := q 75 rfl
  have h_ma5 := of_decide_eq_true (q 76 rfl)
  have h_mi5 := q 77 rfl
  have h_md5 := fun_of (x := "_item") (q := "Reader._item") (s := Mg.sRItem) (f := ma K (ga K "Reader") "_item") (c.def_ 22 rfl)
  have h_mk5 := q 78 rfl
  have h_ma6 := of_decide_eq_true (q 79 rfl)
  have h_mi6 := q 80 rfl
  have h_md6 := fun_of (x := "_nucleus") (q := "Reader._nucleus") (s := Mg.sRNucleus) (f := ma K (ga K "Reader") "_nucleus") (c.def_ 23 rfl)
  have h_mk6 := q 81 rfl
  have h_ma7 := of_decide_eq_true (q 82 rfl)
  have h_mi7 := q 83 rfl
  have h_md7 := fun_of (x := "_braced") (q := "Reader._braced") (s := Mg.sRBraced) (f := ma K (ga K "Reader") "_braced") (c.def_ 24 rfl)
  have h_mk7 := q 84 rfl
  have h_ma8 := of_decide_eq_true (q 85 rfl)
  have h_mi8 := q 86 rfl
  have h_md8 := fun_of (x := "_argument") (q := "Reader._argument") (s := Mg.sArgument) (f := ma K (ga K "Reader") "_argument") (c.def_ 25 rfl)
  have h_mk8 := q 87 rfl
  have h_ma9 := of_decide_eq_true (q 88 rfl)
  have h_mi9 := q 89 rfl
  have h_md9 := fun_of (x := "_fence") (q := "Reader._fence") (s := Mg.sRFence) (f := ma K (ga K "Reader") "_fence") (c.def_ 26 rfl)
  have h_mk9 := q 90 rfl
  have h_ma10 := of_decide_eq_true (q 91 rfl)
  have h_mi10 := q 92 rfl
  have h_md10 := fun_of (x := "_grid") (q := "Reader._grid") (s := Mg.sRGrid) (f := ma K (ga K "Reader") "_grid") (c.def_ 27 rfl)
  have h_mk10 := q 93 rfl
  have h_ma11 := of_decide_eq_true (q 94 rfl)
  have h_mi11 := q 95 rfl
  have h_md11 := fun_of (x := "_cells") (q := "Reader._cells") (s := Mg.sRCells) (f := ma K (ga K "Reader") "_cells") (c.def_ 28 rfl)
  have h_mk11 := q 96 rfl
  have h_ma12 := of_decide_eq_true (q 97 rfl)
  have h_mi12 := q 98 rfl
  have h_md12 := fun_of (x := "read") (q := "Reader.read") (s := Mg.sRRead) (f := ma K (ga K "Reader") "read") (c.def_ 29 rfl)
  have h_mk12 := q 99 rfl
  have h_ma13 := of_decide_eq_true (q 100 rfl)
  have h_mi13 := q 101 rfl
  have h_md13 := fun_of (x := "__init__") (q := "Reader.__init__") (s := Mg.sRInit) (f := ma K (ga K "Reader") "__init__") (c.def_ 30 rfl)
  have h_mk13 := q 102 rfl
  have h_a17 := of_decide_eq_true (q 103 rfl)
  have h_d17 := fun_of (x := "text_of") (q := "text_of") (s := Mg.sTextOf) (f := ga K "text_of") (c.def_ 31 rfl)
  have h_k17 := q 104 rfl
  have h_a18 := of_decide_eq_true (q 105 rfl)
  have h_d18 := fun_of (x := "check_formula") (q := "check_formula") (s := Mg.sCheckFormula) (f := ga K "check_formula") (c.def_ 32 rfl)
  have h_k18 := q 106 rfl
  have h_a19 := of_decide_eq_true (q 107 rfl)
  have h_d19 := fun_of (x := "parse") (q := "parse") (s := Mg.sParse) (f := ga K "parse") (c.def_ 33 rfl)
  have h_k19 := q 108 rfl
  have h_a20 := of_decide_eq_true (q 109 rfl)
  have h_d20 := fun_of (x := "_law_cell") (q := "_law_cell") (s := Mg.sCell) (f := ga K "_law_cell") (c.def_ 34 rfl)
  have h_k20 := q 110 rfl
  have h_z_int := of_decide_eq_true (q 111 rfl)
  have h_z_abs := of_decide_eq_true (q 112 rfl)
  have h_z_range := of_decide_eq_true (q 113 rfl)
  have h_z_isinstance := of_decide_eq_true (q 114 rfl)
  have h_z_list := of_decide_eq_true (q 115 rfl)
  have h_a21 := of_decide_eq_true (q 116 rfl)
  have h_d21 := fun_of (x := "_law_draws") (q := "_law_draws") (s := Mg.Nw.sBDraws) (f := ga K "_law_draws") (c.def_ 35 rfl)
  have h_k21 := q 117 rfl
  have h_a22 := of_decide_eq_true (q 118 rfl)
  have h_d22 := fun_of (x := "_law_row") (q := "_law_row") (s := Mg.Nw.sBRow) (f := ga K "_law_row") (c.def_ 36 rfl)
  have h_k22 := q 119 rfl
  have h_a23 := of_decide_eq_true (q 120 rfl)
  have h_d23 := fun_of (x := "_law_item") (q := "_law_item") (s := Mg.Nw.sBItem) (f := ga K "_law_item") (c.def_ 37 rfl)
  have h_k23 := q 121 rfl
  have h_a24 := of_decide_eq_true (q 122 rfl)
  have h_d24 := fun_of (x := "_law_drawn") (q := "_law_drawn") (s := Mg.Nw.sBDrawn) (f := ga K "_law_drawn") (c.def_ 38 rfl)
  have h_k24 := q 123 rfl
  have h_a25 := of_decide_eq_true (q 124 rfl)
  have h_d25 := fun_of (x := "_law_pieces") (q := "_law_pieces") (s := Mg.Nw.sBPieces) (f := ga K "_law_pieces") (c.def_ 39 rfl)
  have h_k25 := q 125 rfl
  have h_a26 := of_decide_eq_true (q 126 rfl)
  have h_d26 := fun_of (x := "_law_nucleus") (q := "_law_nucleus") (s := Mg.Nw.sBNuc) (f := ga K "_law_nucleus") (c.def_ 40 rfl)
  have h_k26 := q 127 rfl
  have h_a27 := of_decide_eq_true (q 128 rfl)
  have h_d27 := fun_of (x := "_law_braced") (q := "_law_braced") (s := Mg.Nw.sBBraced) (f := ga K "_law_braced") (c.def_ 41 rfl)
  have h_k27 := q 129 rfl
  have h_a28 := of_decide_eq_true (q 130 rfl)
  have h_d28 := fun_of (x := "_law_text") (q := "_law_text") (s := Mg.Nw.sBText) (f := ga K "_law_text") (c.def_ 42 rfl)
  have h_k28 := q 131 rfl
  have h_a29 := of_decide_eq_true (q 132 rfl)
  have h_d29 := fun_of (x := "_law_inner") (q := "_law_inner") (s := Mg.Nw.sBInner) (f := ga K "_law_inner") (c.def_ 43 rfl)
  have h_k29 := q 133 rfl
  have h_a30 := of_decide_eq_true (q 134 rfl)
  have h_d30 := fun_of (x := "_law_rows") (q := "_law_rows") (s := Mg.Nw.sBRows) (f := ga K "_law_rows") (c.def_ 44 rfl)
  have h_k30 := q 135 rfl
  have h_a31 := of_decide_eq_true (q 136 rfl)
  have h_d31 := fun_of (x := "_law_small") (q := "_law_small") (s := Mg.Nw.sBSmall) (f := ga K "_law_small") (c.def_ 45 rfl)
  have h_k31 := q 137 rfl
  have h_a32 := of_decide_eq_true (q 138 rfl)
  have h_d32 := fun_of (x := "_law_formula") (q := "_law_formula") (s := Mg.Nw.sBFormula) (f := ga K "_law_formula") (c.def_ 46 rfl)
  have h_k32 := q 139 rfl
  have h_a33 := of_decide_eq_true (q 140 rfl)
  have h_d33 := fun_of (x := "places_of") (q := "places_of") (s := Mg.Nw.sPlacesOf) (f := ga K "places_of") (c.def_ 47 rfl)
  have h_k33 := q 141 rfl
  have h_a34 := of_decide_eq_true (q 142 rfl)
  have h_d34 := fun_of (x := "_law_places") (q := "_law_places") (s := Mg.Nw.sBPlaces) (f := ga K "_law_places") (c.def_ 48 rfl)
  have h_k34 := q 143 rfl
  have h_g_NoSuchCaret := of_decide_eq_true (q 144 rfl)
  have h_yx := q 145 rfl
  have h_yk := q 146 rfl
  have h_yb := of_decide_eq_true (q 147 rfl)
  have h_yt := of_decide_eq_true (q 148 rfl)
  have h_a35 := of_decide_eq_true (q 149 rfl)
  have h_d35 := fun_of (x := "is_integer") (q := "is_integer") (s := Mg.sIsInteger) (f := ga K "is_integer") (c.def_ 49 rfl)
  have h_k35 := q 150 rfl
  have h_z_bool := of_decide_eq_true (q 151 rfl)
  have h_z_str := of_decide_eq_true (q 152 rfl)
  have h_a36 := of_decide_eq_true (q 153 rfl)
  have h_d36 := fun_of (x := "caret_place") (q := "caret_place") (s := Mg.Nw.sCPlace) (f := ga K "caret_place") (c.def_ 50 rfl)
  have h_k36 := q 154 rfl
  have h_a37 := of_decide_eq_true (q 155 rfl)
  have h_d37 := fun_of (x := "caret_number") (q := "caret_number") (s := Mg.Nw.sCNumber) (f := ga K "caret_number") (c.def_ 51 rfl)
  have h_k37 := q 156 rfl
  have h_g_SetError := of_decide_eq_true (q 157 rfl)
  have h_exNN := of_decide_eq_true (q 158 rfl)
  have h_ycg := of_decide_eq_true (q 159 rfl)
  have h_yck := of_decide_eq_true (q 160 rfl)
  have h_ycd := q 161 rfl
  have h_yca := of_decide_eq_true (q 162 rfl)
  have h_ycn := of_decide_eq_true (q 163 rfl)
  have h_yct := of_decide_eq_true (q 164 rfl)
  have h_ycm := of_decide_eq_true (q 165 rfl)
  have h_kNE := of_decide_eq_true (q 166 rfl)
  have h_a38 := of_decide_eq_true (q 167 rfl)
  have h_d38 := fun_of (x := "_law_refused") (q := "_law_refused") (s := Mg.Nw.sBRef) (f := ga K "_law_refused") (c.def_ 52 rfl)
  have h_k38 := q 168 rfl
  have h_a39 := of_decide_eq_true (q 169 rfl)
  have h_d39 := fun_of (x := "_law_fixed") (q := "_law_fixed") (s := Mg.Nw.sBFixed) (f := ga K "_law_fixed") (c.def_ 53 rfl)
  have h_k39 := q 170 rfl
  exact all_mk (P := RW.prog) X G hfa h_a0 h_d0 h_k0 h_a1 h_d1 h_k1 h_a2 h_d2 h_k2 h_a3 h_d3 h_k3 h_a4 h_d4 h_k4 h_a5 h_d5 h_k5 h_a6 h_d6 h_k6 h_a7 h_d7 h_k7 h_a8 h_d8 h_k8 h_z_len h_z_max h_z_sum h_z_enumerate h_c_LETTERS h_c_DEEPEST h_c_MOST_ITEMS h_c_LONGEST h_a9 h_d9 h_k9 h_g_Reader h_pg_CR h_hd_CR h_po_CR h_sa_CR h_mkc_CR h_kc_CR h_a10 h_d10 h_k10 h_z_all h_c_SIGNS h_c_MOST_LETTERS h_c_RESERVED h_k_RESERVED h_a11 h_d11 h_k11 h_a12 h_d12 h_k12 h_c_MARKS h_c_BAD h_c_END h_a13 h_d13 h_k13 h_a14 h_d14 h_k14 h_a15 h_d15 h_k15 h_no_CR__tokens h_no_CR__at h_z_tuple h_c_MOST_CELLS h_a16 h_d16 h_k16 h_ma0 h_mi0 h_md0 h_mk0 h_ma1 h_mi1 h_md1 h_mk1 h_ma2 h_mi2 h_md2 h_mk2 h_ma3 h_mi3 h_md3 h_mk3 h_ma4 h_mi4 h_md4 h_mk4 h_ma5 h_mi5 h_md5 h_mk5 h_ma6 h_mi6 h_md6 h_mk6 h_ma7 h_mi7 h_md7 h_mk7 h_ma8 h_mi8 h_md8 h_mk8 h_ma9 h_mi9 h_md9 h_mk9 h_ma10 h_mi10 h_md10 h_mk10 h_ma11 h_mi11 h_md11 h_mk11 h_ma12 h_mi12 h_md12 h_mk12 h_ma13 h_mi13 h_md13 h_mk13 h_a17 h_d17 h_k17 h_a18 h_d18 h_k18 h_a19 h_d19 h_k19 h_a20 h_d20 h_k20 h_z_int h_z_abs h_z_range h_z_isinstance h_z_list h_a21 h_d21 h_k21 h_a22 h_d22 h_k22 h_a23 h_d23 h_k23 h_a24 h_d24 h_k24 h_a25 h_d25 h_k25 h_a26 h_d26 h_k26 h_a27 h_d27 h_k27 h_a28 h_d28 h_k28 h_a29 h_d29 h_k29 h_a30 h_d30 h_k30 h_a31 h_d31 h_k31 h_a32 h_d32 h_k32 h_a33 h_d33 h_k33 h_a34 h_d34 h_k34 h_g_NoSuchCaret h_yx h_yk h_yb h_yt h_a35 h_d35 h_k35 h_z_bool h_z_str h_a36 h_d36 h_k36 h_a37 h_d37 h_k37 h_g_SetError h_exNN h_ycg h_yck h_ycd h_yca h_ycn h_yct h_ycm h_kNE h_a38 h_d38 h_k38 h_a39 h_d39 h_k39
end Mg.Nw
open PySem PySem.W PySem.Calls PyProof.Rows
theorem PySem.Challenge.cw_mathgalley_k50_places_of_carets_holds : PySem.Challenge.rw_mathgalley_k50_places_of_carets.Holds := by
  w_on; o_law
  refine HandSHeadRun.head_any (r := OpenLaw.row PySem.Challenge.rw_mathgalley_k50_places_of_carets) (q := view (OpenLaw.row PySem.Challenge.rw_mathgalley_k50_places_of_carets).prog [64]) (H := Mg.Nw.hk) (ob := Mg.Nw.obk) (M := 8000) (loose := Mg.Nw.lsl) (d := HandSHeadRun.topDef (OpenLaw.row PySem.Challenge.rw_mathgalley_k50_places_of_carets).prog 64) (kwd := []) Mg.Nw.ob_eq
    (by kernel_rfl) (fun s => by kernel_rfl) Mg.Nw.runHead (by kernel_rfl) (by kernel_rfl) (by kernel_rfl) (by rfl) (by first | assumption | decide +kernel) (by decide +kernel) ⟨rfl, rfl, rfl, rfl, rfl, by decide +kernel⟩ ?hw ?hc
  case hw => w_witness2
  case hc =>
    refine L2.walk_ofE (l := PySem.Challenge.rw_mathgalley_k50_places_of_carets) (n := 63) (k := 32) (x := "script") (CX := L2.CX0) rfl (by decide) (by kernel_rfl) ⟨rfl, by decide, by decide⟩ ?F (fun _ _ _ _ z => z)
    intro w mg fa h Y G hmg0
    obtain ⟨K, KX, c⟩ := Y
    have hmg : mg ("law" : PySem.Str) = some (.ref fa) := by
      have e : (HandSHeadRun.topDef (OpenLaw.row PySem.Challenge.rw_mathgalley_k50_places_of_carets).prog 64).name = ("law" : PySem.Str) := by kernel_rfl
      rw [← e]
      exact hmg0
    obtain ⟨fd, hb, hF⟩ := Mg.Nw.facts (w := w) KX G hmg c
    exact ⟨K, fd, Mg.Nw.spLaw K, KX, hb, fun H a ns hl _ hS => ⟨a, ns, rfl, hS, fun _ => rfl⟩, hF⟩
