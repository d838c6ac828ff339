import PyProof.Rows.All
import Wide.All
import OpenK.AllK
import Wide.FinOn
import PySem.Challenge.RW_mathgalley_k03_texts_read_back
import HandS.ForMost
import HandS.ForExc
import HandS.IsInst
import HandS.Zip
import HandS.Codes
import HandS.TupAny
import HandS.TupMul
import HandS.Star
import HandS.SetBool
import HandS.SetKeys
import HandS.Flow
import HandS.ExcOwn
import KE.DataMinMax
import HandS.SortKw
import HandS.Text
import HandS.Iter
import KE.RegKSuper
set_option Elab.async false
set_option linter.all false
set_option maxRecDepth 100000
set_option maxHeartbeats 2000000
namespace Mg
open PySem L2
/-! a def of the text that keeps a promise, as callers see it -/
structure Cal (P : Program) (w : World) (K : PySem.W.Frag) (mg : Str → Option Value) (base : Heap) (CX : CXT) (k : Nat) (x : Str) (ps : List Str) (sp : Sp) : Prop where
  ex : ∃ (f : Addr) (fd : FuncData), FnOk P w K mg base CX k f fd ps sp ∧ mg x = some (.ref f) ∧ PySem.W.keepIn K (.ref f) = true ∧ Binds K fd ps []
section
variable {X : Cx} {CX : CXT} {k : Nat} {ps : List Str} {sp : Sp} {E : XK} {x : Str} {p pos : Pos} {e : Expr} {es : List Expr} {t : TA}
theorem pe_cal (c : Cal X.prog X.w X.K X.mg X.base CX k x ps sp) (hr : Room k X.A) (hg : Gl X x) (hx : Passes CX X E) (ha : PA X (e :: es) t)
    (hdb : (x == ("__debug__" : Str)) = false := by decide) (he : starEach (e :: es) X.env = (false, eval e X.env) :: starEach es X.env := by rfl) (hpl : (backTo pos (starEach es X.env)).any (·.1) = false := by rfl) :
    PE X (.Call (.Name x p) (e :: es) [] pos) (tCall sp [] E t) := by
  obtain ⟨f, fd, F, hm, hk, hb⟩ := c.ex
  exact pe_call F hr hg hm hk hb .nil hx ha hdb he hpl
theorem pe_cal0 (c : Cal X.prog X.w X.K X.mg X.base CX k x ps sp) (hr : Room k X.A) (hg : Gl X x) (hx : Passes CX X E) (hdb : (x == ("__debug__" : Str)) = false := by decide) :
    PE X (.Call (.Name x p) [] [] pos) (tCall sp [] E tNil) := by
  obtain ⟨f, fd, F, hm, hk, hb⟩ := c.ex
  exact pe_call0 F hr hg hm hk hb .nil hx hdb
end
theorem Cal.mono {P : Program} {w : World} {K : PySem.W.Frag} {mg : Str → Option Value} {base : Heap} {CX : CXT} {j k : Nat} {x : Str} {ps : List Str} {sp : Sp} (c : Cal P w K mg base CX j x ps sp) (h : j ≤ k) : Cal P w K mg base CX k x ps sp := by
  obtain ⟨f, fd, F, r⟩ := c.ex
  exact ⟨f, fd, F.mono h, r⟩
/-! heaps -/
/-- what stood stands, but for what is at pl -/
def KeepB (pl : Addr) (H H' : Hp) : Prop := ∀ b o, H b = some o → b ≠ pl → H' b = some o
theorem KeepB.refl (pl : Addr) (H : Hp) : KeepB pl H H := fun _ _ h _ => h
theorem KeepB.trans {pl : Addr} {H H1 H2 : Hp} (a : KeepB pl H H1) (b : KeepB pl H1 H2) : KeepB pl H H2 := fun c o h n => b c o (a c o h n) n
theorem KeepB.of {pl : Addr} {H H' : Hp} (a : Same H H') : KeepB pl H H' := fun c o h _ => a c o h
theorem same_new {H : Hp} {p : Addr} {o : HO} (h : H p = none) : Same H (upd H p o) := fun b x e => by
  rw [upd_ne (ne_of_none e h)]
  exact e
theorem same_upd_new {H H' : Hp} {p : Addr} {o : HO} (s : Same H H') (h : H p = none) : Same H (upd H' p o) := fun b x e => by
  rw [upd_ne (ne_of_none e h)]
  exact s _ _ e
theorem keep_upd {pl : Addr} {H : Hp} {o : HO} : KeepB pl H (upd H pl o) := fun b x e n => by
  rw [upd_ne n]
  exact e
theorem keep_upd_new {pl p : Addr} {H H' : Hp} {o : HO} (s : KeepB pl H H') (h : H p = none) : KeepB pl H (upd H' p o) := fun b x e n => by
  rw [upd_ne (ne_of_none e h)]
  exact s _ _ e n
theorem room_of {j k : Nat} {A : Around} (r : Room k A) (h : j ≤ k := by decide) : Room j A := r.mono h
theorem iteP {c A B : Prop} [Decidable c] (hc : c) (h : A) : if c then A else B := by
  rw [if_pos hc]
  exact h
theorem iteN {c A B : Prop} [Decidable c] (hc : ¬ c) (h : B) : if c then A else B := by
  rw [if_neg hc]
  exact h
end Mg

set_option Elab.async false
set_option linter.all false
set_option maxRecDepth 100000
set_option maxHeartbeats 2000000
namespace Mg
open PySem PySem.Spec PyProof.Rows L2
/-! len of what is read, with its bound -/
theorem call_len_sq {X : Cx} : CallR X (.builtin "len") (fun xs H Q => ∃ p ys, xs = [.ref p] ∧ (SqL X.K H p ys ∨ SqT X.K H p ys) ∧ (ys.length ≤ sizeLine → Q (.int ys.length) H)) := by
  intro pins s σ H xs us Q I r h
  obtain ⟨p, ys, rfl, hq, q⟩ := h
  refine call_len_seq pins s σ H [.ref p] us Q I r ⟨p, ys, rfl, hq, q ?_⟩
  rcases hq with hq | hq
  · obtain ⟨its, r', pl, hz⟩ := I.list hq
    exact hz
  · obtain ⟨its, r', pl, hz⟩ := I.tuple hq
    exact hz
theorem line62 {n : Nat} (h : n ≤ sizeLine) : (n : Int) < 2 ^ 62 := by
  have e := sizeLine_eq
  omega
/-! the types of what is read -/
theorem tyx_tup {K : PySem.W.Frag} {H : Hp} {a : Addr} {xs : List V} (h : SqT K H a xs) : TyX K H (.ref a) (.type "tuple") := by
  rcases h with (h | ⟨o, h⟩) | ⟨o, its, n, hk, hc, _⟩
  · exact .base (.tup h)
  · exact .fTuple h
  · exact .kTuple hk hc
theorem tyx_lst {K : PySem.W.Frag} {H : Hp} {a : Addr} {xs : List V} (h : SqL K H a xs) : TyX K H (.ref a) (.type "list") := by
  rcases h with (h | ⟨o, h⟩) | ⟨o, its, n, hk, hc, _⟩
  · exact .base (.lst h)
  · exact .base (.frz h)
  · exact .kList hk hc
/-- the type's name of data -/
def tyD : PyData → String
  | .none => "NoneType" | .bool _ => "bool" | .int _ => "int" | .str _ => "str" | .list _ => "list" | .tuple _ => "tuple" | .dict _ => "dict"
theorem tyx_D {K : PySem.W.Frag} {H : Hp} {v : V} {d : PyData} (h : Dp K H v d) : TyX K H v (.type (tyD d)) := by
  cases h with
  | non => exact .base .non
  | bl b => exact .base (.bl b)
  | int i => exact .base (.int i)
  | str x => exact .base (.str x)
  | lst hs _ => exact tyx_lst hs
  | tup hs _ => exact tyx_tup hs
/-- isinstance of data and a built-in type -/
theorem isi_D {K : PySem.W.Frag} {H : Hp} {v : V} {d : PyData} {n : String} {b : Bool} {Q : VK} (h : Dp K H v d) (e : kitB (tyD d) n = some b) (q : Q (.bl b) H) : rIsi K [v, .ty n] H Q :=
  ⟨v, .ty n, _, _, b, rfl, .ty n, tyx_D h, kit_ty e, q⟩
/-! data stay -/
/-- tuples that are read stay -/
def TupK (H H' : Hp) : Prop := ∀ a xs, Rd H a (.tup xs) → Rd H' a (.tup xs)
theorem TupK.of {H H' : Hp} (s : Same H H') : TupK H H' := fun a xs h => by
  rcases h with h | ⟨o, h⟩
  · exact .inl (s _ _ h)
  · exact .inr ⟨o, s _ _ h⟩
theorem TupK.trans {H H1 H2 : Hp} (a : TupK H H1) (b : TupK H1 H2) : TupK H H2 := fun c xs h => b c xs (a c xs h)
theorem TupK.keep {pl : Addr} {H H' : Hp} {xs : List V} (s : KeepB pl H H') (hp : H pl = some (.lst xs)) : TupK H H' := fun a ys h => by
  have n : ∀ o, H a = some o → (∀ z, o ≠ .lst z) → a ≠ pl := fun o e z q => by
    rw [q, hp] at e
    exact z _ (Option.some.inj e).symm
  rcases h with h | ⟨o, h⟩
  · exact .inl (s _ _ h (n _ h fun _ z => nomatch z))
  · exact .inr ⟨o, s _ _ h (n _ h fun _ z => nomatch z)⟩
theorem TupK.seq {K : PySem.W.Frag} {H H' : Hp} {a : Addr} {xs : List V} (s : TupK H H') (h : SqT K H a xs) : SqT K H' a xs := by
  rcases h with h | h
  · exact .inl (s _ _ h)
  · exact .inr h
theorem same_sqt {K : PySem.W.Frag} {H H' : Hp} {a : Addr} {xs : List V} (s : Same H H') (h : SqT K H a xs) : SqT K H' a xs := (TupK.of s).seq h
mutual
theorem Dp_same {K : PySem.W.Frag} {H H' : Hp} (s : Same H H') : ∀ {d : PyData} {v : V}, Dp K H v d → Dp K H' v d
  | _, _, .non => .non
  | _, _, .bl b => .bl b
  | _, _, .int i => .int i
  | _, _, .str x => .str x
  | _, _, .lst h r => .lst (s.seq h) (DpAll_same s r)
  | _, _, .tup h r => .tup (same_sqt s h) (DpAll_same s r)
theorem DpAll_same {K : PySem.W.Frag} {H H' : Hp} (s : Same H H') : ∀ {ds : List PyData} {vs : List V}, DpAll K H vs ds → DpAll K H' vs ds
  | _, _, .nil => .nil
  | _, _, .cons h r => .cons (Dp_same s h) (DpAll_same s r)
end
/-- data made of tuples alone -/
inductive Tp (K : PySem.W.Frag) (H : Hp) : V → PyData → Prop
  | non : Tp K H .non .none
  | bl (b : Bool) : Tp K H (.bl b) (.bool b)
  | int (i : Int) : Tp K H (.int i) (.int i)
  | str (x : Str) : Tp K H (.str x) (.str x)
  | tup {a : Addr} {xs : List V} {ds : List PyData} : SqT K H a xs → xs.length = ds.length → (∀ (i : Nat) (x : V) (d : PyData), xs[i]? = some x → ds[i]? = some d → Tp K H x d) → Tp K H (.ref a) (.tuple ds)
theorem Tp.stay {K : PySem.W.Frag} {H H' : Hp} (s : TupK H H') {v : V} {d : PyData} (h : Tp K H v d) : Tp K H' v d := by
  induction h with
  | non => exact .non
  | bl b => exact .bl b
  | int i => exact .int i
  | str x => exact .str x
  | tup hs hl _ ih => exact .tup (s.seq hs) hl ih
theorem all_of_get {K : PySem.W.Frag} {H : Hp} : ∀ {ds : List PyData} {xs : List V}, xs.length = ds.length → (∀ (i : Nat) (x : V) (d : PyData), xs[i]? = some x → ds[i]? = some d → Dp K H x d) → DpAll K H xs ds
  | [], [], _, _ => .nil
  | [], _ :: _, e, _ => by simp at e
  | _ :: _, [], e, _ => by simp at e
  | d :: ds, x :: xs, e, h => .cons (h 0 x d rfl rfl) (all_of_get (by simpa using e) fun i y z h1 h2 => h (i + 1) y z h1 h2)
theorem Tp.dp {K : PySem.W.Frag} {H : Hp} {v : V} {d : PyData} (h : Tp K H v d) : Dp K H v d := by
  induction h with
  | non => exact .non
  | bl b => exact .bl b
  | int i => exact .int i
  | str x => exact .str x
  | tup hs hl _ ih => exact .tup hs (all_of_get hl ih)
theorem DpAll.len {K : PySem.W.Frag} {H : Hp} : ∀ {ds : List PyData} {vs : List V}, DpAll K H vs ds → vs.length = ds.length
  | _, _, .nil => rfl
  | _, _, .cons _ r => by rw [List.length_cons, List.length_cons, DpAll.len r]
theorem DpAll.get {K : PySem.W.Frag} {H : Hp} : ∀ {ds : List PyData} {vs : List V} {i : Nat} {d : PyData}, DpAll K H vs ds → ds[i]? = some d → ∃ v, vs[i]? = some v ∧ Dp K H v d
  | _, _, _, _, .nil, e => by simp at e
  | _, _, 0, _, .cons h _, e => by
    cases Option.some.inj e
    exact ⟨_, rfl, h⟩
  | _, _, i + 1, _, .cons _ r, e => by
    obtain ⟨v, h1, h2⟩ := DpAll.get (i := i) r e
    exact ⟨v, h1, h2⟩
theorem depth_get : ∀ {ds : List PyData} {i : Nat} {d : PyData}, ds[i]? = some d → d.depth ≤ PyData.depthAll ds
  | [], _, _, e => by simp at e
  | x :: xs, 0, _, e => by
    cases Option.some.inj e
    simp only [PyData.depthAll]
    omega
  | x :: xs, i + 1, d, e => by
    have := depth_get (ds := xs) (i := i) (d := d) e
    simp only [PyData.depthAll]
    omega
end Mg

set_option Elab.async false
set_option linter.all false
set_option maxRecDepth 100000
set_option maxHeartbeats 2000000
namespace Mg
open PySem PySem.Spec PyProof.Rows L2
/-- a comprehension's walk by a word: acc is the list so far -/
theorem lc_word {J : It} {n : Nat} {g : TG} {tt : TT} {te : TE} {vs : List Nat} {σ : L2.St} {H1 : Hp} {D : Addr} {Qd : Hp → Prop} (Pv : Nat → List V → Hp → Prop) (h0 : Pv 0 [] (upd H1 D (.lst [])))
    (hgo : ∀ i acc H, i < n → Pv i acc H → J.go i H) (hst : ∀ acc H, Pv n acc H → J.stop n H)
    (hs : ∀ i acc x H H' (R : VK) (Z : Hp → Prop), i < n → Pv i acc H → H D = some (.lst acc) → J.yld i H x H' →
      (∀ y H3, H3 D = some (.lst acc) → acc.length < sizeLine → Pv (i + 1) (acc ++ [y]) (upd H3 D (.lst (acc ++ [y]))) → R y H3) → g x (wipe σ vs) H' fun σ2 H2 => wipe σ2 vs = wipe σ vs ∧ tt σ2 H2 fun b H3 => if b = true then te σ2 H3 R else Z H3)
    (hd : ∀ acc H, Pv n acc H → H D = some (.lst acc) → Qd H) :
    ∃ W : Nat → Nat → Hp → Prop, (∃ m, W 0 m (upd H1 D (.lst []))) ∧ ∀ i m H, W i m H → (J.stop i H ∧ Qd H) ∨ (J.go i H ∧ ∃ Nx : Hp → Prop, (∀ H', Nx H' → ∃ m', m' < m ∧ W (i + 1) m' H') ∧ ∀ x H', J.yld i H x H' →
      g x (wipe σ vs) H' fun σ2 H2 => wipe σ2 vs = wipe σ vs ∧ tt σ2 H2 fun b H3 => if b = true then te σ2 H3 fun y H4 => ∃ acc, H4 D = some (.lst acc) ∧ acc.length < sizeLine ∧ Nx (upd H4 D (.lst (acc ++ [y]))) else Nx H3) := by
  refine ⟨fun i m H => m = n - i ∧ i ≤ n ∧ ∃ acc, Pv i acc H ∧ H D = some (.lst acc), ⟨n, rfl, Nat.zero_le _, [], h0, upd_same⟩, ?_⟩
  rintro i m H ⟨rfl, hi, acc, p, hD⟩
  by_cases hlt : i < n
  · refine .inr ⟨hgo i acc H hlt p, fun H' => ∃ acc, Pv (i + 1) acc H' ∧ H' D = some (.lst acc), fun H' q => ⟨n - (i + 1), by omega, rfl, hlt, q⟩, fun x H' y => ?_⟩
    exact hs i acc x H H' _ _ hlt p hD y fun z H3 e hz q => ⟨acc, e, hz, acc ++ [z], q, upd_same⟩
  · have e : i = n := by omega
    subst e
    exact .inl ⟨hst acc H p, hd acc H p hD⟩
/-- .. where each item gives its value of a list, and nothing that stood is changed -/
theorem lc_pure {J : It} {g : TG} {tt : TT} {te : TE} {vs : List Nat} {σ : L2.St} {H1 : Hp} {D : Addr} {Qd : Hp → Prop} (outs : List V) (hD : H1 D = none) (hz : outs.length ≤ sizeLine)
    (hgo : ∀ i H, i < outs.length → Same H1 H → J.go i H) (hst : ∀ H, Same H1 H → J.stop outs.length H)
    (hs : ∀ i x H H' (R : VK) (Z : Hp → Prop), i < outs.length → Same H1 H → J.yld i H x H' → (∀ y H3, outs[i]? = some y → Same H H3 → R y H3) →
      g x (wipe σ vs) H' fun σ2 H2 => wipe σ2 vs = wipe σ vs ∧ tt σ2 H2 fun b H3 => if b = true then te σ2 H3 R else Z H3)
    (hd : ∀ H, Same H1 H → H D = some (.lst outs) → Qd H) :
    ∃ W : Nat → Nat → Hp → Prop, (∃ m, W 0 m (upd H1 D (.lst []))) ∧ ∀ i m H, W i m H → (J.stop i H ∧ Qd H) ∨ (J.go i H ∧ ∃ Nx : Hp → Prop, (∀ H', Nx H' → ∃ m', m' < m ∧ W (i + 1) m' H') ∧ ∀ x H', J.yld i H x H' →
      g x (wipe σ vs) H' fun σ2 H2 => wipe σ2 vs = wipe σ vs ∧ tt σ2 H2 fun b H3 => if b = true then te σ2 H3 fun y H4 => ∃ acc, H4 D = some (.lst acc) ∧ acc.length < sizeLine ∧ Nx (upd H4 D (.lst (acc ++ [y]))) else Nx H3) := by
  refine lc_word (n := outs.length) (fun i acc H => acc = outs.take i ∧ Same H1 H) ⟨by simp, same_new hD⟩ (fun i acc H hi p => hgo i H hi p.2) (fun acc H p => hst H p.2) ?_ (fun acc H p e => hd H p.2 (by rw [e, p.1, List.take_length]))
  rintro i acc x H H' R Z hi ⟨rfl, s⟩ e y k
  refine hs i x H H' R Z hi s y fun v H3 hv s3 => k v H3 (s3 _ _ e) (by rw [List.length_take]; omega) ⟨?_, same_upd_new (s.trans s3) hD⟩
  rw [List.take_add_one, hv]
  rfl
theorem pe_gstr {X : Cx} {x z : Str} {pos : Pos} (hg : Gl X x) (h : ∃ t, X.mg x = some (.str z t)) (hd : (x == ("__debug__" : Str)) = false := by decide) : PE X (.Name x pos) (tC (.str z)) := by
  obtain ⟨t, h⟩ := h
  exact pe_glob hg h ⟨_, rfl⟩ hd
theorem pe_gint {X : Cx} {x : Str} {z : Int} {pos : Pos} (hg : Gl X x) (h : ∃ t, X.mg x = some (.int z t)) (hd : (x == ("__debug__" : Str)) = false := by decide) : PE X (.Name x pos) (tC (.int z)) := by
  obtain ⟨t, h⟩ := h
  exact pe_glob hg h ⟨_, rfl⟩ hd
theorem pe_gref {X : Cx} {x : Str} {a : Addr} {pos : Pos} (hg : Gl X x) (h : X.mg x = some (.ref a)) (hd : (x == ("__debug__" : Str)) = false := by decide) : PE X (.Name x pos) (tC (.ref a)) :=
  pe_glob (v := .ref a) hg h rfl hd
/-! pieces of texts -/
theorem cut_from (z : Str) (n : Nat) : cutS z (some (n : Int)) none = SX.S (z.cps.toList.drop n) := by
  rw [C8.cutS_slice]
  have e : Txt.slice (SX.S z.cps.toList) (some (n : Int)) none = SX.S (z.cps.toList.drop n) := by
    rw [SX.slice_from (by omega)]
    rfl
  rw [SX.S_tl] at e
  exact e
theorem cut_to (z : Str) (n : Nat) : cutS z none (some (n : Int)) = SX.S (z.cps.toList.take n) := by
  rw [C8.cutS_slice]
  have e : Txt.slice (SX.S z.cps.toList) none (some (n : Int)) = SX.S (z.cps.toList.take n) := by
    rw [SX.slice_to (by omega)]
    rfl
  rw [SX.S_tl] at e
  exact e
theorem str_len (z : Str) : z.length = z.cps.toList.length := by simp [Str.length]
end Mg

set_option Elab.async false
set_option linter.all false
set_option maxRecDepth 100000
set_option maxHeartbeats 2000000
namespace Mg
open PySem L2
def top (i : Nat) : Stmt := PySem.Challenge.pw_mathgalley_k03_texts_read_back.main.body.getD i (.Pass ⟨0, 0, 0, 0⟩)
abbrev sCell : Stmt := top 41
abbrev sDraws : Stmt := top 42
abbrev sStream : Stmt := top 43
abbrev sNext : Stmt := top 44
local macro_rules | `(tactic| walk_at "go") => `(tactic| repeat (first | refine ⟨_, rfl, ?_⟩ | refine ⟨_, _, rfl, rfl, ?_⟩))
structure TxtB (mg : Str → Option Value) : Prop where
  b_len : mg "len" = none
  b_int : mg "int" = none
  b_abs : mg "abs" = none
  range : mg "range" = none
  b_isinstance : mg "isinstance" = none
  b_tuple : mg "tuple" = none
  b_list : mg "list" = none
section
variable {P : Program} {w : World} {K : PySem.W.Frag} {mg : Str → Option Value} {base : Heap}
/-! _law_cell: some int -/
def spCellN (K : PySem.W.Frag) : Sp := fun vs H Q _ => ∃ (a : Addr) (ns : List Int) (j : Int), vs = [.ref a, .int j] ∧ SqL K H a (ns.map V.int) ∧ 0 ≤ j ∧ ∀ n : Int, Q (.int n) H
theorem scCell : FnScope ["script", "k"] ["script", "k"] (defScope sCell) := ⟨rfl, rfl, rfl, by decide +kernel, rfl, by decide +kernel, by decide +kernel⟩
theorem ok_cell {f : Addr} {fd : FuncData} (F : Fun K "_law_cell" "_law_cell" sCell f fd) (T : TxtB mg) : FnOk P w K mg base CX0 1 f fd ["script", "k"] (spCellN K) := by
  have sc := scCell
  refine F.ok scCell (fun vs H Q E h => ?_) (fun cdv A outer s H vs Q E hr h => ?_)
  · obtain ⟨a, ns, j, rfl, _⟩ := h
    rfl
  · obtain ⟨a, ns, j, rfl, hs, hj, k⟩ := h
    refine ⟨_, (pss_cons (ps_if (pt_cmpR op_lt (pv 1) (pe_callB call_len_seq (by rfl) T.b_len PySem.boot_len (pa_cons (pv 0) pa_nil)) (nomark _))
  (pss_one (ps_ret (pe_callTy call_int1 (by rfl) T.b_int (by decide +kernel) (pa_cons (pe_ix ix_list (pv 0) (pv 1) (fun _ _ => rfl)) pa_nil))))
  pss_nil)
  (pss_one (ps_ret pe_int))), ?_⟩
    refine ⟨_, rfl, _, rfl, a, _, rfl, .inl hs, _, _, rfl, rfl, _, rfl, ?_⟩
    rw [List.length_map]
    refine ite2 (fun c => ?_) (fun c => ?_)
    · have c' := of_decide_eq_true c
      obtain ⟨n, rfl⟩ := Int.eq_ofNat_of_zero_le hj
      have hn : n < ns.length := by omega
      have e1 : (ns.map V.int)[n]? = some (.int ns[n]) := by
        rw [List.getElem?_map, List.getElem?_eq_getElem hn]
        rfl
      exact ⟨_, rfl, _, rfl, a, _, _, _, rfl, rfl, hs, atI_nat e1, .inl ⟨_, rfl, k _⟩⟩
    · exact k 0

/-! _law_draws: count digits from 0 to 59, a new list -/
def Digits (ds : List Int) : Prop := ∀ d ∈ ds, 0 ≤ d ∧ d < 60
def spDraws : Sp := fun vs H Q _ => ∃ (n : Int) (c : Nat), vs = [.int n, .int (c : Int)] ∧ c ≤ 60 ∧ ∀ (ds : List Int) (l : Addr) (H' : Hp), H l = none → Same H H' → H' l = some (.lst (ds.map V.int)) → ds.length = c → Digits ds → Q (.ref l) H'
theorem digits_snoc {ds : List Int} {d : Int} (h : Digits ds) (h1 : 0 ≤ d) (h2 : d < 60) : Digits (ds ++ [d]) := fun x hx => by
  rcases List.mem_append.mp hx with z | z
  · exact h x z
  · rw [List.mem_singleton.mp z]
    exact ⟨h1, h2⟩
theorem scDraws : FnScope ["cell", "count", "number", "great", "found", "k", "mixed"] ["cell", "count"] (defScope sDraws) := ⟨rfl, rfl, rfl, by decide +kernel, rfl, by decide +kernel, by decide +kernel⟩
theorem ok_draws {f : Addr} {fd : FuncData} (F : Fun K "_law_draws" "_law_draws" sDraws f fd) (T : TxtB mg) : FnOk P w K mg base CX0 1 f fd ["cell", "count"] spDraws := by
  have sc := scDraws
  refine F.ok scDraws (fun vs H Q E h => ?_) (fun cdv A outer s H vs Q E hr h => ?_)
  · obtain ⟨n, c, rfl, _⟩ := h
    rfl
  · obtain ⟨n, c, rfl, hc, k⟩ := h
    refine ⟨_, (pss_cons (ps_set (i := 2) sc.nd rfl (Or.inl rfl) (pe_callB call_abs (by rfl) T.b_abs (by decide +kernel) (pa_cons (pe_callTy call_int1 (by rfl) T.b_int (by decide +kernel) (pa_cons (pv 0) pa_nil)) pa_nil)))
  (pss_cons (ps_set (i := 3) sc.nd rfl (Or.inl rfl) (pe_cmpR op_ge (pv 2) (pe_op op_pow pe_int pe_int) (nomark _)))
  (pss_cons (ps_set (i := 4) sc.nd rfl (Or.inl rfl) (pe_lst pa_nil))
  (pss_cons (ps_for PassesOwn.never rfl (pi_range1 rfl T.range (pa_cons pe_int pa_nil)) (pg_name (i := 5) sc.nd rfl (Or.inl rfl))
  (pss_one (ps_if (PW.pt (pw_and (pt_cmpR op_lt (pv 5) (pv 1) (nomark _)) (pw_and1 (pt_val (pv 3)))))
  (pss_cons (ps_expr (pe_bm PySem.F.plainAttrs_list PySem.F.slot_list_append PySem.F.type_list_append mt_append (pv 4) (pa_cons (pe_op op_mod (pv 2) pe_int) pa_nil)))
  (pss_one (ps_set (i := 2) sc.nd rfl (Or.inl rfl) (pe_op op_fdiv (pv 2) pe_int))))
  (pss_one (ps_if (pt_cmpR op_lt (pv 5) (pv 1) (nomark _))
  (pss_cons (ps_set (i := 6) sc.nd rfl (Or.inl rfl) (pe_op op_mod (pe_op op_add (pe_op op_add (pe_op op_mul (pe_callTy call_int1 (by rfl) T.b_int (by decide +kernel) (pa_cons (pv 2) pa_nil)) pe_int) (pe_op op_mul (pv 5) pe_int)) pe_int) pe_int))
  (pss_cons (ps_set (i := 6) sc.nd rfl (Or.inl rfl) (pe_op op_mod (pe_op op_add (pe_op op_add (pe_op op_mul (pe_callTy call_int1 (by rfl) T.b_int (by decide +kernel) (pa_cons (pv 6) pa_nil)) (pe_callTy call_int1 (by rfl) T.b_int (by decide +kernel) (pa_cons (pv 6) pa_nil))) (pe_op op_mul (pv 5) pe_int)) pe_int) pe_int))
  (pss_one (ps_expr (pe_bm PySem.F.plainAttrs_list PySem.F.slot_list_append PySem.F.type_list_append mt_append (pv 4) (pa_cons (pe_op op_mod (pe_callTy call_int1 (by rfl) T.b_int (by decide +kernel) (pa_cons (pv 6) pa_nil)) pe_int) pa_nil))))))
  pss_nil)))))
  (pss_one (ps_ret (pv 4))))))), ?_⟩
    refine ⟨_, rfl, .inl ⟨_, rfl, _, rfl, ?_⟩⟩
    refine ⟨_, rfl, _, _, rfl, rfl, ⟨by decide, by decide, by decide⟩, _, _, rfl, rfl, ?_⟩
    refine ⟨Nat.zero_le _, fun l hl => ?_⟩
    generalize (if n < 0 then -n else n) = n0
    obtain ⟨g, hg⟩ : ∃ g : Bool, g = decide ((10 : Int) ^ (Int.toNat 18) ≤ n0) := ⟨_, rfl⟩
    refine ⟨60, rfl, by decide, by decide, for_range (n := 60) (fun i σ H' => ∃ (nb : Int) (ds : List Int) (x5 x6 : Option V), σ = [some (.int n), some (.int (c : Int)), some (.int nb), some (.bl g), some (.ref l), x5, x6] ∧ ds.length = min i c ∧ Digits ds ∧ Same H H' ∧ H' l = some (.lst (ds.map V.int)))
      ⟨n0, [], none, none, (by rw [hg]; rfl), by simp, (fun _ hx => nomatch hx), same_new hl, upd_same⟩ ?_ ?_⟩
    · rintro i σ H' hi ⟨nb, ds, x5, x6, rfl, hlen, hd, hs, hL⟩
      have hz : ∀ m : Int, 0 ≤ m % 60 ∧ m % 60 < 60 := fun m => ⟨Int.emod_nonneg _ (by decide), Int.emod_lt_of_pos _ (by decide)⟩
      have hsz : (ds.map V.int).length < sizeLine := by
        rw [List.length_map]
        exact small1000 (by omega)
      refine ⟨_, rfl, _, rfl, _, _, rfl, rfl, _, rfl, ?_⟩
      refine ite2 (fun q => ?_) (fun q => ?_)
      · have q' : (0 : Int) + (i : Int) < (c : Int) := of_decide_eq_true q
        refine ⟨_, rfl, _, rfl, ?_⟩
        cases g with
        | true =>
          refine iteT ?_
          refine ⟨_, rfl, .inl ⟨rfl, _, SqL.of hL⟩, _, rfl, _, _, rfl, rfl, (by show (0 : Int) < 60; decide), _, _, _, rfl, rfl, hL, hsz, ?_⟩
          refine ⟨_, rfl, _, _, rfl, rfl, ⟨by decide, by decide⟩, ?_⟩
          exact ⟨_, ds ++ [nb % 60], _, _, rfl, by rw [List.length_append, hlen]; simp; omega, digits_snoc hd (hz _).1 (hz _).2, same_upd_new hs hl, by rw [upd_same, List.map_append]; rfl⟩
        | false =>
          refine iteF ?_
          refine ⟨_, rfl, _, rfl, _, _, rfl, rfl, _, rfl, ?_⟩
          refine iteP q ?_
          refine ⟨_, rfl, .inl ⟨_, rfl, ?_⟩⟩
          refine ⟨_, _, rfl, rfl, .inr ⟨by decide, by decide⟩, _, rfl, _, _, rfl, rfl, .inr ⟨by decide, by decide⟩, _, _, rfl, rfl, _, _, rfl, rfl, _, _, rfl, rfl, (by show (0 : Int) < 2147483647; decide), ?_⟩
          generalize hm : (nb * 48271 + (0 + (i : Int)) * 69621 + 11) % 2147483647 = m
          have m0 : 0 ≤ m := hm ▸ Int.emod_nonneg _ (by decide)
          have m1 : m < 2147483647 := hm ▸ Int.emod_lt_of_pos _ (by decide)
          refine ⟨_, rfl, .inl ⟨_, rfl, _, rfl, .inl ⟨_, rfl, ?_⟩⟩⟩
          refine ⟨_, _, rfl, rfl, .inr ⟨by omega, by omega⟩, _, rfl, _, _, rfl, rfl, .inr ⟨by decide, by decide⟩, _, _, rfl, rfl, _, _, rfl, rfl, _, _, rfl, rfl, (by show (0 : Int) < 998244353; decide), ?_⟩
          refine ⟨_, rfl, .inl ⟨rfl, _, SqL.of hL⟩, _, rfl, .inl ⟨_, rfl, _, _, rfl, rfl, (by show (0 : Int) < 60; decide), _, _, _, rfl, rfl, hL, hsz, ?_⟩⟩
          exact ⟨_, ds ++ [_], _, _, rfl, by rw [List.length_append, hlen]; simp; omega, digits_snoc hd (hz _).1 (hz _).2, same_upd_new hs hl, by rw [upd_same, List.map_append]; rfl⟩
      · refine iteF ?_
        refine ⟨_, rfl, _, rfl, _, _, rfl, rfl, _, rfl, ?_⟩
        refine iteN q ?_
        have q' : ¬ (0 : Int) + (i : Int) < (c : Int) := fun z => q (decide_eq_true z)
        exact ⟨_, ds, _, _, rfl, by rw [hlen]; omega, hd, hs, hL⟩
    · rintro σ H' ⟨nb, ds, x5, x6, rfl, hlen, hd, hs, hL⟩
      exact ⟨_, rfl, k ds l H' hl hs hL (by omega) hd⟩

/-! _law_stream: a new list of a list of digits and a list of one place -/
def Stream (H : Hp) (s pd pl : Addr) : Prop := pd ≠ pl ∧ s ≠ pl ∧ ∃ (ds : List Int) (k : Int), H s = some (.lst [.ref pd, .ref pl]) ∧ H pd = some (.lst (ds.map V.int)) ∧ H pl = some (.lst [.int k]) ∧ ds ≠ [] ∧ Digits ds ∧ ds.length ≤ 1000 ∧ 0 ≤ k
def spStream (K : PySem.W.Frag) : Sp := fun vs H Q _ => ∃ (a : Addr) (ns : List Int) (c : Nat), vs = [.ref a, .int 0, .int (c : Int)] ∧ SqL K H a (ns.map V.int) ∧ 1 ≤ c ∧ c ≤ 60 ∧
  ∀ (st pd pl : Addr) (H' : Hp), H st = none → H pd = none → H pl = none → Same H H' → Stream H' st pd pl → Q (.ref st) H'
theorem scStream : FnScope ["script", "first", "count", "found", "k"] ["script", "first", "count"] (defScope sStream) := ⟨rfl, rfl, rfl, by decide +kernel, rfl, by decide +kernel, by decide +kernel⟩
theorem ok_stream {f : Addr} {fd : FuncData} (F : Fun K "_law_stream" "_law_stream" sStream f fd) (T : TxtB mg) (C_law_cell : Cal P w K mg base CX0 1 "_law_cell" ["script", "k"] (spCellN K)) (C_law_draws : Cal P w K mg base CX0 1 "_law_draws" ["cell", "count"] spDraws) :
    FnOk P w K mg base CX0 2 f fd ["script", "first", "count"] (spStream K) := by
  have sc := scStream
  refine F.ok scStream (fun vs H Q E h => ?_) (fun cdv A outer s H vs Q E hr h => ?_)
  · obtain ⟨a, ns, c, rfl, _⟩ := h
    rfl
  · obtain ⟨a, ns, c, rfl, hS, c1, c2, k⟩ := h
    have hrlaw_draws : Room 1 _ := hr.mono (by decide)
    have hrlaw_cell : Room 1 _ := hr.mono (by decide)
    refine ⟨_, (pss_cons (ps_set (i := 3) sc.nd rfl (Or.inl rfl) (pe_lst pa_nil))
  (pss_cons (ps_for PassesOwn.never rfl (pi_range1 rfl T.range (pa_cons (pv 2) pa_nil)) (pg_name (i := 4) sc.nd rfl (Or.inl rfl))
  (pss_one (ps_expr (pe_bm PySem.F.plainAttrs_list PySem.F.slot_list_extend PySem.F.type_list_extend mt_extend (pv 3) (pa_cons (pe_cal C_law_draws hrlaw_draws rfl pass0 (pa_cons (pe_cal C_law_cell hrlaw_cell rfl pass0 (pa_cons (pv 0) (pa_cons (pe_op op_add (pv 1) (pv 4)) pa_nil))) (pa_cons pe_int pa_nil))) pa_nil)))))
  (pss_one (ps_ret (pe_lst (pa_cons (pv 3) (pa_cons (pe_lst (pa_cons pe_int pa_nil)) pa_nil))))))), ?_⟩
    refine ⟨Nat.zero_le _, fun l hl => ?_⟩
    refine ⟨_, rfl, (c : Int), rfl, by omega, by omega, for_range (n := c) (fun i σ H' => ∃ (ds : List Int) (x4 : Option V), σ = [some (.ref a), some (.int 0), some (.int (c : Int)), some (.ref l), x4] ∧ ds.length = 12 * i ∧ Digits ds ∧ Same H H' ∧ H' l = some (.lst (ds.map V.int)))
      ⟨[], none, rfl, rfl, (fun _ hx => nomatch hx), same_new hl, upd_same⟩ ?_ ?_⟩
    · rintro i σ H' hi ⟨ds, x4, rfl, hlen, hd, hs, hL⟩
      refine ⟨_, rfl, .inl ⟨rfl, _, SqL.of hL⟩, _, rfl, _, rfl, _, rfl, _, _, rfl, rfl, ?_⟩
      refine ⟨a, ns, _, rfl, hs.seq hS, by omega, fun n => ?_⟩
      refine ⟨n, 12, rfl, by decide, fun es l2 H2 n2 s2 h2 hl2 hd2 => ?_⟩
      refine ⟨l, l2, _, _, rfl, rfl, s2 _ _ hL, h2, ?_, ?_⟩
      · rw [List.length_map, List.length_map]
        exact Nat.le_of_lt (small1000 (by omega))
      · refine ⟨ds ++ es, _, rfl, by rw [List.length_append]; omega, fun x hx => (List.mem_append.mp hx).elim (hd x) (hd2 x), ?_, by rw [upd_same, List.map_append]⟩
        exact same_upd_new (hs.trans s2) hl
    · rintro σ H' ⟨ds, x4, rfl, hlen, hd, hs, hL⟩
      refine ⟨_, rfl, (by show 1 ≤ sizeLine; decide), fun pl hpl => ⟨(by show 2 ≤ sizeLine; decide), fun st hst => ?_⟩⟩
      have npl : l ≠ pl := ne_of_none hL hpl
      have nst : st ≠ pl := fun e => by
        rw [e, upd_same] at hst
        cases hst
      have hst' : H' st = none := by
        rw [upd_ne nst] at hst
        exact hst
      have nls : l ≠ st := ne_of_none hL hst'
      refine k st l pl _ (hs.free hst') hl (hs.free hpl) (same_upd_new (same_upd_new hs (hs.free hpl)) (hs.free hst')) ⟨npl, nst, ds, 0, upd_same, ?_, ?_, ?_, hd, by omega, by decide⟩
      · rw [upd_ne nls, upd_ne npl]
        exact hL
      · rw [upd_ne nst.symm, upd_same]
      · intro e
        rw [e] at hlen
        simp at hlen
        omega
/-! _law_next: some number below many; the place goes on -/
def spNext : Sp := fun vs H Q _ => ∃ (st pd pl : Addr) (m : Int), vs = [.ref st, .int m] ∧ 0 < m ∧ Stream H st pd pl ∧ ∀ (v : Int) (H' : Hp), 0 ≤ v → v < m → KeepB pl H H' → Stream H' st pd pl → Q (.int v) H'
theorem scNext : FnScope ["stream", "many", "digits", "place", "value"] ["stream", "many"] (defScope sNext) := ⟨rfl, rfl, rfl, by decide +kernel, rfl, by decide +kernel, by decide +kernel⟩
theorem ok_next {f : Addr} {fd : FuncData} (F : Fun K "_law_next" "_law_next" sNext f fd) (T : TxtB mg) : FnOk P w K mg base CX0 1 f fd ["stream", "many"] spNext := by
  have sc := scNext
  refine F.ok scNext (fun vs H Q E h => ?_) (fun cdv A outer s H vs Q E hr h => ?_)
  · obtain ⟨st, pd, pl, m, rfl, _⟩ := h
    rfl
  · obtain ⟨st, pd, pl, m, rfl, hm, ⟨n1, n2, ds, i, h1, h2, h3, hne, hd, hl, hi⟩, k⟩ := h
    refine ⟨_, (pss_cons (ps_set (i := 2) sc.nd rfl (Or.inl rfl) (pe_ix ix_list (pv 0) pe_int (fun _ _ => rfl)))
  (pss_cons (ps_set (i := 3) sc.nd rfl (Or.inl rfl) (pe_ix ix_list (pv 0) pe_int (fun _ _ => rfl)))
  (pss_cons (ps_set (i := 4) sc.nd rfl (Or.inl rfl) (pe_op op_mod (pe_callTy call_int1 (by rfl) T.b_int (by decide +kernel) (pa_cons (pe_ix ix_list (pv 2) (pe_op op_mod (pe_callTy call_int1 (by rfl) T.b_int (by decide +kernel) (pa_cons (pe_ix ix_list (pv 3) pe_int (fun _ _ => rfl)) pa_nil)) (pe_callB call_len_seq (by rfl) T.b_len PySem.boot_len (pa_cons (pv 2) pa_nil))) (fun _ _ => rfl)) pa_nil)) (pv 1)))
  (pss_cons (ps_asg (pe_op op_add (pe_ix ix_list (pv 3) pe_int (fun _ _ => rfl)) pe_int) (pg_sub (pv 3) pe_int set_list))
  (pss_one (ps_ret (pv 4))))))), ?_⟩
    have hlen : 0 < ds.length := List.length_pos_iff.mpr hne
    obtain ⟨q, hq⟩ : ∃ q : Nat, i % ((ds.length : Nat) : Int) = (q : Int) := ⟨_, (Int.toNat_of_nonneg (Int.emod_nonneg _ (by omega))).symm⟩
    have hq2 : q < ds.length := by
      have := Int.emod_lt_of_pos i (show (0 : Int) < ((ds.length : Nat) : Int) by omega)
      omega
    have e1 : (ds.map V.int)[q]? = some (.int ds[q]) := by
      rw [List.getElem?_map, List.getElem?_eq_getElem hq2]
      rfl
    refine ⟨_, rfl, st, _, _, _, rfl, rfl, SqL.of h1, rfl, ?_⟩
    refine ⟨_, rfl, st, _, _, _, rfl, rfl, SqL.of h1, rfl, ?_⟩
    refine ⟨_, rfl, _, rfl, pl, _, _, _, rfl, rfl, SqL.of h3, rfl, .inl ⟨_, rfl, ?_⟩⟩
    refine ⟨_, rfl, pd, _, rfl, .inl (SqL.of h2), _, _, rfl, rfl, (by rw [List.length_map]; omega), ?_⟩
    refine ⟨pd, _, _, _, rfl, rfl, SqL.of h2, (by rw [List.length_map, hq]; exact atI_nat e1), .inl ⟨_, rfl, ?_⟩⟩
    refine ⟨_, rfl, _, _, rfl, rfl, hm, ?_⟩
    refine ⟨_, rfl, pl, _, _, _, rfl, rfl, SqL.of h3, rfl, _, _, rfl, rfl, ?_⟩
    refine ⟨_, rfl, pl, _, _, 0, rfl, rfl, h3, rfl, ?_⟩
    refine ⟨_, rfl, k _ _ (Int.emod_nonneg _ (by omega)) (Int.emod_lt_of_pos _ hm) keep_upd ⟨n1, n2, ds, i + 1, ?_, ?_, upd_same, hne, hd, hl, by omega⟩⟩
    · rw [upd_ne n2]
      exact h1
    · rw [upd_ne n1]
      exact h2
end
end Mg

set_option Elab.async false
set_option linter.all false
set_option maxRecDepth 100000
set_option maxHeartbeats 4000000
namespace Mg
open PySem PySem.Spec PyProof.Rows L2
/-! a set comprehension whose members are ints and texts -/
section
variable {X : Cx}
/-- {e for t in it if ..}: D is the new set -/
def tSk (P : Program) (w : World) (wi : TI) (g : TG) (tt : TT) (te : TE) (own : List Nat) : TE := fun σ H Q => wi σ H fun J Ha => ∀ D, Ha D = none →
  ∃ W : Nat → Nat → Hp → Prop, (∃ m, W 0 m (upd Ha D (SetK P w D (fun _ => false) 0))) ∧ ∀ i m Hb, W i m Hb → (J.stop i Hb ∧ Q (.ref D) Hb) ∨ (J.go i Hb ∧ ∃ Z : Hp → Prop, (∀ Hc, Z Hc → ∃ m', m' < m ∧ W (i + 1) m' Hc) ∧
    ∀ x Hc, J.yld i Hb x Hc → g x (wipe σ own) Hc fun ρ Hd => wipe ρ own = wipe σ own ∧ tt ρ Hd fun b He => if b = true then te ρ He fun y Hf => ∃ (k : Key) (S : Key → Bool) (n : Nat), y = kV k ∧ Hf D = some (SetK P w D S n) ∧ n + 1 < scanBound ∧
      Z (upd Hf D (SetK P w D (fun j => S j || decide (j = k)) (if S k = true then n else n + 1))) else Z He)
theorem setk_fresh (P : Program) (w : World) (h : Heap) : (h.push { cls := .type "set", dict := none, data := .set #[] 0 (.fresh 0 0 (!w.params.followText "set-order")) }).SetOf (mixKind P w) h.objs.size (fun _ => false) 0 := by
  refine ⟨_, #[], 0, _, Heap.get?_push_size _ rfl, ⟨rfl, rfl, rfl⟩, rfl, ?_, ?_, by decide, by rfl, rfl⟩
  · intro e he
    simp at he
  · intro k
    simp
theorem pe_sk {elt tg iter : Expr} {ifs : List Expr} {scope : Scope} {own : List (PySem.Str × Nat)} {pos : Pos} {wi : TI} {g : TG} {tt : TT} {te : TE} (calm : X.calm = true) (nd : X.N.Nodup) (hi : PI X tg iter wi) (ok : BlkOk X.N X.env.scope scope own)
    (hg : ∀ s H C cl fp, PG (X.blk s H scope (compEnvC scope cl C X.env) fp) tg g) (ht : ∀ s H C cl fp, PTs (X.blk s H scope (compEnvC scope cl C X.env) fp) ifs tt)
    (he : ∀ s H C cl fp, PE (X.blk s H scope (compEnvC scope cl C X.env) fp) elt te) (hf : ∀ x, foldedSetIterable iter X.env x = pure x := by intro _; rfl) :
    PE X (.SetComp elt [⟨tg, iter, ifs, 0⟩] scope pos) (tSk X.prog X.w wi g tt te (own.map (·.2))) := by
  refine ⟨fun pins s σ H Q I h => ?_⟩
  rw [PpSet.eval_SetComp]
  have free : ∀ y ∈ scope.names, y.2 = .free → ∃ c, X.env.cells.lookup y.1 = some c := fun y hy e => (ok.free y hy e).elim (fun k => I.ok.has _ (.inl k)) fun k => I.ok.has _ (.inr k)
  refine wpAny_comprehension_free (use := none) rfl hf (closure_ok free) ok.kind (fun y hy e => by rw [ok.uniq y hy, e]) ?_
  refine thn (hi.run pins s σ H _ I h) fun xv s1 hx => thn hx fun itv s2 h2 => ?_
  obtain ⟨it, fp, tn, J, Ha, rfl, Ia, T, sta, fa, q⟩ := h2
  refine PpSet.newSet_ok (newEnv_comp ?_)
  obtain ⟨D, hD⟩ : ∃ D, s2.heap.objs.size = D := ⟨_, rfl⟩
  rw [hD]
  obtain ⟨W, ⟨m0, w0⟩, turn⟩ := q D (Ia.hok.fresh (Nat.le_of_eq hD))
  obtain ⟨s3, hs3⟩ : ∃ s3 : Shared, s3 = { s2 with heap := s2.heap.push { cls := .type "set", dict := none, data := .set #[] 0 (.fresh 0 0 (!X.w.params.followText "set-order")) } } := ⟨_, rfl⟩
  rw [← hs3]
  have heap3 : s3.heap = s2.heap.push { cls := .type "set", dict := none, data := .set #[] 0 (.fresh 0 0 (!X.w.params.followText "set-order")) } := by rw [hs3]
  obtain ⟨Hd, hHd⟩ : ∃ Hd, Hd = upd Ha D (SetK X.prog X.w D (fun _ => false) 0) := ⟨_, rfl⟩
  rw [← hHd] at w0
  have Id : Inv X pins σ Hd s3 := by
    rw [hs3, hHd]
    refine Ia.laid (t' := s2.toks) (fun b o e => Heap.get?_push_of_some _ e) (Nat.le_of_eq hD) ?_
    rw [← hD]
    exact setK_new (setk_fresh X.prog X.w s2.heap)
  have small : ∀ b ∈ fp, b < s2.heap.objs.size := fun b hb => (T.obj _ _ sta b hb).elim fun o e => Heap.lt_size e.1
  have fd : ∀ b ∈ fp, FpOk X pins Hd b ∧ b < s3.heap.objs.size := fun b hb => by
    have lt := small b hb
    refine ⟨⟨?_, (fa b hb).2⟩, by rw [heap3, Heap.size_push]; exact Nat.lt_succ_of_lt lt⟩
    rw [hHd, upd_ne (by rw [← hD]; exact Nat.ne_of_lt lt)]
    exact (fa b hb).1
  have std : tn 0 s3.heap := T.keep _ _ _ sta fun b _ o e => by rw [heap3]; exact Heap.get?_push_of_some _ e
  have I4 := block_start Id ok nd fd
  obtain ⟨cl, hcl⟩ : ∃ cl, cl = cellsFrom (s3.heap.objs.size + 1) scope.names (cloFrom X.env.cells scope.names []) := ⟨_, rfl⟩
  rw [← hcl] at I4
  show codeAny _ _ (.compStart (.SetComp elt [⟨tg, iter, ifs, 0⟩] scope pos) 0 (.ref it) (.ref D) (compEnvC scope (cellsFrom (s3.heap.objs.size + 1) scope.names (cloFrom X.env.cells scope.names [])) s3.heap.objs.size X.env)) _ { s3 with heap := pushCells (s3.heap.push { cls := .type "dict", data := .dict #[] }) scope.names }
  rw [← hcl]
  have pg := hg s3 Hd s3.heap.objs.size cl fp
  have pt := ht s3 Hd s3.heap.objs.size cl fp
  have pe := he s3 Hd s3.heap.objs.size cl fp
  have none4 : ∀ b ∈ fp, Hd b = none := fun b hb => (fd b hb).1.1
  obtain ⟨ce, hce⟩ : ∃ ce, ce = compEnvC scope cl s3.heap.objs.size X.env := ⟨_, rfl⟩
  rw [← hce] at I4 pg pt pe ⊢
  have loc : ce.locals = s3.heap.objs.size := by rw [hce]; rfl
  obtain ⟨s4, hs4⟩ : ∃ s4 : Shared, s4 = { s3 with heap := pushCells (s3.heap.push { cls := .type "dict", data := .dict #[] }) scope.names } := ⟨_, rfl⟩
  rw [← hs4] at I4 ⊢
  have st4 : tn 0 s4.heap := T.keep _ _ _ std fun b _ o e => by rw [hs4]; exact pushCells_keeps _ _ _ _ (Heap.get?_push_of_some _ e)
  have fps : ∀ {σ' : L2.St} {H' : Hp} {s' : Shared}, Inv (X.blk s3 Hd scope ce fp) [] σ' H' s' → (∀ b ∈ fp, H' b = none) → ∀ b ∈ fp, FpOk (X.blk s3 Hd scope ce fp) [] H' b := fun {σ' H' s'} I' hn b hb =>
    ⟨hn b hb, (I'.ok.exf b hb).1, I'.ok.exfs b hb, .inl hb, fun x c e => (I'.ok.exf b hb).2 x c e, fun p hp => absurd (show p ∈ ([] : List (Addr × Obj)) ++ [] from hp) (by simp)⟩
  refine PpSet.codeAny_compStart_set ?loop (T.self X.A 0 _ _ _ st4 ?loop)
  refine PpSet.compLoopS_any (fun n s' => ∃ i Hk, Inv (X.blk s3 Hd scope ce fp) [] (wipe σ (own.map (·.2))) Hk s' ∧ tn i s'.heap ∧ (∀ b ∈ fp, Hk b = none) ∧ W i n Hk) ?_ m0 ⟨0, Hd, I4, st4, none4, w0⟩
  rintro n s5 ⟨i, H5, I5, st5, n5, w5⟩
  rcases turn i n H5 w5 with ⟨stop, fin⟩ | ⟨go, Z, hZ, step⟩
  · refine thnF (T.done (X.blk s3 Hd scope ce fp) rfl rfl rfl calm i [] s5 _ H5 (fun _ _ => False) I5 (fps I5 n5) st5 stop) fun r s6 ⟨hr, I6⟩ => ?_
    subst hr
    have I7 : Inv X pins σ H5 s6 := Id.call' (ch := fp) I6.os I6.base I6.hok I6.bare fun b hb => ⟨(fd b hb).1.2.2.2.1, (fd b hb).1.2.1, (fd b hb).1.2.2.2.2.1, (fd b hb).1.2.2.2.2.2⟩
    have gone : H5 s3.heap.objs.size = none := by
      rw [← loc]
      exact I6.free
    obtain ⟨mm, hn, _⟩ := I6.loc
    have hn : s6.heap.Ns ce.locals mm := hn
    rw [loc] at hn
    obtain ⟨f0, f1, f2, f3, f4, f5⟩ := Id.fpOk (Nat.le_refl _) gone
    exact ⟨mm, hn, fun h'' sb => ⟨.ref D, H5, I7.turned (t' := s6.toks) (fun b o hb e => (sb.2 b hb).trans e) f0 f1 f3 f4 f5, rfl, fin⟩⟩
  · refine thnF (T.item (X.blk s3 Hd scope ce fp) rfl rfl rfl calm i [] s5 _ H5 (fun _ _ => False) I5 (fps I5 n5) st5 go) fun r s6 ⟨u, hr, h6⟩ => ?_
    subst hr
    refine thnF h6 fun _ s7 ⟨x, H7, I7, r7, y7, st7, n7⟩ => ?_
    refine thnF (pg.run _ s7 _ H7 x u _ (I7.pinned (fps I7 n7) (T.obj _ _ st7)) r7 (step x H7 y7)) fun _ s8 ⟨σ8, H8, I8, hw8, q8⟩ => ?_
    refine thnF (pt.run _ s8 σ8 H8 _ I8 q8) fun b s9 ⟨H9, I9, q9⟩ => ?_
    have next : ∀ {s' : Shared} {H' : Hp}, Inv (X.blk s3 Hd scope ce fp) ([] ++ pinsAt fp s7.heap) σ8 H' s' → Z H' → ∃ m, m < n ∧ ∃ i Hk, Inv (X.blk s3 Hd scope ce fp) [] (wipe σ (own.map (·.2))) Hk s' ∧ tn i s'.heap ∧ (∀ b ∈ fp, Hk b = none) ∧ W i m Hk := fun {s' H'} I' nx => by
      obtain ⟨m', hm, w'⟩ := hZ H' nx
      have kept : ∀ b ∈ fp, ∀ o, s7.heap.get? b = some o → s'.heap.get? b = some o ∧ H' b = none := fun b hb o e => by
        have z := I'.pin (b, o) (List.mem_append_right _ (List.mem_append_right _ (mem_pinsAt hb e)))
        exact ⟨z.1, z.2.1⟩
      refine ⟨m', hm, i + 1, H', (I'.unpinned (pins := [])).weak (by rw [← hw8, wipe_length]) (fun j v e => ?_), T.keep _ _ _ st7 fun b hb o e => (kept b hb o e).1, fun b hb => ?_, w'⟩
      · rw [← hw8] at e
        exact (wipe_some e).1
      · obtain ⟨o, e, _⟩ := T.obj _ _ st7 b hb
        exact (kept b hb o e).2
    cases b with
    | false =>
      rw [if_neg Bool.false_ne_true] at q9
      exact next I9 q9
    | true =>
      rw [if_pos (rfl : true = true)] at q9
      refine thnF (pe.run _ s9 σ8 H9 _ I9 q9) fun z s10 ⟨yv, H10, I10, r10, k, S, n0, ey, hD10, room, nx⟩ => ?_
      subst ey
      refine thnF (mt_saddK (X := X.blk s3 Hd scope ce fp) _ s10 σ8 H10 (.ref D) [kV k] (.ref D) [z] (fun _ H' => Z H') I10 rfl (.cons r10 .nil) ⟨D, k, S, n0, rfl, rfl, hD10, room, nx⟩) fun _ s11 ⟨_, H11, I11, _, q11⟩ => ?_
      exact next I11 q11
end
end Mg


set_option Elab.async false
set_option linter.all false
set_option maxRecDepth 100000
set_option maxHeartbeats 2000000
namespace Mg
open PySem L2
local macro_rules | `(tactic| walk_at "dec") => `(tactic| (first | (apply decide_eq_true; omega) | (simp only [Bool.not_eq_true', decide_eq_true_eq, decide_eq_false_iff_not, Bool.not_eq_true, Bool.not_eq_false', Decidable.not_not] <;> omega)))
abbrev sIsCommand : Stmt := top 14
abbrev sIsSymbol : Stmt := top 15
/-! ### names of symbols, over texts -/
def cLETTERS : Str := PySem.Str.ofString "abcdefghijklmnopqrstuvwxyz"
def cSIGNS : Str := PySem.Str.ofString "abcdefghijklmnopqrstuvwxyzABCDEFGHIJKLMNOPQRSTUVWXYZ0123456789+-*/=<>()[],;:!?.'"
def cRESERVED : List Str := ["@frac", "@root", "@left", "@right", "@grid"]
structure TxtS (K : PySem.W.Frag) (mg : Str → Option Value) (aR : Addr) : Prop where
  b_len : mg "len" = none
  b_all : mg "all" = none
  c_LETTERS : ∃ t, mg "LETTERS" = some (.str cLETTERS t)
  c_SIGNS : ∃ t, mg "SIGNS" = some (.str cSIGNS t)
  c_MOST_LETTERS : ∃ t, mg "MOST_LETTERS" = some (.int 8 t)
  c_RESERVED : mg "RESERVED" = some (.ref aR)
  k_RESERVED : ∀ H, SqT K H aR (cRESERVED.map V.str)
def isCommand (w : Str) : Bool := SX.S (w.cps.toList.take 1) == ("@" : Str) && (decide (1 ≤ (w.cps.toList.drop 1).length) && decide ((w.cps.toList.drop 1).length ≤ 8)) && (w.cps.toList.drop 1).all fun c => decide (c ∈ cLETTERS.cps.toList)
def isSymbol (w : Str) : Bool := if w.cps.toList.length = 1 then w.cps.toList.all fun c => decide (c ∈ cSIGNS.cps.toList) else isCommand w && !(cRESERVED.any fun r => r == w)
section
variable {P : Program} {w : World} {K : PySem.W.Frag} {mg : Str → Option Value} {base : Heap} {aR : Addr}
def spIsCommand : Sp := fun vs H Q _ => ∃ z : Str, vs = [.str z] ∧ z.length ≤ 1000 ∧ ∀ H', Same H H' → Q (.bl (isCommand z)) H'
theorem scIsCommand : FnScope ["word", "letters", "letter"] ["word"] (defScope sIsCommand) := ⟨rfl, rfl, rfl, by decide +kernel, rfl, by decide +kernel, by decide +kernel⟩
theorem dec_not {p : Prop} [Decidable p] (h : (!decide p) = true) : ¬ p := by simpa using h
theorem ok_is_command {f : Addr} {fd : FuncData} (F : Fun K "is_command" "is_command" sIsCommand f fd) (T : TxtS K mg aR) : FnOk P w K mg base CX0 1 f fd ["word"] spIsCommand := by
  have sc := scIsCommand
  refine F.ok scIsCommand (fun vs H Q E h => ?_) (fun cdv A outer s H vs Q E hr h => ?_)
  · obtain ⟨z, rfl, _⟩ := h
    rfl
  · obtain ⟨z, rfl, hz, k⟩ := h
    have big : z.length ≤ sizeLine := Nat.le_of_lt (small1000 hz)
    refine ⟨_, (pss_cons (ps_set (i := 1) sc.nd rfl (Or.inl rfl) (pe_slice sl_str (pv 0) (po_some pe_int) po_none))
  (pss_cons (ps_if (PW.pt (pw_or (pt_cmpR op_ne (pe_slice sl_str (pv 0) po_none (po_some pe_int)) pe_str (nomark _)) (pw_or1 (pt_not (pt_chain op_le op_le pe_int (pe_callB call_len_str (by rfl) T.b_len PySem.boot_len (pa_cons (pv 1) pa_nil)) (pe_gint rfl T.c_MOST_LETTERS))))))
  (pss_one (ps_ret pe_bl))
  pss_nil)
  (pss_one (ps_ret (pe_callB (cr_all rfl) (by rfl) T.b_all (by decide +kernel) (pa_cons (pe_lc (own := [("letter", 2)]) rfl sc.nd (pi_str (pv 1)) (blkOk_by (own := [("letter", 2)]) (N := ["word", "letters", "letter"]) (sc := defScope sIsCommand) (by decide +kernel)) (fun _ _ _ _ _ => (pg_name (i := 2) sc.nd rfl (Or.inl rfl))) (fun _ _ _ _ _ => pts_nil) (fun _ _ _ _ _ => (pe_cmpR op_in_sign (pv 2) (pe_gstr rfl T.c_LETTERS) (by rfl)))) pa_nil)))))), ?_⟩
    obtain ⟨l, hl⟩ : ∃ l, l = z.cps.toList := ⟨_, rfl⟩
    have zl : z.length = l.length := by rw [hl, str_len]
    have dl : (l.drop 1).length ≤ 1000 := by rw [List.length_drop]; omega
    refine ⟨_, rfl, 1, rfl, z, rfl, big, ?_⟩
    rw [show cutS z (some 1) none = SX.S (l.drop 1) by rw [hl]; exact cut_from z 1]
    refine ⟨_, rfl, 1, rfl, z, rfl, big, rfl, ?_⟩
    rw [show cutS z none (some 1) = SX.S (l.take 1) by rw [hl]; exact cut_to z 1]
    refine ⟨_, rfl, ?_⟩
    have kk : ∀ b : Bool, isCommand z = b → ∀ H', Same H H' → Q (.bl b) H' := fun b e H' s => e ▸ k H' s
    unfold isCommand at kk
    rw [← hl] at kk
    by_cases c1 : SX.S (l.take 1) = ("@" : Str)
    · refine iteN (by simp [c1]) ?_
      refine ⟨_, rfl, _, rfl, (by rw [SX.S_len]; exact Nat.le_of_lt (small1000 dl)), ?_⟩
      rw [SX.S_len]
      refine ⟨_, _, rfl, rfl, _, rfl, ?_⟩
      by_cases c2 : 1 ≤ (l.drop 1).length
      · refine iteP (by walk_at "dec") ?_
        refine ⟨_, _, rfl, rfl, _, rfl, ?_⟩
        by_cases c3 : (l.drop 1).length ≤ 8
        · refine iteN (by walk_at "dec") ?_
          refine ⟨_, rfl, _, rfl, fun D hD => lc_pure (H1 := H) ((l.drop 1).map fun c => V.bl (decide (c ∈ cLETTERS.cps.toList))) hD (by rw [List.length_map]; exact Nat.le_of_lt (small1000 dl)) ?_ ?_ ?_ ?_⟩
          · intro i H' hi _
            rw [List.length_map] at hi
            show i < (SX.S (l.drop 1)).cps.size
            simpa using hi
          · intro H' _
            rw [List.length_map]
            show (SX.S (l.drop 1)).cps.size ≤ _
            simp
          · rintro i x H' H'' R Z hi s ⟨rfl, c, hc, rfl⟩ kR
            have hc' : (l.drop 1)[i]? = some c := by simpa using hc
            refine ⟨rfl, ?_⟩
            refine ⟨_, rfl, c, _, rfl, rfl, kR _ _ ?_ (Same.refl _)⟩
            rw [List.getElem?_map, hc']
            rfl
          · intro H' s e
            refine ⟨D, (l.drop 1).map (fun c => decide (c ∈ cLETTERS.cps.toList)), rfl, SqL.of (by rw [e, List.map_map]; rfl), kk _ ?_ H' s⟩
            rw [c1, decide_eq_true c2, decide_eq_true c3, List.all_map]
            rfl
        · refine iteP (by walk_at "dec") ?_
          refine kk _ ?_ H (Same.refl _)
          rw [decide_eq_false c3]
          simp
      · refine iteN (by walk_at "dec") ⟨_, rfl, ?_⟩
        refine iteP (by rfl) ?_
        refine kk _ ?_ H (Same.refl _)
        rw [decide_eq_false c2]
        simp
    · refine iteP (by simp [c1]) ?_
      refine iteP rfl ?_
      refine kk _ ?_ H (Same.refl _)
      rw [beq_false_of_ne c1]
      simp
def spIsSymbol : Sp := fun vs H Q _ => ∃ z : Str, vs = [.str z] ∧ z.length ≤ 1000 ∧ ∀ H', Same H H' → Q (.bl (isSymbol z)) H'
theorem scIsSymbol : FnScope ["word"] ["word"] (defScope sIsSymbol) := ⟨rfl, rfl, rfl, by decide +kernel, rfl, by decide +kernel, by decide +kernel⟩
theorem inV_strs (z : Str) (l : List Str) : inV (.str z) (l.map V.str) = l.any fun r => r == z := by
  unfold inV
  rw [List.any_map]
  rfl
theorem flat_strs (l : List Str) : (l.map V.str).all flatV = true := by
  rw [List.all_map]
  exact List.all_eq_true.mpr fun _ _ => rfl
theorem ok_is_symbol {f : Addr} {fd : FuncData} (F : Fun K "is_symbol" "is_symbol" sIsSymbol f fd) (T : TxtS K mg aR) (C_is_command : Cal P w K mg base CX0 1 "is_command" ["word"] spIsCommand) : FnOk P w K mg base CX0 2 f fd ["word"] spIsSymbol := by
  have sc := scIsSymbol
  refine F.ok scIsSymbol (fun vs H Q E h => ?_) (fun cdv A outer s H vs Q E hr h => ?_)
  · obtain ⟨z, rfl, _⟩ := h
    rfl
  · obtain ⟨z, rfl, hz, k⟩ := h
    have big : z.length ≤ sizeLine := Nat.le_of_lt (small1000 hz)
    have hris_command : Room 1 _ := hr.mono (by decide)
    refine ⟨_, (pss_cons (ps_if (pt_cmpR op_eq (pe_callB call_len_str (by rfl) T.b_len PySem.boot_len (pa_cons (pv 0) pa_nil)) pe_int (nomark _))
  (pss_one (ps_ret (pe_cmpR op_in_sign (pv 0) (pe_gstr rfl T.c_SIGNS) (by rfl))))
  pss_nil)
  (pss_one (ps_ret (pe_and (pe_cal C_is_command hris_command rfl pass0 (pa_cons (pv 0) pa_nil)) (pe_one (pe_cmpR op_notIn_seq (pv 0) (pe_gref rfl T.c_RESERVED) (by rfl))))))), ?_⟩
    unfold isSymbol at k
    rw [← str_len] at k
    refine ⟨_, rfl, z, rfl, big, rfl, _, rfl, ?_⟩
    by_cases c : z.length = 1
    · refine iteP (by simp [c]) ?_
      rw [if_pos c] at k
      have c' : z.cps.toList.length = 1 := by rw [← str_len]; exact c
      obtain ⟨x, hx⟩ := List.length_eq_one_iff.mp c'
      have ez : z = ⟨#[x]⟩ := by
        rw [← SX.S_tl z, hx]
      refine ⟨_, rfl, x, _, by rw [ez], rfl, ?_⟩
      have q := k H (Same.refl _)
      rw [hx, List.all_cons, List.all_nil, Bool.and_true] at q
      exact q
    · refine iteN (by simp only [decide_eq_true_eq]; intro e; injection e with e; omega) ?_
      rw [if_neg c] at k
      refine ⟨_, rfl, z, rfl, hz, fun H1 s1 => ⟨_, rfl, ?_⟩⟩
      by_cases d : isCommand z = true
      · rw [d] at k
        refine iteP d ?_
        refine ⟨_, rfl, aR, _, rfl, .inr (T.k_RESERVED _), rfl, flat_strs _, ?_⟩
        have q := k H1 s1
        rw [Bool.true_and] at q
        show Q (V.bl (!inV (.str z) (cRESERVED.map V.str))) H1
        rw [inV_strs]
        exact q
      · refine iteN d ?_
        have q := k H1 s1
        rw [Bool.not_eq_true] at d
        rw [d, Bool.false_and] at q
        exact q
end
end Mg

set_option Elab.async false
set_option linter.all false
set_option maxRecDepth 100000
set_option maxHeartbeats 400000
namespace Mg
open PySem L2
abbrev sCommandAt : Stmt := top 18
abbrev sTokenAt : Stmt := top 17
def lets : List Nat := cLETTERS.cps.toList
/-- how many letters stand at the front -/
def runL : List Nat → Nat
  | [] => 0
  | c :: r => if c ∈ lets then runL r + 1 else 0
theorem run_in : ∀ {m : List Nat} {i : Nat}, i < runL m → ∃ c, m[i]? = some c ∧ c ∈ lets
  | [], i, h => by cases h
  | c :: r, i, h => by
    unfold runL at h
    split at h
    · rename_i hc
      cases i with
      | zero => exact ⟨c, rfl, hc⟩
      | succ i => exact run_in (m := r) (Nat.lt_of_succ_lt_succ h)
    · cases h
theorem run_out : ∀ {m : List Nat} {c : Nat}, m[runL m]? = some c → c ∉ lets
  | [], c, h => by simp at h
  | d :: r, c, h => by
    unfold runL at h
    split at h
    · exact run_out (m := r) (by simpa using h)
    · rename_i hd
      have e : d = c := by simpa using h
      exact e ▸ hd
theorem run_le : ∀ (m : List Nat), runL m ≤ m.length
  | [] => Nat.le_refl _
  | c :: r => by
    unfold runL
    split
    · exact Nat.succ_le_succ (run_le r)
    · exact Nat.zero_le _
/-- the word of a command at a place of a text: the sign there and the letters behind it; no command: bad -/
def cmdW (l : List Nat) (n : Nat) : Str := SX.S ((l.drop n).take (1 + runL (l.drop (n + 1))))
def cmdAt (l : List Nat) (n : Nat) : Str := if isCommand (cmdW l n) = true then cmdW l n else "bad"
structure TxtTok (mg : Str → Option Value) : Prop where
  b_len : mg "len" = none
  c_LETTERS : ∃ t, mg "LETTERS" = some (.str cLETTERS t)
  c_SIGNS : ∃ t, mg "SIGNS" = some (.str cSIGNS t)
  c_MARKS : ∃ t, mg "MARKS" = some (.str "{}^_&~" t)
  c_BAD : ∃ t, mg "BAD" = some (.str "bad" t)
  c_END : ∃ t, mg "END" = some (.str "end" t)
section
variable {P : Program} {w : World} {K : PySem.W.Frag} {mg : Str → Option Value} {base : Heap}
def spCmdAt : Sp := fun vs H Q _ => ∃ (t : Str) (n : Nat), vs = [.str t, .int (n : Int)] ∧ t.length ≤ 1000 ∧ n < t.length ∧ ∀ H', Same H H' → Q (.str (cmdAt t.cps.toList n)) H'
theorem scCmdAt : FnScope ["text", "at", "end", "word"] ["text", "at"] (defScope sCommandAt) := ⟨rfl, rfl, rfl, by decide +kernel, rfl, by decide +kernel, by decide +kernel⟩
theorem ok_cmdat {f : Addr} {fd : FuncData} (F : Fun K "_command_at" "_command_at" sCommandAt f fd) (T : TxtTok mg) (C_is_command : Cal P w K mg base CX0 1 "is_command" ["word"] spIsCommand) : FnOk P w K mg base CX0 2 f fd ["text", "at"] spCmdAt := by
  have sc := scCmdAt
  refine F.ok scCmdAt (fun vs H Q E h => ?_) (fun cdv A outer s H vs Q E hr h => ?_)
  · obtain ⟨t, n, rfl, _⟩ := h
    rfl
  · obtain ⟨t, n, rfl, ht, hn, k⟩ := h
    have hris_command : Room 1 _ := hr
    have big : t.length ≤ sizeLine := Nat.le_of_lt (small1000 ht)
    refine ⟨_, (pss_cons (ps_set (i := 2) sc.nd rfl (Or.inl rfl) (pe_op op_add (pv 1) pe_int))
  (pss_cons (ps_while PassesOwn.never (PW.pt (pw_and (pt_cmpR op_lt (pv 2) (pe_callB call_len_str (by rfl) T.b_len PySem.boot_len (pa_cons (pv 0) pa_nil)) (nomark _)) (pw_and1 (pt_cmpR op_in_sign (pe_ix ix_str (pv 0) (pv 2) (fun _ _ => rfl)) (pe_gstr rfl T.c_LETTERS) (by rfl)))))
  (pss_one (ps_aug (i := 2) sc.nd rfl (Or.inl rfl) pe_int ip_add)))
  (pss_cons (ps_set (i := 3) sc.nd rfl (Or.inl rfl) (pe_slice sl_str (pv 0) (po_some (pv 1)) (po_some (pv 2))))
  (pss_one (ps_ret (pe_ifExp (pt_val (pe_cal C_is_command hris_command rfl pass0 (pa_cons (pv 3) pa_nil))) (pv 3) (pe_gstr rfl T.c_BAD))))))), ?_⟩
    obtain ⟨l, hl⟩ : ∃ l, t.cps.toList = l := ⟨_, rfl⟩
    have tl : t.length = l.length := by rw [← hl]; rfl
    refine ⟨_, rfl, _, _, rfl, rfl, ?_⟩
    have dl : (l.drop (n + 1)).length = l.length - (n + 1) := List.length_drop
    have rl := run_le (l.drop (n + 1))
    have ew : cutS t (some (n : Int)) (some ((n : Int) + 1 + ((runL (l.drop (n + 1)) : Nat) : Int))) = cmdW l n := by
      have e1 : ((n : Int) + 1 + ((runL (l.drop (n + 1)) : Nat) : Int)) = ((n + 1 + runL (l.drop (n + 1)) : Nat) : Int) := by omega
      unfold cutS cmdW
      rw [e1, HT.sIx_nat, HT.sIx_nat, hl, tl, Nat.min_eq_left (by omega), Nat.min_eq_left (by omega), show n + 1 + runL (l.drop (n + 1)) - n = 1 + runL (l.drop (n + 1)) by omega]
    have wl : (cmdW l n).length ≤ 1000 := by
      unfold cmdW
      rw [SX.S_len, List.length_take, List.length_drop]
      omega
    have fin : (tSeq (tAsg (tSl rSlS (tVar 0) (tPart (tVar 1)) (tPart (tVar 2))) (gName 3)) (tRet (tIf (tB (tCall spIsCommand [] E0 (tCons (tVar 3) tNil))) (tVar 3) (tC (.str "bad"))))) { nx := fun _ H' => Q .non H', rt := Q } [some (.str t), some (.int (n : Int)), some (.int ((n : Int) + 1 + ((runL (l.drop (n + 1)) : Nat) : Int))), none] H := by
      refine ⟨_, rfl, _, rfl, _, rfl, _, rfl, _, rfl, t, rfl, big, ?_⟩
      rw [ew]
      refine ⟨_, rfl, cmdW l n, rfl, wl, fun H1 s1 => ⟨_, rfl, ?_⟩⟩
      have q := k H1 s1
      rw [hl] at q
      unfold cmdAt at q
      cases hc : isCommand (cmdW l n) with
      | true =>
        rw [hc, if_pos rfl] at q
        exact iteT ⟨_, rfl, q⟩
      | false =>
        rw [hc, if_neg Bool.false_ne_true] at q
        exact iteF q
    refine ⟨fun m σ H' => ∃ i : Nat, i ≤ runL (l.drop (n + 1)) ∧ σ = [some (.str t), some (.int (n : Int)), some (.int ((n : Int) + 1 + (i : Int))), none] ∧ H' = H ∧ m = l.length - i, ⟨_, 0, Nat.zero_le _, by simp; rfl, rfl, rfl⟩, ?_⟩
    rintro m σ H' ⟨i, hi, rfl, rfl, rfl⟩
    by_cases c1 : n + 1 + i < l.length
    · refine ⟨_, rfl, _, rfl, t, rfl, big, _, _, rfl, rfl, _, rfl, iteP (decide_eq_true (by rw [tl]; omega)) ?_⟩
      obtain ⟨ch, ec⟩ : ∃ ch, l[n + 1 + i]? = some ch := ⟨_, List.getElem?_eq_getElem c1⟩
      have ed : (l.drop (n + 1))[i]? = some ch := by rw [List.getElem?_drop, ec]
      have ea : atI t.cps.toList ((n : Int) + 1 + (i : Int)) = some ch := by
        rw [hl, show ((n : Int) + 1 + (i : Int)) = ((n + 1 + i : Nat) : Int) by omega]
        exact atI_nat ec
      refine ⟨_, rfl, _, rfl, t, _, _, rfl, rfl, big, ea, _, cLETTERS, rfl, rfl, _, rfl, ?_⟩
      by_cases c2 : i < runL (l.drop (n + 1))
      · obtain ⟨c, q1, q2⟩ := run_in c2
        rw [ed] at q1
        cases q1
        refine iteP (decide_eq_true q2) ?_
        exact ⟨fun σ' H'' => σ' = [some (.str t), some (.int (n : Int)), some (.int ((n : Int) + 1 + ((i + 1 : Nat) : Int))), none] ∧ H'' = H', fun σ' H'' p => ⟨l.length - (i + 1), by omega, i + 1, c2, p.1, p.2, rfl⟩, _, rfl, _, _, rfl, rfl, by simp [Int.add_assoc], rfl⟩
      · have ei : i = runL (l.drop (n + 1)) := by omega
        rw [ei] at ed
        refine iteN (by rw [decide_eq_true_eq]; exact run_out ed) ?_
        subst ei
        exact fin
    · refine ⟨_, rfl, _, rfl, t, rfl, big, _, _, rfl, rfl, _, rfl, iteN (by rw [decide_eq_true_eq, tl]; omega) ?_⟩
      have ei : i = runL (l.drop (n + 1)) := by omega
      subst ei
      exact fin
/-! ### _token_at -/
def cMARKS : Str := "{}^_&~"
def tokAt (l : List Nat) (n : Nat) : Str := match l[n]? with
  | none => "bad"
  | some c => if (⟨#[c]⟩ : Str) = "@" then cmdAt l n else if c ∈ cSIGNS.cps.toList ∨ c ∈ cMARKS.cps.toList then ⟨#[c]⟩ else "bad"
def spTokAt : Sp := fun vs H Q _ => ∃ (t : Str) (n : Nat), vs = [.str t, .int (n : Int)] ∧ t.length ≤ 1000 ∧ n < t.length ∧ ∀ H', Same H H' → Q (.str (tokAt t.cps.toList n)) H'
theorem scTokAt : FnScope ["text", "at", "first"] ["text", "at"] (defScope sTokenAt) := ⟨rfl, rfl, rfl, by decide +kernel, rfl, by decide +kernel, by decide +kernel⟩
theorem ok_tokat {f : Addr} {fd : FuncData} (F : Fun K "_token_at" "_token_at" sTokenAt f fd) (T : TxtTok mg) (C_command_at : Cal P w K mg base CX0 2 "_command_at" ["text", "at"] spCmdAt) : FnOk P w K mg base CX0 3 f fd ["text", "at"] spTokAt := by
  have sc := scTokAt
  refine F.ok scTokAt (fun vs H Q E h => ?_) (fun cdv A outer s H vs Q E hr h => ?_)
  · obtain ⟨t, n, rfl, _⟩ := h
    rfl
  · obtain ⟨t, n, rfl, ht, hn, k⟩ := h
    have hrcommand_at : Room 2 _ := hr
    have big : t.length ≤ sizeLine := Nat.le_of_lt (small1000 ht)
    refine ⟨_, (pss_cons (ps_set (i := 2) sc.nd rfl (Or.inl rfl) (pe_ix ix_str (pv 0) (pv 1) (fun _ _ => rfl)))
  (pss_cons (ps_if (pt_cmpR op_eq (pv 2) pe_str (nomark _))
  (pss_one (ps_ret (pe_cal C_command_at hrcommand_at rfl pass0 (pa_cons (pv 0) (pa_cons (pv 1) pa_nil)))))
  pss_nil)
  (pss_one (ps_ret (pe_ifExp (PW.pt (pw_or (pt_cmpR op_in_sign (pv 2) (pe_gstr rfl T.c_SIGNS) (by rfl)) (pw_or1 (pt_cmpR op_in_sign (pv 2) (pe_gstr rfl T.c_MARKS) (by rfl))))) (pv 2) (pe_gstr rfl T.c_BAD)))))), ?_⟩
    obtain ⟨l, hl⟩ : ∃ l, t.cps.toList = l := ⟨_, rfl⟩
    have tl : t.length = l.length := by rw [← hl]; rfl
    obtain ⟨c, ec⟩ : ∃ c, l[n]? = some c := ⟨_, List.getElem?_eq_getElem (by omega)⟩
    have kk : ∀ w : Str, tokAt l n = w → ∀ H', Same H H' → Q (.str w) H' := fun w e H' s => by
      have q := k H' s
      rw [hl, e] at q
      exact q
    unfold tokAt at kk
    rw [ec] at kk
    refine ⟨_, rfl, _, rfl, t, _, c, rfl, rfl, big, by rw [hl]; exact atI_nat ec, ?_⟩
    refine ⟨_, rfl, rfl, _, rfl, ?_⟩
    by_cases c1 : (⟨#[c]⟩ : Str) = "@"
    · refine iteP (by rw [decide_eq_true_eq, c1]) ?_
      exact ⟨_, rfl, _, rfl, t, n, rfl, ht, hn, fun H1 s1 => kk _ (by rw [hl]; exact if_pos c1) H1 s1⟩
    · refine iteN (by rw [decide_eq_true_eq]; intro z; injection z with z; exact c1 z) ?_
      refine ⟨_, rfl, c, cSIGNS, rfl, rfl, _, rfl, ?_⟩
      by_cases c2 : c ∈ cSIGNS.cps.toList
      · refine iteP (decide_eq_true c2) (iteT ⟨_, rfl, kk _ ?_ H (Same.refl _)⟩)
        show (if (⟨#[c]⟩ : Str) = "@" then cmdAt l n else if c ∈ cSIGNS.cps.toList ∨ c ∈ cMARKS.cps.toList then ⟨#[c]⟩ else "bad") = _
        rw [if_neg c1, if_pos (.inl c2)]
      · refine iteN (by rw [decide_eq_true_eq]; exact c2) ?_
        refine ⟨_, rfl, c, cMARKS, rfl, rfl, _, rfl, ?_⟩
        by_cases c3 : c ∈ cMARKS.cps.toList
        · refine iteP (decide_eq_true c3) ⟨_, rfl, kk _ ?_ H (Same.refl _)⟩
          show (if (⟨#[c]⟩ : Str) = "@" then cmdAt l n else if c ∈ cSIGNS.cps.toList ∨ c ∈ cMARKS.cps.toList then ⟨#[c]⟩ else "bad") = _
          rw [if_neg c1, if_pos (.inr c3)]
        · refine iteN (by rw [decide_eq_true_eq]; exact c3) (kk _ ?_ H (Same.refl _))
          show (if (⟨#[c]⟩ : Str) = "@" then cmdAt l n else if c ∈ cSIGNS.cps.toList ∨ c ∈ cMARKS.cps.toList then ⟨#[c]⟩ else "bad") = _
          rw [if_neg c1, if_neg (fun z => z.elim c2 c3)]
/-! ### tokens_of -/
abbrev sTokensOf : Stmt := top 16
theorem cmdW_len (l : List Nat) (n : Nat) (h : n < l.length) : 1 ≤ (cmdW l n).length ∧ n + (cmdW l n).length ≤ l.length := by
  have rl := run_le (l.drop (n + 1))
  have dl : (l.drop (n + 1)).length = l.length - (n + 1) := List.length_drop
  unfold cmdW
  rw [SX.S_len, List.length_take, List.length_drop]
  omega
theorem tokAt_len {l : List Nat} {n : Nat} (h : n < l.length) (hb : tokAt l n ≠ "bad") : 1 ≤ (tokAt l n).length ∧ n + (tokAt l n).length ≤ l.length := by
  unfold tokAt at hb ⊢
  rw [List.getElem?_eq_getElem h] at hb ⊢
  dsimp only at hb ⊢
  by_cases c1 : (⟨#[l[n]]⟩ : Str) = "@"
  · rw [if_pos c1] at hb ⊢
    unfold cmdAt at hb ⊢
    split at hb
    · rename_i hc
      rw [if_pos hc]
      exact cmdW_len l n h
    · exact absurd rfl hb
  · rw [if_neg c1] at hb ⊢
    split at hb
    · rename_i hc
      rw [if_pos hc]
      exact ⟨Nat.le_refl 1, h⟩
    · exact absurd rfl hb
/-- the tokens of a text from a place on -/
def toksAt (l : List Nat) (n : Nat) : List (Nat × Str) :=
  if h : n < l.length then
    if (⟨#[l[n]]⟩ : Str) = " " then toksAt l (n + 1)
    else if tokAt l n = "bad" then [(n, "bad")] else (n, tokAt l n) :: toksAt l (n + max 1 (tokAt l n).length)
  else [(n, "end")]
termination_by l.length - n
def TokL (K : PySem.W.Frag) (H : Hp) (xs : List V) (ts : List (Nat × Str)) : Prop := xs.length = ts.length ∧ ∀ (j : Nat) (v : V) (p : Nat × Str), xs[j]? = some v → ts[j]? = some p → ∃ a, v = .ref a ∧ SqT K H a [.int (p.1 : Int), .str p.2]
theorem TokL.stay {H H' : Hp} {xs : List V} {ts : List (Nat × Str)} (h : TokL K H xs ts) (s : TupK H H') : TokL K H' xs ts := ⟨h.1, fun j v p h1 h2 => by
  obtain ⟨a, e, q⟩ := h.2 j v p h1 h2
  exact ⟨a, e, s.seq q⟩⟩
theorem TokL.snoc {H : Hp} {xs : List V} {ts : List (Nat × Str)} {a : Addr} {n : Nat} {x : Str} (h : TokL K H xs ts) (ha : SqT K H a [.int (n : Int), .str x]) : TokL K H (xs ++ [.ref a]) (ts ++ [(n, x)]) := by
  refine ⟨by rw [List.length_append, List.length_append, h.1]; rfl, fun j v p h1 h2 => ?_⟩
  by_cases hj : j < xs.length
  · rw [List.getElem?_append_left hj] at h1
    rw [List.getElem?_append_left (by rw [← h.1]; exact hj)] at h2
    exact h.2 j v p h1 h2
  · have ej : j = xs.length := by
      have := (List.getElem?_eq_some_iff.mp h1).1
      rw [List.length_append, List.length_singleton] at this
      omega
    subst ej
    rw [List.getElem?_append_right (Nat.le_refl _), Nat.sub_self] at h1
    rw [List.getElem?_append_right (by rw [h.1]; exact Nat.le_refl _), h.1, Nat.sub_self] at h2
    cases h1
    cases h2
    exact ⟨a, rfl, ha⟩
def spTokensOf (K : PySem.W.Frag) : Sp := fun vs H Q _ => ∃ (t : Str), vs = [.str t] ∧ t.length ≤ 1000 ∧ ∀ (p : Addr) (xs : List V) (H' : Hp), H p = none → Same H H' → H' p = some (.lst xs) → TokL K H' xs (toksAt t.cps.toList 0) → Q (.ref p) H'
theorem scTokensOf : FnScope ["text", "found", "at", "token"] ["text"] (defScope sTokensOf) := ⟨rfl, rfl, rfl, by decide +kernel, rfl, by decide +kernel, by decide +kernel⟩
theorem ok_tokens {f : Addr} {fd : FuncData} (F : Fun K "tokens_of" "tokens_of" sTokensOf f fd) (T : TxtTok mg) (C_token_at : Cal P w K mg base CX0 3 "_token_at" ["text", "at"] spTokAt) : FnOk P w K mg base CX0 4 f fd ["text"] (spTokensOf K) := by
  have sc := scTokensOf
  refine F.ok scTokensOf (fun vs H Q E h => ?_) (fun cdv A outer s H vs Q E hr h => ?_)
  · obtain ⟨t, rfl, _⟩ := h
    rfl
  · obtain ⟨t, rfl, ht, k⟩ := h
    have hrtoken_at : Room 3 _ := hr
    have big : t.length ≤ sizeLine := Nat.le_of_lt (small1000 ht)
    refine ⟨_, (pss_cons (ps_set (i := 1) sc.nd rfl (Or.inl rfl) (pe_lst pa_nil))
  (pss_cons (ps_set (i := 2) sc.nd rfl (Or.inl rfl) pe_int)
  (pss_cons (ps_while PassesOwn.never (pt_cmpR op_lt (pv 2) (pe_callB call_len_str (by rfl) T.b_len PySem.boot_len (pa_cons (pv 0) pa_nil)) (nomark _))
  (pss_one (ps_if (pt_cmpR op_eq (pe_ix ix_str (pv 0) (pv 2) (fun _ _ => rfl)) pe_str (nomark _))
  (pss_one (ps_aug (i := 2) sc.nd rfl (Or.inl rfl) pe_int ip_add))
  (pss_cons (ps_set (i := 3) sc.nd rfl (Or.inl rfl) (pe_cal C_token_at hrtoken_at rfl pass0 (pa_cons (pv 0) (pa_cons (pv 2) pa_nil))))
  (pss_cons (ps_expr (pe_bm PySem.F.plainAttrs_list PySem.F.slot_list_append PySem.F.type_list_append mt_append (pv 1) (pa_cons (pe_tup (pa_cons (pv 2) (pa_cons (pv 3) pa_nil))) pa_nil)))
  (pss_cons (ps_if (pt_cmpR op_eq (pv 3) (pe_gstr rfl T.c_BAD) (nomark _))
  (pss_one (ps_ret (pv 1)))
  pss_nil)
  (pss_one (ps_aug (i := 2) sc.nd rfl (Or.inl rfl) (pe_callB call_len_str (by rfl) T.b_len PySem.boot_len (pa_cons (pv 3) pa_nil)) ip_add))))))))
  (pss_cons (ps_expr (pe_bm PySem.F.plainAttrs_list PySem.F.slot_list_append PySem.F.type_list_append mt_append (pv 1) (pa_cons (pe_tup (pa_cons (pv 2) (pa_cons (pe_gstr rfl T.c_END) pa_nil))) pa_nil)))
  (pss_one (ps_ret (pv 1))))))), ?_⟩
    obtain ⟨l, hl⟩ : ∃ l, t.cps.toList = l := ⟨_, rfl⟩
    have tl : t.length = l.length := by rw [← hl]; rfl
    rw [hl] at k
    refine ⟨Nat.zero_le _, fun p np => ?_⟩
    refine ⟨fun m σ H' => ∃ (n : Nat) (x3 : Option V) (xs : List V) (pre : List (Nat × Str)), n ≤ l.length ∧ m = l.length - n ∧ σ = [some (.str t), some (.ref p), some (.int (n : Int)), x3] ∧ Same H H' ∧ H' p = some (.lst xs) ∧ TokL K H' xs pre ∧ pre.length ≤ n ∧ pre ++ toksAt l n = toksAt l 0,
      ⟨_, 0, none, [], [], Nat.zero_le _, rfl, rfl, same_new np, upd_same, ⟨rfl, fun j v q h => by simp at h⟩, Nat.le_refl _, rfl⟩, ?_⟩
    rintro m σ H' ⟨n, x3, xs, pre, hn, rfl, rfl, s1, eP, tk, pl, et⟩
    by_cases c1 : n < l.length
    · refine ⟨_, rfl, _, rfl, t, rfl, big, _, _, rfl, rfl, _, rfl, iteP (decide_eq_true (by rw [tl]; omega)) ?_⟩
      have ec : l[n]? = some l[n] := List.getElem?_eq_getElem c1
      have ea : atI t.cps.toList (n : Int) = some l[n] := by rw [hl]; exact atI_nat ec
      refine ⟨fun σ' H'' => ∃ (n' : Nat) (x3 : Option V) (xs : List V) (pre : List (Nat × Str)), n < n' ∧ n' ≤ l.length ∧ σ' = [some (.str t), some (.ref p), some (.int (n' : Int)), x3] ∧ Same H H'' ∧ H'' p = some (.lst xs) ∧ TokL K H'' xs pre ∧ pre.length ≤ n' ∧ pre ++ toksAt l n' = toksAt l 0,
        fun σ' H'' ⟨n', x3, xs, pre, q1, q2, q3⟩ => ⟨l.length - n', by omega, n', x3, xs, pre, q2, rfl, q3⟩, ?_⟩
      refine ⟨_, rfl, _, rfl, t, _, _, rfl, rfl, big, ea, rfl, _, rfl, ?_⟩
      by_cases c2 : (⟨#[l[n]]⟩ : Str) = " "
      · refine iteP (by rw [decide_eq_true_eq, c2]) ?_
        refine ⟨_, rfl, _, _, rfl, rfl, n + 1, x3, xs, pre, Nat.lt_succ_self _, c1, rfl, s1, eP, tk, by omega, ?_⟩
        rw [← et, toksAt.eq_1 l n, dif_pos c1, if_pos c2]
      · refine iteN (by rw [decide_eq_true_eq]; intro z; injection z with z; exact c2 z) ?_
        refine ⟨_, rfl, _, rfl, t, n, rfl, ht, by omega, fun H1 s2 => ?_⟩
        rw [hl]
        have eP1 := s2 _ _ eP
        refine ⟨_, rfl, .inl ⟨rfl, _, SqL.of eP1⟩, _, rfl, _, rfl, (by show 2 ≤ sizeLine; decide), fun tt nt => ?_⟩
        have st : Same H1 (upd H1 tt (.tup [.int (n : Int), .str (tokAt l n)])) := same_new nt
        have ntp : tt ≠ p := fun e => by
          rw [e, eP1] at nt
          cases nt
        refine ⟨p, _, _, rfl, rfl, st _ _ eP1, by rw [tk.1]; exact small1000 (by omega), ?_⟩
        have kt : TupK (upd H1 tt (.tup [.int (n : Int), .str (tokAt l n)])) (upd (upd H1 tt (.tup [.int (n : Int), .str (tokAt l n)])) p (.lst (xs ++ [.ref tt]))) := TupK.keep keep_upd (st _ _ eP1)
        have tk3 := (tk.stay (((TupK.of s2).trans (TupK.of st)).trans kt)).snoc (a := tt) (n := n) (x := tokAt l n) (SqT.of ((upd_ne ntp).trans upd_same))
        have s3 : Same H (upd (upd H1 tt (.tup [.int (n : Int), .str (tokAt l n)])) p (.lst (xs ++ [.ref tt]))) := same_upd_new ((s1.trans s2).trans st) np
        refine ⟨_, rfl, rfl, _, rfl, ?_⟩
        by_cases c3 : tokAt l n = "bad"
        · refine iteP (by rw [decide_eq_true_eq, c3]) ⟨_, rfl, k p _ _ np s3 upd_same ?_⟩
          rw [← et, toksAt.eq_1 l n, dif_pos c1, if_neg c2, if_pos c3]
          rw [c3] at tk3 ⊢
          exact tk3
        · refine iteN (by rw [decide_eq_true_eq]; intro z; injection z with z; exact c3 z) ?_
          obtain ⟨w1, w2⟩ := tokAt_len c1 c3
          refine ⟨_, rfl, _, rfl, tokAt l n, rfl, Nat.le_of_lt (small1000 (by omega)), _, _, rfl, rfl, n + (tokAt l n).length, _, _, _, by omega, w2, by rfl, s3, upd_same, tk3, by rw [List.length_append, List.length_singleton]; omega, ?_⟩
          rw [← et, toksAt.eq_1 l n, dif_pos c1, if_neg c2, if_neg c3, Nat.max_eq_right w1, List.append_assoc]
          rfl
    · refine ⟨_, rfl, _, rfl, t, rfl, big, _, _, rfl, rfl, _, rfl, iteN (by rw [decide_eq_true_eq, tl]; omega) ?_⟩
      refine ⟨_, rfl, .inl ⟨rfl, _, SqL.of eP⟩, _, rfl, (by show 2 ≤ sizeLine; decide), fun tt nt => ?_⟩
      have st : Same H' (upd H' tt (.tup [.int (n : Int), .str "end"])) := same_new nt
      have ntp : tt ≠ p := fun e => by
        rw [e, eP] at nt
        cases nt
      refine ⟨p, _, _, rfl, rfl, st _ _ eP, by rw [tk.1]; exact small1000 (by omega), ?_⟩
      have kt : TupK (upd H' tt (.tup [.int (n : Int), .str "end"])) (upd (upd H' tt (.tup [.int (n : Int), .str "end"])) p (.lst (xs ++ [.ref tt]))) := TupK.keep keep_upd (st _ _ eP)
      have tk3 := (tk.stay ((TupK.of st).trans kt)).snoc (a := tt) (n := n) (x := "end") (SqT.of ((upd_ne ntp).trans upd_same))
      refine ⟨_, rfl, k p _ _ np (same_upd_new (s1.trans st) np) upd_same ?_⟩
      rw [← et, toksAt.eq_1 l n, dif_neg c1]
      exact tk3
end
end Mg

set_option Elab.async false
set_option linter.all false
set_option maxRecDepth 100000
set_option maxHeartbeats 2000000
namespace Mg
open PySem L2
structure ExB (K : PySem.W.Frag) (mg : Str → Option Value) (x : Str) (C : Addr) : Prop where
  g : mg x = some (.ref C)
  x : PySem.W.excIn K C [.type "ValueError", .type "Exception", .type "BaseException", .type "object"] "ValueError.__new__" = true
  k : PySem.W.keepIn K (.ref C) = true
  b : PySem.W.subIn K (.ref C) (.type "BaseException") = some true
  t : PySem.W.typeIn K (.ref C) = some (.type "type")
end Mg

set_option Elab.async false
set_option linter.all false
set_option maxRecDepth 100000
set_option maxHeartbeats 2000000
namespace Mg
open PySem L2
structure CalM (P : Program) (w : World) (K : PySem.W.Frag) (mg : Str → Option Value) (base : Heap) (CX : CXT) (k : Nat) (C : Addr) (m : Str) (ps : List Str) (sp : Sp) : Prop where
  ex : ∃ (f : Addr) (fd : FuncData), FnOk P w K mg base CX k f fd ps sp ∧ Meth K C m f ∧ Binds K fd ps []
section
variable {X : Cx} {CX : CXT} {k : Nat} {C : Addr} {ps : List Str} {sp : Sp} {E : XK} {m : Str} {apos pos : Pos} {o e : Expr} {es : List Expr} {t : TA} {ta : TE}
theorem pe_calm {pl : Sem Bool} (he : PE X o ta) (cl : Cls X.K C) (c : CalM X.prog X.w X.K X.mg X.base CX k C m ps sp) (hr : Room k X.A) (hx : Passes CX X E) (ha : PA X (e :: es) t)
    (h1 : starEach (e :: es) X.env = (false, eval e X.env) :: starEach es X.env := by rfl) (h2 : (backTo pos (starEach es X.env)).any (·.1) = false := by rfl)
    (h3 : eval (.Call (.Attribute o m apos) (e :: es) [] pos) X.env = (do let ov ← eval o X.env; standAt apos.atName; let (f, first) ← holding [ov] (getMethod ov m pl); callWith pos f first (backTo pos (starEach (e :: es) X.env)) (backToKw pos (keywordEach [] X.env))) := by rfl) :
    PE X (.Call (.Attribute o m apos) (e :: es) [] pos) (tMeth C m sp [] E ta t) := by
  obtain ⟨f, fd, F, hm, hb⟩ := c.ex
  exact pe_meth (pl := pl) he cl hm F hr hb .nil hx ha h1 h2 h3
theorem pe_calm0 {pl : Sem Bool} (he : PE X o ta) (cl : Cls X.K C) (c : CalM X.prog X.w X.K X.mg X.base CX k C m ps sp) (hr : Room k X.A) (hx : Passes CX X E)
    (h3 : eval (.Call (.Attribute o m apos) [] [] pos) X.env = (do let ov ← eval o X.env; standAt apos.atName; let (f, first) ← holding [ov] (getMethod ov m pl); callWith pos f first (backTo pos (starEach [] X.env)) (backToKw pos (keywordEach [] X.env))) := by rfl) :
    PE X (.Call (.Attribute o m apos) [] [] pos) (tMeth C m sp [] E ta tNil) := by
  obtain ⟨f, fd, F, hm, hb⟩ := c.ex
  exact pe_meth0 (pl := pl) he cl hm F hr hb .nil hx h3
end
theorem passX {P : Program} {w : World} {K : PySem.W.Frag} {mg : Str → Option Value} {base : Heap} {N : List Str} {qual : Str} {sc : Scope} {f : Addr} {cdv : Value} {A : Around} {outer : List Env} {s : Shared} {H : Hp} {E : XK} :
    Passes (L2.CX P w) (cxOf (L2.CX P w) P w K mg base N qual sc f cdv A outer s H E) E := passes_call (takes_of rfl rfl rfl rfl) fun _ _ _ _ h => h
end Mg

set_option Elab.async false
set_option linter.all false
set_option maxRecDepth 100000
set_option maxHeartbeats 4000000
namespace Mg
open PySem L2
abbrev sNames : Stmt := top 45
def nms : List Str := ["x", "a", "2", "+", "=", "(", ")", ",", "@sum", "@alpha", "-", "!"]
section
variable {P : Program} {w : World} {K : PySem.W.Frag} {mg : Str → Option Value} {base : Heap}
def spNames : Sp := fun vs H Q _ => vs = [] ∧ ∀ l, H l = none → Q (.ref l) (upd H l (.lst (nms.map V.str)))
theorem scNames : FnScope [] [] (defScope sNames) := ⟨rfl, rfl, rfl, by decide +kernel, rfl, by decide +kernel, by decide +kernel⟩
theorem ok_names {f : Addr} {fd : FuncData} (F : Fun K "_law_names" "_law_names" sNames f fd) : FnOk P w K mg base CX0 1 f fd [] spNames := by
  have sc := scNames
  refine F.ok scNames (fun vs H Q E h => ?_) (fun cdv A outer s H vs Q E hr h => ?_)
  · obtain ⟨rfl, _⟩ := h
    rfl
  · obtain ⟨rfl, k⟩ := h
    refine ⟨_, (pss_one (ps_ret (pe_lst (pa_cons pe_str (pa_cons pe_str (pa_cons pe_str (pa_cons pe_str (pa_cons pe_str (pa_cons pe_str (pa_cons pe_str (pa_cons pe_str (pa_cons pe_str (pa_cons pe_str (pa_cons pe_str (pa_cons pe_str pa_nil))))))))))))))), ?_⟩
    exact ⟨(by show 12 ≤ sizeLine; decide), k⟩
theorem Stream.new {H H' : Hp} {st pd pl : Addr} (S : Stream H st pd pl) (s : Same H H') : Stream H' st pd pl := by
  obtain ⟨n1, n2, ds, k, h1, h2, h3, r⟩ := S
  exact ⟨n1, n2, ds, k, s _ _ h1, s _ _ h2, s _ _ h3, r⟩
theorem Stream.pl {H : Hp} {st pd pl : Addr} (S : Stream H st pd pl) : ∃ k : Int, H pl = some (.lst [.int k]) := by
  obtain ⟨n1, n2, ds, k, h1, h2, h3, r⟩ := S
  exact ⟨k, h3⟩
theorem Stream.at {H : Hp} {st pd pl : Addr} (S : Stream H st pd pl) : ∃ o, H st = some o := by
  obtain ⟨n1, n2, ds, k, h1, h2, h3, r⟩ := S
  exact ⟨_, h1⟩
end
end Mg

set_option Elab.async false
set_option linter.all false
set_option maxRecDepth 100000
set_option maxHeartbeats 400000
namespace Mg
open PySem L2
/-! formulas as they are meant; as data; what the program's walks find in them -/
mutual
inductive FRow where
  | nil | cons (i : FItem) (r : FRow)
inductive FItem where
  | mk (n : FNuc) (b a : FScr)
inductive FScr where
  | no | yes (r : FRow)
inductive FNuc where
  | sym (x : Str) | group (r : FRow) | frac (o u : FRow) | root (r : FRow) | fence (o c : Option Str) (r : FRow) | grid (g : FGrid)
inductive FGrid where
  | nil | cons (c : FCells) (g : FGrid)
inductive FCells where
  | nil | cons (r : FRow) (c : FCells)
end
def optD : Option Str → PyData
  | none => .none
  | some x => .str x
mutual
def FRow.ds : FRow → List PyData
  | .nil => []
  | .cons i r => i.d :: r.ds
def FItem.d : FItem → PyData
  | .mk n b a => .tuple [n.d, b.d, a.d]
def FScr.d : FScr → PyData
  | .no => .none
  | .yes r => .tuple r.ds
def FNuc.d : FNuc → PyData
  | .sym x => .tuple [.str "symbol", .str x]
  | .group r => .tuple [.str "group", .tuple r.ds]
  | .frac o u => .tuple [.str "frac", .tuple o.ds, .tuple u.ds]
  | .root r => .tuple [.str "root", .tuple r.ds]
  | .fence o c r => .tuple [.str "fence", optD o, optD c, .tuple r.ds]
  | .grid g => .tuple [.str "grid", .tuple g.ds]
def FGrid.ds : FGrid → List PyData
  | .nil => []
  | .cons c g => .tuple c.ds :: g.ds
def FCells.ds : FCells → List PyData
  | .nil => []
  | .cons r c => .tuple r.ds :: c.ds
end
def FRow.d (r : FRow) : PyData := .tuple r.ds
def FCells.d (c : FCells) : PyData := .tuple c.ds
/-! as lists -/
def FRow.items : FRow → List FItem
  | .nil => []
  | .cons i r => i :: r.items
def FRow.of : List FItem → FRow
  | [] => .nil
  | i :: r => .cons i (FRow.of r)
def FGrid.lines : FGrid → List FCells
  | .nil => []
  | .cons c g => c :: g.lines
def FGrid.of : List FCells → FGrid
  | [] => .nil
  | c :: g => .cons c (FGrid.of g)
def FCells.rows : FCells → List FRow
  | .nil => []
  | .cons r c => r :: c.rows
def FCells.of : List FRow → FCells
  | [] => .nil
  | r :: c => .cons r (FCells.of c)
theorem FRow.ds_eq : ∀ r : FRow, r.ds = r.items.map FItem.d
  | .nil => rfl
  | .cons i r => by rw [FRow.ds, FRow.items, List.map_cons, FRow.ds_eq r]
theorem FGrid.ds_eq : ∀ g : FGrid, g.ds = g.lines.map FCells.d
  | .nil => rfl
  | .cons c g => by rw [FGrid.ds, FGrid.lines, List.map_cons, FGrid.ds_eq g, FCells.d]
theorem FCells.ds_eq : ∀ c : FCells, c.ds = c.rows.map FRow.d
  | .nil => rfl
  | .cons r c => by rw [FCells.ds, FCells.rows, List.map_cons, FCells.ds_eq c, FRow.d]
theorem FRow.items_of : ∀ l : List FItem, (FRow.of l).items = l
  | [] => rfl
  | i :: l => by rw [FRow.of, FRow.items, FRow.items_of l]
theorem FGrid.lines_of : ∀ l : List FCells, (FGrid.of l).lines = l
  | [] => rfl
  | i :: l => by rw [FGrid.of, FGrid.lines, FGrid.lines_of l]
theorem FCells.rows_of : ∀ l : List FRow, (FCells.of l).rows = l
  | [] => rfl
  | i :: l => by rw [FCells.of, FCells.rows, FCells.rows_of l]
theorem FRow.of_items : ∀ r : FRow, FRow.of r.items = r
  | .nil => rfl
  | .cons i r => by rw [FRow.items, FRow.of, FRow.of_items r]
/-! the rows directly in -/
def FScr.rows : FScr → List FRow
  | .no => []
  | .yes r => [r]
def FGrid.all : FGrid → List FRow
  | .nil => []
  | .cons c g => c.rows ++ g.all
def FNuc.rows : FNuc → List FRow
  | .sym _ => []
  | .group r => [r]
  | .frac o u => [o, u]
  | .root r => [r]
  | .fence _ _ r => [r]
  | .grid g => g.all
def FItem.nuc : FItem → FNuc
  | .mk n _ _ => n
def FItem.bel : FItem → FScr
  | .mk _ b _ => b
def FItem.abv : FItem → FScr
  | .mk _ _ a => a
def FItem.rows : FItem → List FRow
  | .mk n b a => n.rows ++ (b.rows ++ a.rows)
theorem FGrid.all_eq : ∀ g : FGrid, g.all = g.lines.flatMap FCells.rows
  | .nil => rfl
  | .cons c g => by rw [FGrid.all, FGrid.lines, List.flatMap_cons, FGrid.all_eq g]
/-! all rows within, in preorder -/
mutual
def FRow.inn : FRow → List FRow
  | .nil => []
  | .cons i r => i.inn ++ r.inn
def FItem.inn : FItem → List FRow
  | .mk n b a => n.inn ++ (b.inn ++ a.inn)
def FScr.inn : FScr → List FRow
  | .no => []
  | .yes r => r :: r.inn
def FNuc.inn : FNuc → List FRow
  | .sym _ => []
  | .group r => r :: r.inn
  | .frac o u => (o :: o.inn) ++ (u :: u.inn)
  | .root r => r :: r.inn
  | .fence _ _ r => r :: r.inn
  | .grid g => g.inn
def FGrid.inn : FGrid → List FRow
  | .nil => []
  | .cons c g => c.inn ++ g.inn
def FCells.inn : FCells → List FRow
  | .nil => []
  | .cons r c => (r :: r.inn) ++ c.inn
end
def FRow.pre (r : FRow) : List FRow := r :: r.inn
theorem FRow.inn_eq : ∀ r : FRow, r.inn = r.items.flatMap FItem.inn
  | .nil => rfl
  | .cons i r => by rw [FRow.inn, FRow.items, List.flatMap_cons, FRow.inn_eq r]
theorem FCells.inn_eq : ∀ c : FCells, c.inn = c.rows.flatMap FRow.pre
  | .nil => rfl
  | .cons r c => by rw [FCells.inn, FCells.rows, List.flatMap_cons, FCells.inn_eq c, FRow.pre]
theorem FGrid.inn_eq : ∀ g : FGrid, g.inn = g.all.flatMap FRow.pre
  | .nil => rfl
  | .cons c g => by rw [FGrid.inn, FGrid.all, List.flatMap_append, FGrid.inn_eq g, FCells.inn_eq]
theorem FScr.inn_eq (s : FScr) : s.inn = s.rows.flatMap FRow.pre := by
  cases s <;> simp [FScr.inn, FScr.rows, FRow.pre]
theorem FNuc.inn_eq (n : FNuc) : n.inn = n.rows.flatMap FRow.pre := by
  cases n <;> simp [FNuc.inn, FNuc.rows, FRow.pre, FGrid.inn_eq]
theorem FItem.inn_eq (i : FItem) : i.inn = i.rows.flatMap FRow.pre := by
  cases i with
  | mk n b a => rw [FItem.inn, FItem.rows, FNuc.inn_eq, FScr.inn_eq, FScr.inn_eq, List.flatMap_append, List.flatMap_append]
/-! how deep -/
mutual
def FRow.dep : FRow → Nat
  | .nil => 0
  | .cons i r => max i.dep r.dep
def FItem.dep : FItem → Nat
  | .mk n b a => max n.dep (max b.dep a.dep)
def FScr.dep : FScr → Nat
  | .no => 0
  | .yes r => r.dep + 1
def FNuc.dep : FNuc → Nat
  | .sym _ => 0
  | .group r => r.dep + 1
  | .frac o u => max (o.dep + 1) (u.dep + 1)
  | .root r => r.dep + 1
  | .fence _ _ r => r.dep + 1
  | .grid g => g.dep
def FGrid.dep : FGrid → Nat
  | .nil => 0
  | .cons c g => max c.dep g.dep
def FCells.dep : FCells → Nat
  | .nil => 0
  | .cons r c => max (r.dep + 1) c.dep
end
theorem FRow.dep_le {n : Nat} : ∀ {r : FRow}, r.dep ≤ n ↔ ∀ i ∈ r.items, i.dep ≤ n
  | .nil => by simp [FRow.dep, FRow.items]
  | .cons i r => by
    rw [FRow.dep, FRow.items, List.forall_mem_cons, ← FRow.dep_le (r := r)]
    omega
theorem FCells.dep_le {n : Nat} : ∀ {c : FCells}, c.dep ≤ n ↔ ∀ r ∈ c.rows, r.dep + 1 ≤ n
  | .nil => by simp [FCells.dep, FCells.rows]
  | .cons r c => by
    rw [FCells.dep, FCells.rows, List.forall_mem_cons, ← FCells.dep_le (c := c)]
    omega
theorem FGrid.dep_le {n : Nat} : ∀ {g : FGrid}, g.dep ≤ n ↔ ∀ r ∈ g.all, r.dep + 1 ≤ n
  | .nil => by simp [FGrid.dep, FGrid.all]
  | .cons c g => by
    rw [FGrid.dep, FGrid.all, List.forall_mem_append, ← FGrid.dep_le (g := g), ← FCells.dep_le]
    omega
theorem FScr.dep_le {n : Nat} {s : FScr} : s.dep ≤ n ↔ ∀ r ∈ s.rows, r.dep + 1 ≤ n := by
  cases s <;> simp [FScr.dep, FScr.rows]
theorem FNuc.dep_le {n : Nat} {s : FNuc} : s.dep ≤ n ↔ ∀ r ∈ s.rows, r.dep + 1 ≤ n := by
  cases s with
  | grid g => exact FGrid.dep_le
  | frac o u => simp [FNuc.dep, FNuc.rows]; omega
  | _ => simp [FNuc.dep, FNuc.rows]
theorem FItem.dep_le {n : Nat} {i : FItem} : i.dep ≤ n ↔ ∀ r ∈ i.rows, r.dep + 1 ≤ n := by
  cases i with
  | mk m b a =>
    rw [FItem.dep, FItem.rows, List.forall_mem_append, List.forall_mem_append, ← FNuc.dep_le, ← FScr.dep_le, ← FScr.dep_le]
    omega
/-! the words of the normal text -/
def delimW : Option Str → Str
  | none => "."
  | some x => x
mutual
def FRow.words : FRow → List Str
  | .nil => []
  | .cons i r => i.words ++ r.words
def FItem.words : FItem → List Str
  | .mk n b a => n.words ++ (b.words "_" ++ a.words "^")
def FScr.words (s : Str) : FScr → List Str
  | .no => []
  | .yes r => s :: "{" :: (r.words ++ [("}" : Str)])
def FNuc.words : FNuc → List Str
  | .sym x => [x]
  | .group r => "{" :: (r.words ++ [("}" : Str)])
  | .frac o u => "@frac" :: "{" :: (o.words ++ (("}" : Str) :: "{" :: (u.words ++ [("}" : Str)])))
  | .root r => "@root" :: "{" :: (r.words ++ [("}" : Str)])
  | .fence o c r => "@left" :: delimW o :: (r.words ++ [("@right" : Str), delimW c])
  | .grid g => "@grid" :: (g.words "{" ++ [("}" : Str)])
def FGrid.words (s : Str) : FGrid → List Str
  | .nil => []
  | .cons c g => c.words s ++ g.words "~"
def FCells.words (s : Str) : FCells → List Str
  | .nil => []
  | .cons r c => s :: (r.words ++ c.words "&")
end
theorem FRow.words_eq : ∀ r : FRow, r.words = r.items.flatMap FItem.words
  | .nil => rfl
  | .cons i r => by rw [FRow.words, FRow.items, List.flatMap_cons, FRow.words_eq r]
def braceW (r : FRow) : List Str := "{" :: (r.words ++ [("}" : Str)])
/-! sizes: the number of words -/
theorem words_item : ∀ {r : FRow} {i : FItem}, i ∈ r.items → i.words.length ≤ r.words.length
  | .nil, _, h => nomatch h
  | .cons q r, i, h => by
    rw [FRow.words, List.length_append]
    rcases List.mem_cons.mp h with rfl | h
    · omega
    · have := words_item h
      omega
theorem words_cells : ∀ {c : FCells} {r : FRow} {s : Str}, r ∈ c.rows → r.words.length < (c.words s).length
  | .nil, _, _, h => nomatch h
  | .cons q c, r, s, h => by
    rw [FCells.words, List.length_cons, List.length_append]
    rcases List.mem_cons.mp h with rfl | h
    · omega
    · have := words_cells (s := "&") h
      omega
theorem words_grid : ∀ {g : FGrid} {r : FRow} {s : Str}, r ∈ g.all → r.words.length < (g.words s).length
  | .nil, _, _, h => nomatch h
  | .cons q c, r, s, h => by
    rw [FGrid.words, List.length_append]
    rcases List.mem_append.mp h with h | h
    · have := words_cells (s := s) h
      omega
    · have := words_grid (s := "~") h
      omega
theorem words_nuc {n : FNuc} {r : FRow} (h : r ∈ n.rows) : r.words.length < n.words.length := by
  cases n with
  | sym x => cases h
  | group q => cases List.mem_singleton.mp h; simp [FNuc.words]; omega
  | root q => cases List.mem_singleton.mp h; simp [FNuc.words]; omega
  | fence o c q => cases List.mem_singleton.mp h; simp [FNuc.words]; omega
  | frac o u =>
    rcases List.mem_cons.mp h with rfl | h
    · simp [FNuc.words]; omega
    · cases List.mem_singleton.mp h; simp [FNuc.words]; omega
  | grid g =>
    have := words_grid (s := "{") h
    simp [FNuc.words]; omega
theorem words_scr {n : FScr} {r : FRow} {s : Str} (h : r ∈ n.rows) : r.words.length < (n.words s).length := by
  cases n with
  | no => cases h
  | yes q => cases List.mem_singleton.mp h; simp [FScr.words]; omega
theorem words_rows {i : FItem} {r : FRow} (h : r ∈ i.rows) : r.words.length < i.words.length := by
  cases i with
  | mk n b a =>
    rw [FItem.words, List.length_append, List.length_append]
    rcases List.mem_append.mp h with h | h
    · have := words_nuc h
      omega
    rcases List.mem_append.mp h with h | h
    · have := words_scr (s := "_") h
      omega
    · have := words_scr (s := "^") h
      omega
end Mg

set_option Elab.async false
set_option linter.all false
set_option maxRecDepth 100000
set_option maxHeartbeats 1000000
namespace Mg
open PySem PySem.Spec PyProof.Rows L2
/-! values that are data made of tuples -/
inductive TpL (K : PySem.W.Frag) (H : Hp) : List V → List PyData → Prop
  | nil : TpL K H [] []
  | cons {v : V} {d : PyData} {vs : List V} {ds : List PyData} : Tp K H v d → TpL K H vs ds → TpL K H (v :: vs) (d :: ds)
section
variable {K : PySem.W.Frag} {H H' : Hp}
theorem TpL.stay (s : TupK H H') : ∀ {vs : List V} {ds : List PyData}, TpL K H vs ds → TpL K H' vs ds
  | _, _, .nil => .nil
  | _, _, .cons a b => .cons (a.stay s) (TpL.stay s b)
theorem TpL.len : ∀ {vs : List V} {ds : List PyData}, TpL K H vs ds → vs.length = ds.length
  | _, _, .nil => rfl
  | _, _, .cons _ b => by rw [List.length_cons, List.length_cons, TpL.len b]
theorem TpL.get : ∀ {vs : List V} {ds : List PyData} {i : Nat} {d : PyData}, TpL K H vs ds → ds[i]? = some d → ∃ v, vs[i]? = some v ∧ Tp K H v d
  | _, _, _, _, .nil, e => by simp at e
  | _, _, 0, _, .cons a _, e => by
    cases Option.some.inj e
    exact ⟨_, rfl, a⟩
  | _, _, i + 1, _, .cons _ b, e => by
    obtain ⟨v, h1, h2⟩ := TpL.get (i := i) b e
    exact ⟨v, h1, h2⟩
theorem TpL.get' : ∀ {vs : List V} {ds : List PyData} {i : Nat} {v : V}, TpL K H vs ds → vs[i]? = some v → ∃ d, ds[i]? = some d ∧ Tp K H v d
  | _, _, _, _, .nil, e => by simp at e
  | _, _, 0, _, .cons a _, e => by
    cases Option.some.inj e
    exact ⟨_, rfl, a⟩
  | _, _, i + 1, _, .cons _ b, e => by
    obtain ⟨v, h1, h2⟩ := TpL.get' (i := i) b e
    exact ⟨v, h1, h2⟩
theorem TpL.app : ∀ {vs us : List V} {ds es : List PyData}, TpL K H vs ds → TpL K H us es → TpL K H (vs ++ us) (ds ++ es)
  | _, _, _, _, .nil, g => g
  | _, _, _, _, .cons a b, g => .cons a (TpL.app b g)
theorem TpL.one {v : V} {d : PyData} (h : Tp K H v d) : TpL K H [v] [d] := .cons h .nil
theorem TpL.of : ∀ {ds : List PyData} {xs : List V}, xs.length = ds.length → (∀ (i : Nat) (x : V) (d : PyData), xs[i]? = some x → ds[i]? = some d → Tp K H x d) → TpL K H xs ds
  | [], [], _, _ => .nil
  | [], _ :: _, e, _ => by simp at e
  | _ :: _, [], e, _ => by simp at e
  | d :: ds, x :: xs, e, h => .cons (h 0 x d rfl rfl) (TpL.of (by simpa using e) fun i y z h1 h2 => h (i + 1) y z h1 h2)
theorem TpL.at {vs : List V} {ds : List PyData} {i : Nat} {x : V} {d : PyData} (h : TpL K H vs ds) (h1 : vs[i]? = some x) (h2 : ds[i]? = some d) : Tp K H x d := by
  obtain ⟨v, a, b⟩ := h.get h2
  rw [h1] at a
  cases a
  exact b
theorem TpL.drop : ∀ {vs : List V} {ds : List PyData} (n : Nat), TpL K H vs ds → TpL K H (vs.drop n) (ds.drop n)
  | _, _, 0, h => h
  | _, _, n + 1, .nil => .nil
  | _, _, n + 1, .cons _ b => TpL.drop n b
theorem TpL.take : ∀ {vs : List V} {ds : List PyData} (n : Nat), TpL K H vs ds → TpL K H (vs.take n) (ds.take n)
  | _, _, 0, h => .nil
  | _, _, n + 1, .nil => .nil
  | _, _, n + 1, .cons a b => .cons a (TpL.take n b)
theorem Tp.mk {a : Addr} {xs : List V} {ds : List PyData} (s : SqT K H a xs) (h : TpL K H xs ds) : Tp K H (.ref a) (.tuple ds) := .tup s h.len fun i x d h1 h2 => h.at h1 h2
theorem Tp.inv {v : V} {ds : List PyData} (h : Tp K H v (.tuple ds)) : ∃ a xs, v = .ref a ∧ SqT K H a xs ∧ TpL K H xs ds := by
  cases h with
  | tup s l g => exact ⟨_, _, rfl, s, TpL.of l g⟩
theorem tp_int {v : V} {i : Int} (h : Tp K H v (.int i)) : v = .int i := by cases h; rfl
theorem tp_str {v : V} {i : Str} (h : Tp K H v (.str i)) : v = .str i := by cases h; rfl
theorem tp_bool {v : V} {i : Bool} (h : Tp K H v (.bool i)) : v = .bl i := by cases h; rfl
theorem tp_non {v : V} (h : Tp K H v .none) : v = .non := by cases h; rfl
theorem TpL.dp : ∀ {vs : List V} {ds : List PyData}, TpL K H vs ds → DpAll K H vs ds
  | _, _, .nil => .nil
  | _, _, .cons a b => .cons a.dp (TpL.dp b)
theorem TpL.strs : ∀ {vs : List V} {ws : List Str}, TpL K H vs (ws.map PyData.str) → vs = ws.map V.str
  | _, [], h => by cases h; rfl
  | _, w :: ws, h => by
    cases h with
    | cons a b => rw [List.map_cons, tp_str a, TpL.strs b]
theorem TpL.ints : ∀ {vs : List V} {ws : List Int}, TpL K H vs (ws.map PyData.int) → vs = ws.map V.int
  | _, [], h => by cases h; rfl
  | _, w :: ws, h => by
    cases h with
    | cons a b => rw [List.map_cons, tp_int a, TpL.ints b]
theorem TpL.of_strs : ∀ (ws : List Str), TpL K H (ws.map V.str) (ws.map PyData.str)
  | [] => .nil
  | w :: ws => .cons (.str w) (TpL.of_strs ws)
theorem TpL.of_ints : ∀ (ws : List Int), TpL K H (ws.map V.int) (ws.map PyData.int)
  | [] => .nil
  | w :: ws => .cons (.int w) (TpL.of_ints ws)
end
theorem sz5 {n : Nat} (h : n ≤ 1000000) : n ≤ sizeLine := by
  rw [sizeLine_eq]
  omega
theorem sz6 {n : Nat} (h : n < 1000000) : n < sizeLine := by
  rw [sizeLine_eq]
  omega
/-! what an expression makes -/
def EvD (K : PySem.W.Frag) (te : TE) (σ : L2.St) (H : Hp) (d : PyData) : Prop := ∀ H1, Same H H1 → ∀ Q : VK, (∀ v H2, Same H1 H2 → Tp K H2 v d → Q v H2) → te σ H1 Q
/-- a new list -/
def EvDL (K : PySem.W.Frag) (te : TE) (σ : L2.St) (H : Hp) (ds : List PyData) : Prop := ∀ H1, Same H H1 → ∀ Q : VK, (∀ p xs H2, H1 p = none → Same H1 H2 → H2 p = some (.lst xs) → TpL K H2 xs ds → Q (.ref p) H2) → te σ H1 Q
def EvDT (K : PySem.W.Frag) (tt : TT) (σ : L2.St) (H : Hp) (b : Bool) : Prop := ∀ H1, Same H H1 → ∀ Q : Bool → Hp → Prop, (∀ H2, Same H1 H2 → Q b H2) → tt σ H1 Q
def EvDA (K : PySem.W.Frag) (ta : TA) (σ : L2.St) (H : Hp) (ds : List PyData) : Prop := ∀ H1, Same H H1 → ∀ Q : List V → Hp → Prop, (∀ vs H2, Same H1 H2 → TpL K H2 vs ds → Q vs H2) → ta σ H1 Q
/-- a value as it is -/
def EvV (te : TE) (σ : L2.St) (H : Hp) (v : V) : Prop := ∀ H1, Same H H1 → ∀ Q : VK, (∀ H2, Same H1 H2 → Q v H2) → te σ H1 Q
/-- promises of data -/
def spR (K : PySem.W.Frag) (R : List PyData → PyData → Prop) : Sp := fun vs H Q _ => ∃ ds d, TpL K H vs ds ∧ R ds d ∧ ∀ v H', Same H H' → Tp K H' v d → Q v H'
def spRL (K : PySem.W.Frag) (R : List PyData → List PyData → Prop) : Sp := fun vs H Q _ => ∃ ds es, TpL K H vs ds ∧ R ds es ∧ ∀ p xs H', H p = none → Same H H' → H' p = some (.lst xs) → TpL K H' xs es → Q (.ref p) H'
section
variable {K : PySem.W.Frag} {σ : L2.St} {H H' : Hp} {ta tb te tx tl : TE} {tas : TA} {t u : TT} {d d1 d2 : PyData} {ds es : List PyData} {b : Bool} {v : V}
theorem fresh_of {H H' : Hp} {p : Addr} (e : Same H H') (h : H' p = none) : H p = none := e.free h
theorem EvD.mono (h : EvD K te σ H d) (s : Same H H') : EvD K te σ H' d := fun H1 s1 Q q => h H1 (s.trans s1) Q q
theorem EvDL.mono (h : EvDL K te σ H ds) (s : Same H H') : EvDL K te σ H' ds := fun H1 s1 Q q => h H1 (s.trans s1) Q q
theorem EvDT.mono (h : EvDT K t σ H b) (s : Same H H') : EvDT K t σ H' b := fun H1 s1 Q q => h H1 (s.trans s1) Q q
theorem EvDA.mono (h : EvDA K tas σ H ds) (s : Same H H') : EvDA K tas σ H' ds := fun H1 s1 Q q => h H1 (s.trans s1) Q q
theorem e_var {i : Nat} (h : σ[i]? = some (some v)) (t : Tp K H v d) : EvD K (tVar i) σ H d := fun H1 s Q q => ⟨v, h, q v H1 (Same.refl _) (t.stay (.of s))⟩
theorem e_c (t : Tp K H v d) : EvD K (tC v) σ H d := fun H1 s Q q => q v H1 (Same.refl _) (t.stay (.of s))
theorem e_int {i : Int} : EvD K (tC (.int i)) σ H (.int i) := e_c (.int i)
theorem e_str {i : Str} : EvD K (tC (.str i)) σ H (.str i) := e_c (.str i)
theorem e_bl {i : Bool} : EvD K (tC (.bl i)) σ H (.bool i) := e_c (.bl i)
theorem e_non : EvD K (tC .non) σ H .none := e_c .non
theorem e_ofV (h : EvV te σ H v) (t : Tp K H v d) : EvD K te σ H d := fun H1 s Q q => h H1 s Q fun H2 s2 => q v H2 s2 (t.stay (.of (s.trans s2)))
theorem v_var {i : Nat} (h : σ[i]? = some (some v)) : EvV (tVar i) σ H v := fun H1 s Q q => ⟨v, h, q H1 (Same.refl _)⟩
theorem v_c : EvV (tC v) σ H v := fun H1 s Q q => q H1 (Same.refl _)
/-- a two-place operation upon data -/
def RD (K : PySem.W.Frag) (r : R2) (d1 d2 : PyData) (d : PyData) : Prop := ∀ v1 v2 H Q, Tp K H v1 d1 → Tp K H v2 d2 → (∀ v H', Same H H' → Tp K H' v d → Q v H') → r v1 v2 H Q
theorem e_op {r : R2} (ha : EvD K ta σ H d1) (hb : EvD K tb σ H d2) (hr : RD K r d1 d2 d) : EvD K (tOp r ta tb) σ H d := fun H1 s Q q =>
  ha H1 s _ fun v1 H2 s2 t1 => hb H2 (s.trans s2) _ fun v2 H3 s3 t2 => hr v1 v2 H3 Q (t1.stay (.of s3)) t2 fun v H4 s4 t4 => q v H4 ((s2.trans s3).trans s4) t4
theorem r_I0i {f : Int → Int → Int} {i j : Int} : RD K (rI0 fun i j => .int (f i j)) (.int i) (.int j) (.int (f i j)) := fun v1 v2 H Q t1 t2 q => by
  rw [tp_int t1, tp_int t2]
  exact ⟨i, j, rfl, rfl, q _ _ (Same.refl _) (.int _)⟩
theorem r_I0b {f : Int → Int → Bool} {i j : Int} : RD K (rI0 fun i j => .bl (f i j)) (.int i) (.int j) (.bool (f i j)) := fun v1 v2 H Q t1 t2 q => by
  rw [tp_int t1, tp_int t2]
  exact ⟨i, j, rfl, rfl, q _ _ (Same.refl _) (.bl _)⟩
theorem r_Ii {C : Int → Int → Prop} {f : Int → Int → Int} {i j : Int} (c : C i j) : RD K (rI C fun i j => .int (f i j)) (.int i) (.int j) (.int (f i j)) := fun v1 v2 H Q t1 t2 q => by
  rw [tp_int t1, tp_int t2]
  exact ⟨i, j, rfl, rfl, c, q _ _ (Same.refl _) (.int _)⟩
theorem r_eqS {x y : Str} : RD K rEq (.str x) (.str y) (.bool (decide (x = y))) := fun v1 v2 H Q t1 t2 q => by
  rw [tp_str t1, tp_str t2]
  refine ⟨rfl, ?_⟩
  rw [show decide (V.str x = V.str y) = decide (x = y) by simp]
  exact q _ _ (Same.refl _) (.bl _)
theorem r_neS {x y : Str} : RD K rNe (.str x) (.str y) (.bool (!decide (x = y))) := fun v1 v2 H Q t1 t2 q => by
  rw [tp_str t1, tp_str t2]
  refine ⟨rfl, ?_⟩
  rw [show decide (V.str x = V.str y) = decide (x = y) by simp]
  exact q _ _ (Same.refl _) (.bl _)
theorem r_eqI {x y : Int} : RD K rEq (.int x) (.int y) (.bool (decide (x = y))) := fun v1 v2 H Q t1 t2 q => by
  rw [tp_int t1, tp_int t2]
  refine ⟨rfl, ?_⟩
  rw [show decide (V.int x = V.int y) = decide (x = y) by simp]
  exact q _ _ (Same.refl _) (.bl _)
theorem r_neI {x y : Int} : RD K rNe (.int x) (.int y) (.bool (!decide (x = y))) := fun v1 v2 H Q t1 t2 q => by
  rw [tp_int t1, tp_int t2]
  refine ⟨rfl, ?_⟩
  rw [show decide (V.int x = V.int y) = decide (x = y) by simp]
  exact q _ _ (Same.refl _) (.bl _)
def noneD : PyData → Bool
  | .none => true
  | _ => false
theorem none_dec {v : V} {d : PyData} (t : Tp K H v d) : decide (v = .non) = noneD d := by
  cases t <;> simp [noneD]
theorem r_isN : RD K (fun x y H Q => y = .non ∧ Q (.bl (decide (x = .non))) H) d .none (.bool (noneD d)) := fun v1 v2 H Q t1 t2 q => by
  refine ⟨tp_non t2, ?_⟩
  rw [none_dec t1]
  exact q _ _ (Same.refl _) (.bl _)
theorem r_notN : RD K (fun x y H Q => y = .non ∧ Q (.bl (!decide (x = .non))) H) d .none (.bool (!noneD d)) := fun v1 v2 H Q t1 t2 q => by
  refine ⟨tp_non t2, ?_⟩
  rw [none_dec t1]
  exact q _ _ (Same.refl _) (.bl _)
theorem atI_get {α β : Type} {xs : List α} {ys : List β} {i : Int} {y : β} (hl : xs.length = ys.length) (h : atI ys i = some y) : ∃ n : Nat, ∃ x, atI xs i = some x ∧ xs[n]? = some x ∧ ys[n]? = some y := by
  unfold atI at h ⊢
  rw [hl]
  cases e : ixN ys.length i with
  | none =>
    rw [e] at h
    cases h
  | some n =>
    rw [e] at h
    have h : ys[n]? = some y := h
    have hn := (List.getElem?_eq_some_iff.mp h).1
    exact ⟨n, xs[n]'(by omega), List.getElem?_eq_getElem (by omega), List.getElem?_eq_getElem (by omega), h⟩
theorem r_ixT {i : Int} (h : atI ds i = some d) : RD K (rIxT K) (.tuple ds) (.int i) d := fun v1 v2 H Q t1 t2 q => by
  obtain ⟨a, xs, rfl, s, l⟩ := t1.inv
  rw [tp_int t2]
  obtain ⟨n, x, h1, h2, h3⟩ := atI_get l.len h
  exact ⟨a, xs, i, x, rfl, rfl, s, h1, q _ _ (Same.refl _) (l.at h2 h3)⟩
theorem r_ixQ {i : Int} (h : atI ds i = some d) : RD K (rIx K) (.tuple ds) (.int i) d := fun v1 v2 H Q t1 t2 q => .inr (.inl (r_ixT h v1 v2 H Q t1 t2 q))
theorem a_nil : EvDA K tNil σ H [] := fun H1 s Q q => q _ H1 (Same.refl _) .nil
theorem a_cons (h : EvD K te σ H d) (hs : EvDA K tas σ H ds) : EvDA K (tCons te tas) σ H (d :: ds) := fun H1 s Q q =>
  h H1 s _ fun v H2 s2 hd => hs H2 (s.trans s2) _ fun vs H3 s3 hds => q _ H3 (s2.trans s3) (.cons (hd.stay (.of s3)) hds)
theorem e_tup (h : EvDA K tas σ H ds) (hl : ds.length ≤ 1000) : EvD K (tTup tas) σ H (.tuple ds) := fun H1 s Q q => h H1 s _ fun vs H2 s2 hds =>
  ⟨by rw [hds.len]; exact sz5 (by omega), fun p hp => q _ _ (s2.trans (same_new hp)) (.mk (SqT.of upd_same) (hds.stay (.of (same_new hp))))⟩
theorem l_lst (h : EvDA K tas σ H ds) (hl : ds.length ≤ 1000) : EvDL K (tLst tas) σ H ds := fun H1 s Q q => h H1 s _ fun vs H2 s2 hds =>
  ⟨by rw [hds.len]; exact sz5 (by omega), fun p hp => q _ _ _ (s2.free hp) (s2.trans (same_new hp)) upd_same (hds.stay (.of (same_new hp)))⟩
theorem l_cat (ha : EvDL K ta σ H ds) (hb : EvDL K tb σ H es) (hl : ds.length + es.length ≤ 1000000) : EvDL K (tOp rCat ta tb) σ H (ds ++ es) := fun H1 s Q q =>
  ha H1 s _ fun l xs H2 _ s2 e1 t1 => hb H2 (s.trans s2) _ fun m ys H3 _ s3 e2 t2 =>
    ⟨l, m, xs, ys, rfl, rfl, s3 _ _ e1, e2, by rw [t1.len, t2.len]; exact sz5 hl, fun p hp => q p _ _ ((s2.trans s3).free hp) ((s2.trans s3).trans (same_new hp)) upd_same (((t1.stay (.of s3)).app t2).stay (.of (same_new hp)))⟩
theorem e_if (h : EvDT K t σ H b) (h1 : b = true → EvD K ta σ H d) (h2 : b = false → EvD K tb σ H d) : EvD K (tIf t ta tb) σ H d := fun H1 s Q q => h H1 s _ fun H2 s2 => by
  cases b with
  | true => exact iteT (h1 rfl H2 (s.trans s2) Q fun v H3 s3 => q v H3 (s2.trans s3))
  | false => exact iteF (h2 rfl H2 (s.trans s2) Q fun v H3 s3 => q v H3 (s2.trans s3))
theorem t_test (h : EvD K te σ H (.bool b)) : EvDT K (tTest te) σ H b := fun H1 s Q q => h H1 s _ fun v H2 s2 hv => ⟨b, tp_bool hv, q H2 s2⟩
theorem t_B (h : EvD K te σ H (.bool b)) : EvDT K (tB te) σ H b := fun H1 s Q q => h H1 s _ fun v H2 s2 hv => ⟨b, tp_bool hv, q H2 s2⟩
theorem t_not (h : EvDT K t σ H b) : EvDT K (tNot t) σ H (!b) := fun H1 s Q q => h H1 s _ fun H2 s2 => q H2 s2
theorem t_and {c : Bool} (h : EvDT K t σ H b) (h2 : b = true → EvDT K u σ H c) : EvDT K (tAnd t u) σ H (b && c) := fun H1 s Q q => h H1 s _ fun H2 s2 => by
  cases b with
  | true => exact iteT (h2 rfl H2 (s.trans s2) Q fun H3 s3 => q H3 (s2.trans s3))
  | false => exact iteF (q H2 s2)
theorem t_or {c : Bool} (h : EvDT K t σ H b) (h2 : b = false → EvDT K u σ H c) : EvDT K (tOr t u) σ H (b || c) := fun H1 s Q q => h H1 s _ fun H2 s2 => by
  cases b with
  | true => exact iteT (q H2 s2)
  | false => exact iteF (h2 rfl H2 (s.trans s2) Q fun H3 s3 => q H3 (s2.trans s3))
theorem t_is {c : Bool} (h : EvDT K t σ H b) (e : b = c) : EvDT K t σ H c := e ▸ h
theorem e_is (h : EvD K te σ H d1) (e : d1 = d2) : EvD K te σ H d2 := e ▸ h
theorem l_is (h : EvDL K te σ H ds) (e : ds = es) : EvDL K te σ H es := e ▸ h
theorem e_and {c : Bool} (h : EvD K ta σ H (.bool b)) (h2 : b = true → EvD K tb σ H (.bool c)) : EvD K (tAndV ta tb) σ H (.bool (b && c)) := fun H1 s Q q => h H1 s _ fun v H2 s2 hv => ⟨b, tp_bool hv, by
  cases b with
  | true => exact iteT (h2 rfl H2 (s.trans s2) Q fun v H3 s3 => q v H3 (s2.trans s3))
  | false => exact iteF (q _ H2 s2 (.bl _))⟩
theorem e_or {c : Bool} (h : EvD K ta σ H (.bool b)) (h2 : b = false → EvD K tb σ H (.bool c)) : EvD K (tOrV ta tb) σ H (.bool (b || c)) := fun H1 s Q q => h H1 s _ fun v H2 s2 hv => ⟨b, tp_bool hv, by
  cases b with
  | true => exact iteT (q _ H2 s2 (.bl _))
  | false => exact iteF (h2 rfl H2 (s.trans s2) Q fun v H3 s3 => q v H3 (s2.trans s3))⟩
theorem e_not (h : EvD K ta σ H (.bool b)) : EvD K (tNotV ta) σ H (.bool (!b)) := fun H1 s Q q => h H1 s _ fun v H2 s2 hv => ⟨b, tp_bool hv, q _ H2 s2 (.bl _)⟩
theorem e_call {R : List PyData → PyData → Prop} {E : XK} (h : EvDA K tas σ H ds) (r : R ds d) : EvD K (tCall (spR K R) [] E tas) σ H d := fun H1 s Q q => h H1 s _ fun vs H2 s2 hv =>
  ⟨ds, d, by rw [List.append_nil]; exact hv, r, fun v H3 s3 t3 => q v H3 (s2.trans s3) t3⟩
theorem l_call {R : List PyData → List PyData → Prop} {E : XK} (h : EvDA K tas σ H ds) (r : R ds es) : EvDL K (tCall (spRL K R) [] E tas) σ H es := fun H1 s Q q => h H1 s _ fun vs H2 s2 hv =>
  ⟨ds, es, by rw [List.append_nil]; exact hv, r, fun p xs H3 hp s3 e t3 => q p xs H3 (s2.free hp) (s2.trans s3) e t3⟩
/-- len of a new list, of a tuple -/
theorem e_lenL {r : List V → Hp → VK → Prop} (hr : ∀ p xs H Q, (SqL K H p xs ∨ SqT K H p xs) → Q (V.int xs.length) H → r [.ref p] H Q) (h : EvDL K te σ H ds) : EvD K (tCB r (tCons te tNil)) σ H (.int ds.length) := fun H1 s Q q => h H1 s _ fun p xs H2 _ s2 e t2 =>
  hr p xs H2 Q (.inl (SqL.of e)) (by rw [t2.len]; exact q _ H2 s2 (.int _))
theorem e_lenT {r : List V → Hp → VK → Prop} (hr : ∀ p xs H Q, (SqL K H p xs ∨ SqT K H p xs) → Q (V.int xs.length) H → r [.ref p] H Q) (h : EvD K te σ H (.tuple ds)) : EvD K (tCB r (tCons te tNil)) σ H (.int ds.length) := fun H1 s Q q => h H1 s _ fun v H2 s2 t2 => by
  obtain ⟨p, xs, rfl, sq, l⟩ := t2.inv
  exact hr p xs H2 Q (.inr sq) (by rw [l.len]; exact q _ H2 s2 (.int _))
/-- tuple(new list) -/
theorem e_tupOf {r : List V → Hp → VK → Prop} (hr : ∀ p xs H Q, SqL K H p xs → (∀ l, H l = none → Q (V.ref l) (upd H l (.tup xs))) → r [.ref p] H Q) (h : EvDL K te σ H ds) : EvD K (tCB r (tCons te tNil)) σ H (.tuple ds) := fun H1 s Q q => h H1 s _ fun p xs H2 _ s2 e t2 =>
  hr p xs H2 Q (SqL.of e) fun l hl => q _ _ (s2.trans (same_new hl)) (.mk (SqT.of upd_same) (t2.stay (.of (same_new hl))))
end
/-! a list that grows; what was known stays -/
structure Acc (K : PySem.W.Frag) (H0 : Hp) (p : Addr) (as : List PyData) (H : Hp) : Prop where
  new : H0 p = none
  same : Same H0 H
  lst : ∃ xs, H p = some (.lst xs) ∧ TpL K H xs as
section
variable {K : PySem.W.Frag} {σ : L2.St} {H0 H H' : Hp} {p q : Addr} {as ds : List PyData} {d : PyData} {ta tb te tl : TE} {tu tw tz : TS} {g : TG} {D : Ends} {t : TT} {b : Bool}
theorem Acc.ext (a : Acc K H0 p as H) (s : Same H H') : Acc K H0 p as H' := by
  obtain ⟨h1, h2, xs, e, tp⟩ := a
  exact ⟨h1, h2.trans s, xs, s _ _ e, tp.stay (.of s)⟩
theorem Acc.start {xs : List V} (h : H0 p = none) (s : Same H0 H) (e : H p = some (.lst xs)) (l : TpL K H xs as) : Acc K H0 p as H := ⟨h, s, xs, e, l⟩
theorem Acc.grow {xs ys : List V} (a : Acc K H0 p as H) (e : H p = some (.lst xs)) (l : TpL K H ys ds) : Acc K H0 p (as ++ ds) (upd H p (.lst (xs ++ ys))) := by
  obtain ⟨h1, h2, xs', e', tp⟩ := a
  rw [e] at e'
  cases e'
  exact ⟨h1, same_upd_new h2 h1, _, upd_same, (tp.app l).stay (.keep keep_upd e)⟩
theorem Acc.of_ne (a : Acc K H0 p as H) (kb : KeepB q H H') (tk : TupK H H') (s : Same H0 H') (n : p ≠ q) : Acc K H0 p as H' := by
  obtain ⟨h1, h2, xs, e, tp⟩ := a
  exact ⟨h1, s, xs, kb _ _ e n, tp.stay tk⟩
theorem Acc.tup (a : Acc K H0 p as H) : TupK H0 H := .of a.same
/-! statements -/
theorem q_set {i : Nat} (h : EvD K te σ H d) (k : ∀ v H1, Same H H1 → Tp K H1 v d → tz D (σ.set i (some v)) H1) : tSeq (tAsg te (gName i)) tz D σ H := h H (Same.refl _) _ fun v H1 s tp => k v H1 s tp
theorem q_setL {i : Nat} (h : EvDL K te σ H ds) (k : ∀ p xs H1, H p = none → Same H H1 → H1 p = some (.lst xs) → TpL K H1 xs ds → tz D (σ.set i (some (.ref p))) H1) : tSeq (tAsg te (gName i)) tz D σ H := h H (Same.refl _) _ fun p xs H1 n s e tp => k p xs H1 n s e tp
theorem q_ret (h : EvD K te σ H d) (k : ∀ v H1, Same H H1 → Tp K H1 v d → D.rt v H1) : tRet te D σ H := h H (Same.refl _) _ fun v H1 s tp => k v H1 s tp
theorem q_retL (h : EvDL K te σ H ds) (k : ∀ p xs H1, H p = none → Same H H1 → H1 p = some (.lst xs) → TpL K H1 xs ds → D.rt (.ref p) H1) : tRet te D σ H := h H (Same.refl _) _ fun p xs H1 n s e tp => k p xs H1 n s e tp
theorem q_if (h : EvDT K t σ H b) (h1 : b = true → ∀ H1, Same H H1 → tu { D with nx := tz D } σ H1) (h2 : b = false → ∀ H1, Same H H1 → tw { D with nx := tz D } σ H1) : tSeq (tIfS t tu tw) tz D σ H := h H (Same.refl _) _ fun H1 s => by
  cases b with
  | true => exact iteT (h1 rfl H1 s)
  | false => exact iteF (h2 rfl H1 s)
theorem s_if (h : EvDT K t σ H b) (h1 : b = true → ∀ H1, Same H H1 → tu D σ H1) (h2 : b = false → ∀ H1, Same H H1 → tw D σ H1) : tIfS t tu tw D σ H := h H (Same.refl _) _ fun H1 s => by
  cases b with
  | true => exact iteT (h1 rfl H1 s)
  | false => exact iteF (h2 rfl H1 s)
theorem q_when (h : EvDT K t σ H b) (h1 : b = true → ∀ H1, Same H H1 → tu { D with nx := tz D } σ H1) (h2 : b = false → ∀ H1, Same H H1 → tz D σ H1) : tSeq (tIfS t tu tNext) tz D σ H := q_if h h1 h2
theorem s_when (h : EvDT K t σ H b) (h1 : b = true → ∀ H1, Same H H1 → tu D σ H1) (h2 : b = false → ∀ H1, Same H H1 → D.nx σ H1) : tIfS t tu tNext D σ H := s_if h h1 h2
theorem s_app {i : Nat} {l : Nat} (hp : σ[i]? = some (some (.ref p))) (a : Acc K H0 p as H) (h : EvD K te σ H d) (hz : as.length < 1000000) (k : ∀ H1, TupK H H1 → KeepB p H H1 → Acc K H0 p (as ++ [d]) H1 → D.nx σ H1) :
    tDrop (tBM K "list" rAppend (tVar i) (tCons te tNil)) D σ H := by
  obtain ⟨xs, e, tp⟩ := a.lst
  refine ⟨_, hp, .inl ⟨rfl, _, SqL.of e⟩, h H (Same.refl _) _ fun v H1 s tv => ?_⟩
  have e1 := s _ _ e
  exact ⟨p, xs, v, rfl, rfl, e1, by rw [tp.len]; exact sz6 hz, k _ ((TupK.of s).trans (.keep keep_upd e1)) ((KeepB.of s).trans keep_upd) ((a.ext s).grow e1 (.one tv))⟩
theorem q_app {i : Nat} (hp : σ[i]? = some (some (.ref p))) (a : Acc K H0 p as H) (h : EvD K te σ H d) (hz : as.length < 1000000) (k : ∀ H1, TupK H H1 → KeepB p H H1 → Acc K H0 p (as ++ [d]) H1 → tz D σ H1) :
    tSeq (tDrop (tBM K "list" rAppend (tVar i) (tCons te tNil))) tz D σ H := s_app (D := { D with nx := tz D }) (l := 0) hp a h hz k
theorem s_ext {i : Nat} (hp : σ[i]? = some (some (.ref p))) (a : Acc K H0 p as H) (h : EvDL K te σ H ds) (hz : as.length + ds.length ≤ 1000000) (k : ∀ H1, TupK H H1 → KeepB p H H1 → Acc K H0 p (as ++ ds) H1 → D.nx σ H1) :
    tDrop (tBM K "list" rExtend (tVar i) (tCons te tNil)) D σ H := by
  obtain ⟨xs, e, tp⟩ := a.lst
  refine ⟨_, hp, .inl ⟨rfl, _, SqL.of e⟩, h H (Same.refl _) _ fun m ys H1 _ s em tv => ?_⟩
  have e1 := s _ _ e
  exact ⟨p, m, xs, ys, rfl, rfl, e1, em, by rw [tp.len, tv.len]; exact sz5 hz, k _ ((TupK.of s).trans (.keep keep_upd e1)) ((KeepB.of s).trans keep_upd) ((a.ext s).grow e1 tv)⟩
theorem q_ext {i : Nat} (hp : σ[i]? = some (some (.ref p))) (a : Acc K H0 p as H) (h : EvDL K te σ H ds) (hz : as.length + ds.length ≤ 1000000) (k : ∀ H1, TupK H H1 → KeepB p H H1 → Acc K H0 p (as ++ ds) H1 → tz D σ H1) :
    tSeq (tDrop (tBM K "list" rExtend (tVar i) (tCons te tNil))) tz D σ H := s_ext (D := { D with nx := tz D }) hp a h hz k
/-- a for by a word: n turns -/
theorem for_word {J : It} {n : Nat} {g : TG} {tb : TS} {D : Ends} {σ : L2.St} {H : Hp} (Pv : Nat → L2.St → Hp → Prop) (h0 : Pv 0 σ H) (hgo : ∀ i σ H, i < n → Pv i σ H → J.go i H) (hst : ∀ σ H, Pv n σ H → J.stop n H)
    (hs : ∀ i x σ H H', i < n → Pv i σ H → J.yld i H x H' → g x σ H' fun σ2 H2 => tb { D with nx := Pv (i + 1), ct := Pv (i + 1), bk := D.nx } σ2 H2) (hd : ∀ σ H, Pv n σ H → D.nx σ H) :
    ∃ W : Nat → Nat → L2.St → Hp → Prop, (∃ m, W 0 m σ H) ∧ ∀ i m σ H, W i m σ H →
      (J.stop i H ∧ D.nx σ H) ∨ (J.go i H ∧ ∃ N : L2.St → Hp → Prop, (∀ σ' H', N σ' H' → ∃ m', m' < m ∧ W (i + 1) m' σ' H') ∧ ∀ x H', J.yld i H x H' → g x σ H' fun σ2 H2 => tb { D with nx := N, ct := N, bk := D.nx } σ2 H2) := by
  refine ⟨fun i m σ H => m = n - i ∧ i ≤ n ∧ Pv i σ H, ⟨n, by simp, Nat.zero_le _, h0⟩, ?_⟩
  rintro i m σ H ⟨rfl, hi, p⟩
  by_cases hlt : i < n
  · refine .inr ⟨hgo i σ H hlt p, Pv (i + 1), fun σ' H' p' => ⟨n - (i + 1), by omega, rfl, hlt, p'⟩, fun x H' y => hs i x σ H H' hlt p y⟩
  · have e : i = n := by omega
    subst e
    exact .inl ⟨hst σ H p, hd σ H p⟩
/-- for over a tuple, over a new list, over a list enumerated; p: the list that grows meanwhile -/
theorem s_forT {xs0 : List V} (h : EvD K tl σ H (.tuple ds)) (hp : H p = some (.lst xs0)) (Pv : Nat → L2.St → Hp → Prop) (h0 : ∀ H1, Same H H1 → Pv 0 σ H1)
    (hs : ∀ H1, Same H H1 → ∀ i d x σ' H', ds[i]? = some d → Pv i σ' H' → KeepB p H1 H' → Tp K H' x d → g x σ' H' fun σ2 H2 => tu { D with nx := fun σ3 H3 => Pv (i + 1) σ3 H3 ∧ KeepB p H1 H3, ct := fun σ3 H3 => Pv (i + 1) σ3 H3 ∧ KeepB p H1 H3, bk := D.nx } σ2 H2)
    (hd : ∀ σ' H', Pv ds.length σ' H' → KeepB p H H' → D.nx σ' H') : tFor (iTup K tl) g tu D σ H := h H (Same.refl _) _ fun v H1 s tv => by
  obtain ⟨a, xs, rfl, sq, l⟩ := tv.inv
  have tk : ∀ {H'}, KeepB p H1 H' → TupK H1 H' := fun kb => .keep kb (s _ _ hp)
  refine ⟨a, rfl, ⟨xs, sq⟩, for_word (n := ds.length) (fun i σ' H' => Pv i σ' H' ∧ KeepB p H1 H') ⟨h0 H1 s, KeepB.refl _ _⟩ (fun i σ' H' hi q => ?_) (fun σ' H' q => ⟨xs, (tk q.2).seq sq, Nat.le_of_eq l.len⟩) (fun i x σ' H' H'' hi q y => ?_) (fun σ' H' q => hd σ' H' q.1 ((KeepB.of s).trans q.2))⟩
  · have hi2 : i < xs.length := by rw [l.len]; exact hi
    exact ⟨xs, xs[i], (tk q.2).seq sq, List.getElem?_eq_getElem hi2⟩
  · obtain ⟨rfl, y⟩ := y
    have hx := y xs ((tk q.2).seq sq)
    obtain ⟨d, e1, e2⟩ := l.get' hx
    exact hs H1 s i d x σ' H'' e1 q.1 q.2 (e2.stay (tk q.2))
theorem s_forL {xs0 : List V} (h : EvDL K tl σ H ds) (hp : H p = some (.lst xs0)) (Pv : Nat → L2.St → Hp → Prop) (h0 : ∀ H1, Same H H1 → Pv 0 σ H1)
    (hs : ∀ H1, Same H H1 → ∀ i d x σ' H', ds[i]? = some d → Pv i σ' H' → KeepB p H1 H' → Tp K H' x d → g x σ' H' fun σ2 H2 => tu { D with nx := fun σ3 H3 => Pv (i + 1) σ3 H3 ∧ KeepB p H1 H3, ct := fun σ3 H3 => Pv (i + 1) σ3 H3 ∧ KeepB p H1 H3, bk := D.nx } σ2 H2)
    (hd : ∀ σ' H', Pv ds.length σ' H' → KeepB p H H' → D.nx σ' H') : tFor (iList K tl) g tu D σ H := h H (Same.refl _) _ fun a xs H1 ha s ea l => by
  have tk : ∀ {H'}, KeepB p H1 H' → TupK H1 H' := fun kb => .keep kb (s _ _ hp)
  have ne : a ≠ p := fun e => by
    rw [e, hp] at ha
    cases ha
  have sq : ∀ {H'}, KeepB p H1 H' → SqL K H' a xs := fun kb => SqL.of (kb _ _ ea ne)
  refine ⟨a, rfl, ⟨xs, SqL.of ea⟩, for_word (n := ds.length) (fun i σ' H' => Pv i σ' H' ∧ KeepB p H1 H') ⟨h0 H1 s, KeepB.refl _ _⟩ (fun i σ' H' hi q => ?_) (fun σ' H' q => ⟨xs, sq q.2, Nat.le_of_eq l.len⟩) (fun i x σ' H' H'' hi q y => ?_) (fun σ' H' q => hd σ' H' q.1 ((KeepB.of s).trans q.2))⟩
  · have hi2 : i < xs.length := by rw [l.len]; exact hi
    exact ⟨xs, xs[i], sq q.2, List.getElem?_eq_getElem hi2⟩
  · obtain ⟨rfl, y⟩ := y
    have hx := y xs (sq q.2)
    obtain ⟨d, e1, e2⟩ := l.get' hx
    exact hs H1 s i d x σ' H'' e1 q.1 q.2 (e2.stay (tk q.2))
theorem s_enum {xs0 xs : List V} {j : Nat} {a : Addr} (hj : σ[j]? = some (some (.ref a))) (ha : H a = some (.lst xs)) (l : TpL K H xs ds) (ne : a ≠ p) (hp : H p = some (.lst xs0)) (Pv : Nat → L2.St → Hp → Prop) (h0 : Pv 0 σ H)
    (hs : ∀ i d x T σ' H', ds[i]? = some d → Pv i σ' H' → KeepB p H H' → Tp K H' x d → H' T = none → g (.ref T) σ' (upd H' T (.tup [.int (i : Nat), x])) fun σ2 H2 => tu { D with nx := fun σ3 H3 => Pv (i + 1) σ3 H3 ∧ KeepB p H H3, ct := fun σ3 H3 => Pv (i + 1) σ3 H3 ∧ KeepB p H H3, bk := D.nx } σ2 H2)
    (hd : ∀ σ' H', Pv ds.length σ' H' → KeepB p H H' → D.nx σ' H') : tFor (iEnum K (tCons (tVar j) tNil)) g tu D σ H := by
  have tk : ∀ {H'}, KeepB p H H' → TupK H H' := fun kb => .keep kb hp
  have sq : ∀ {H'}, KeepB p H H' → SqL K H' a xs := fun kb => SqL.of (kb _ _ ha ne)
  refine ⟨_, hj, a, xs, rfl, SqL.of ha, for_word (n := ds.length) (fun i σ' H' => Pv i σ' H' ∧ KeepB p H H') ⟨h0, KeepB.refl _ _⟩ (fun i σ' H' hi q => ?_) (fun σ' H' q => ⟨xs, sq q.2, Nat.le_of_eq l.len⟩) (fun i x σ' H' H'' hi q y => ?_) (fun σ' H' q => hd σ' H' q.1 q.2)⟩
  · have hi2 : i < xs.length := by rw [l.len]; exact hi
    exact ⟨xs, xs[i], sq q.2, List.getElem?_eq_getElem hi2⟩
  · obtain ⟨T, z, rfl, hT, rfl, y⟩ := y
    have hx := y xs (sq q.2)
    obtain ⟨d, e1, e2⟩ := l.get' hx
    exact hs i d z T σ' H' e1 q.1 q.2 (e2.stay (tk q.2)) hT
/-- targets -/
theorem g_tup2 {i j : Nat} {v : V} {a b : PyData} {Q : L2.St → Hp → Prop} (h : Tp K H v (.tuple [a, b])) (k : ∀ x y, Tp K H x a → Tp K H y b → Q ((σ.set i (some x)).set j (some y)) H) : gTup K 2 (gCons (gName i) (gCons (gName j) gNil)) v σ H Q := by
  obtain ⟨p, xs, rfl, sq, l⟩ := h.inv
  cases l with
  | cons h1 l => cases l with
  | cons h2 l => cases l with
  | nil => exact ⟨p, _, rfl, sq, rfl, _, _, rfl, _, _, rfl, rfl, k _ _ h1 h2⟩
theorem g_tup3 {i j m : Nat} {v : V} {a b c : PyData} {Q : L2.St → Hp → Prop} (h : Tp K H v (.tuple [a, b, c])) (k : ∀ x y z, Tp K H x a → Tp K H y b → Tp K H z c → Q (((σ.set i (some x)).set j (some y)).set m (some z)) H) : gTup K 3 (gCons (gName i) (gCons (gName j) (gCons (gName m) gNil))) v σ H Q := by
  obtain ⟨p, xs, rfl, sq, l⟩ := h.inv
  cases l with
  | cons h1 l => cases l with
  | cons h2 l => cases l with
  | cons h3 l => cases l with
  | nil => exact ⟨p, _, rfl, sq, rfl, _, _, rfl, _, _, rfl, _, _, rfl, rfl, k _ _ _ h1 h2 h3⟩
theorem q_asg {g : TG} (h : EvD K te σ H d) (k : ∀ v H1, Same H H1 → Tp K H1 v d → g v σ H1 (tz D)) : tSeq (tAsg te g) tz D σ H := h H (Same.refl _) _ fun v H1 s tp => k v H1 s tp
end
/-! comprehensions -/
section
variable {K : PySem.W.Frag} {σ : L2.St} {H : Hp} {te tl tl1 : TE} {ds es : List PyData} {vs vs1 : List Nat} {g g1 : TG}
theorem lc_data {J : It} {tt : TT} {H1 : Hp} {D : Addr} {Qd : Hp → Prop} (es : List PyData) (hD : H1 D = none) (hz : es.length ≤ 1000000)
    (hgo : ∀ i H, i < es.length → Same H1 H → J.go i H) (hst : ∀ H, Same H1 H → J.stop es.length H)
    (hs : ∀ i x H H' (R : VK) (Z : Hp → Prop), i < es.length → Same H1 H → J.yld i H x H' → (∀ y e H3, es[i]? = some e → Same H H3 → Tp K H3 y e → R y H3) →
      g x (wipe σ vs) H' fun σ2 H2 => wipe σ2 vs = wipe σ vs ∧ tt σ2 H2 fun b H3 => if b = true then te σ2 H3 R else Z H3)
    (hd : ∀ H acc, Same H1 H → H D = some (.lst acc) → TpL K H acc es → Qd H) :
    ∃ W : Nat → Nat → Hp → Prop, (∃ m, W 0 m (upd H1 D (.lst []))) ∧ ∀ i m H, W i m H → (J.stop i H ∧ Qd H) ∨ (J.go i H ∧ ∃ Nx : Hp → Prop, (∀ H', Nx H' → ∃ m', m' < m ∧ W (i + 1) m' H') ∧ ∀ x H', J.yld i H x H' →
      g x (wipe σ vs) H' fun σ2 H2 => wipe σ2 vs = wipe σ vs ∧ tt σ2 H2 fun b H3 => if b = true then te σ2 H3 fun y H4 => ∃ acc, H4 D = some (.lst acc) ∧ acc.length < sizeLine ∧ Nx (upd H4 D (.lst (acc ++ [y]))) else Nx H3) := by
  refine lc_word (n := es.length) (fun i acc H => TpL K H acc (es.take i) ∧ Same H1 H) ⟨by rw [List.take_zero]; exact .nil, same_new hD⟩ (fun i acc H hi p => hgo i H hi p.2) (fun acc H p => hst H p.2) ?_ (fun acc H p e => hd H acc p.2 e (by have q := p.1; rw [List.take_length] at q; exact q))
  rintro i acc x H H' R Z hi ⟨tp, s⟩ e y k
  refine hs i x H H' R Z hi s y fun v d H3 hv s3 tv => k v H3 (s3 _ _ e) (by rw [tp.len, List.length_take]; exact sz6 (by omega)) ⟨?_, same_upd_new (s.trans s3) hD⟩
  have e1 : es.take (i + 1) = es.take i ++ [d] := by
    rw [List.take_add_one, hv]
    rfl
  rw [e1]
  exact ((tp.stay (.of s3)).app (.one tv)).stay (.keep keep_upd (s3 _ _ e))
theorem l_lcT {j : Nat} (h : EvD K tl σ H (.tuple ds)) (hl : es.length = ds.length) (hz : ds.length ≤ 1000000) (hw : ∀ x, wipe ((wipe σ vs).set j (some x)) vs = wipe σ vs)
    (he : ∀ (i : Nat) d e x H1, ds[i]? = some d → es[i]? = some e → Same H H1 → Tp K H1 x d → EvD K te ((wipe σ vs).set j (some x)) H1 e) : EvDL K (tLc (iTup K tl) (gName j) tYes te vs) σ H es := fun H0 s Q q => h H0 s _ fun v H1 s1 tv => by
  obtain ⟨a, xs, rfl, sq, l⟩ := tv.inv
  refine ⟨a, rfl, ⟨xs, sq⟩, fun D hD => lc_data (K := K) es hD (by omega) (fun i H' hi s2 => ?_) (fun H' s2 => ⟨xs, same_sqt s2 sq, by rw [l.len, hl]; exact Nat.le_refl _⟩) ?_ fun H' acc s2 e ta => q D acc H' (s1.free hD) (s1.trans s2) e ta⟩
  · have hi2 : i < xs.length := by rw [l.len]; omega
    exact ⟨xs, xs[i], same_sqt s2 sq, List.getElem?_eq_getElem hi2⟩
  · rintro i x H' H'' R Z hi s2 ⟨rfl, y⟩ k
    have hx := y xs (same_sqt s2 sq)
    obtain ⟨d, e1, e2⟩ := l.get' hx
    have e3 : es[i]? = some es[i] := List.getElem?_eq_getElem hi
    exact ⟨hw x, iteT (B := Z H'') (he i d _ x H'' e1 e3 ((s.trans s1).trans s2) (e2.stay (.of s2)) H'' (Same.refl _) R fun v H3 s3 tv => k v _ H3 e3 s3 tv)⟩
theorem l_lcL {j : Nat} (h : EvDL K tl σ H ds) (hl : es.length = ds.length) (hz : ds.length ≤ 1000000) (hw : ∀ x, wipe ((wipe σ vs).set j (some x)) vs = wipe σ vs)
    (he : ∀ (i : Nat) d e x H1, ds[i]? = some d → es[i]? = some e → Same H H1 → Tp K H1 x d → EvD K te ((wipe σ vs).set j (some x)) H1 e) : EvDL K (tLc (iList K tl) (gName j) tYes te vs) σ H es := fun H0 s Q q => h H0 s _ fun a xs H1 ha s1 ea l => by
  refine ⟨a, rfl, ⟨xs, SqL.of ea⟩, fun D hD => lc_data (K := K) es hD (by omega) (fun i H' hi s2 => ?_) (fun H' s2 => ⟨xs, SqL.of (s2 _ _ ea), by rw [l.len, hl]; exact Nat.le_refl _⟩) ?_ fun H' acc s2 e ta => q D acc H' (s1.free hD) (s1.trans s2) e ta⟩
  · have hi2 : i < xs.length := by rw [l.len]; omega
    exact ⟨xs, xs[i], SqL.of (s2 _ _ ea), List.getElem?_eq_getElem hi2⟩
  · rintro i x H' H'' R Z hi s2 ⟨rfl, y⟩ k
    have hx := y xs (SqL.of (s2 _ _ ea))
    obtain ⟨d, e1, e2⟩ := l.get' hx
    have e3 : es[i]? = some es[i] := List.getElem?_eq_getElem hi
    exact ⟨hw x, iteT (B := Z H'') (he i d _ x H'' e1 e3 ((s.trans s1).trans s2) (e2.stay (.of s2)) H'' (Same.refl _) R fun v H3 s3 tv => k v _ H3 e3 s3 tv)⟩
/-- what an inner walk gives: a tuple or a new list of data -/
inductive Wk (K : PySem.W.Frag) : TI → L2.St → Hp → List PyData → Prop
  | tup {tl : TE} {σ : L2.St} {H : Hp} {ds : List PyData} : EvD K tl σ H (.tuple ds) → Wk K (iTup K tl) σ H ds
  | lst {tl : TE} {σ : L2.St} {H : Hp} {ds : List PyData} : EvDL K tl σ H ds → Wk K (iList K tl) σ H ds
theorem yes_then {A B : Hp → Prop} {σ : L2.St} {H : Hp} (h : A H) : tYes σ H (fun b H3 => if b = true then A H3 else B H3) := iteT (B := B H) h
/-- tuples stay, and what is new in H1 -/
def Stays (H H1 H' : Hp) : Prop := TupK H1 H' ∧ ∀ b o, H b = none → H1 b = some o → H' b = some o
theorem Stays.of {H H1 H' : Hp} (s : Same H1 H') : Stays H H1 H' := ⟨.of s, fun b o _ e => s b o e⟩
theorem Wk.go {wi : TI} (h : Wk K wi σ H ds) : ∀ (R : It → Hp → Prop), (∀ J H1, Same H H1 → (∀ i H', i < ds.length → Stays H H1 H' → J.go i H') → (∀ H', Stays H H1 H' → J.stop ds.length H') →
    (∀ i x H' H'', Stays H H1 H' → J.yld i H' x H'' → H'' = H' ∧ ∀ (hi : i < ds.length), ∃ d, ds[i]? = some d ∧ Tp K H' x d) → R J H1) → wi σ H R := by
  intro R k
  cases h with
  | tup h =>
    refine h _ (Same.refl _) _ fun v H1 s1 tv => ?_
    obtain ⟨a, xs, rfl, sq, l⟩ := tv.inv
    refine ⟨a, rfl, ⟨xs, sq⟩, k _ _ s1 (fun i H' hi s2 => ?_) (fun H' s2 => ⟨xs, s2.1.seq sq, Nat.le_of_eq l.len⟩) fun i x H' H'' s2 y => ⟨y.1, fun hi => ?_⟩⟩
    · have hi2 : i < xs.length := by rw [l.len]; omega
      exact ⟨xs, xs[i], s2.1.seq sq, List.getElem?_eq_getElem hi2⟩
    · obtain ⟨d, e1, e2⟩ := l.get' (y.2 xs (s2.1.seq sq))
      exact ⟨d, e1, e2.stay s2.1⟩
  | lst h =>
    refine h _ (Same.refl _) _ fun a xs H1 ha s1 ea l => ?_
    refine ⟨a, rfl, ⟨xs, SqL.of ea⟩, k _ _ s1 (fun i H' hi s2 => ?_) (fun H' s2 => ⟨xs, SqL.of (s2.2 _ _ ha ea), Nat.le_of_eq l.len⟩) fun i x H' H'' s2 y => ⟨y.1, fun hi => ?_⟩⟩
    · have hi2 : i < xs.length := by rw [l.len]; omega
      exact ⟨xs, xs[i], SqL.of (s2.2 _ _ ha ea), List.getElem?_eq_getElem hi2⟩
    · obtain ⟨d, e1, e2⟩ := l.get' (y.2 xs (SqL.of (s2.2 _ _ ha ea)))
      exact ⟨d, e1, e2.stay s2.1⟩
/-- [e for a in xs for b in f(a)]: fs gives the inner data, hs what e makes of each -/
theorem l_lc2 {wi wi1 : TI} {j j1 : Nat} (fs : List (List PyData)) (gs : List (List PyData)) (h : ∀ H1, Same H H1 → Wk K wi σ H1 ds) (hf : fs.length = ds.length) (hg : gs.length = ds.length) (hz : gs.flatten.length ≤ 1000000)
    (hw : ∀ x, wipe ((wipe σ vs).set j (some x)) vs = wipe σ vs) (hw1 : ∀ x y, wipe ((wipe ((wipe σ vs).set j (some x)) vs1).set j1 (some y)) vs1 = wipe ((wipe σ vs).set j (some x)) vs1)
    (hi : ∀ (i : Nat) d f x H1, ds[i]? = some d → fs[i]? = some f → Same H H1 → Tp K H1 x d → Wk K wi1 ((wipe σ vs).set j (some x)) H1 f)
    (hl : ∀ (i : Nat) f g, fs[i]? = some f → gs[i]? = some g → g.length = f.length)
    (he : ∀ (i m : Nat) d f g a e x y H1, ds[i]? = some d → fs[i]? = some f → gs[i]? = some g → f[m]? = some a → g[m]? = some e → Same H H1 → Tp K H1 x d → Tp K H1 y a → EvD K te ((wipe ((wipe σ vs).set j (some x)) vs1).set j1 (some y)) H1 e) :
    EvDL K (tLc2 wi (gName j) tYes wi1 (gName j1) tYes te vs vs1) σ H gs.flatten := fun H0 s Q q => by
  refine (h H0 s).go _ fun J H1 s1 hgo hst hy Dl hD => ?_
  refine ⟨fun i m H' => m = ds.length - i ∧ i ≤ ds.length ∧ Same H1 H' ∧ ∃ acc, H' Dl = some (.lst acc) ∧ TpL K H' acc (gs.take i).flatten, ⟨ds.length, by simp, Nat.zero_le _, same_new hD, [], upd_same, by simp; exact .nil⟩, ?_⟩
  rintro i m H' ⟨rfl, hle, s2, acc, ea, ta⟩
  by_cases hlt : i < ds.length
  · refine .inr ⟨hgo i H' hlt (.of s2), fun H3 => i + 1 ≤ ds.length ∧ Same H1 H3 ∧ ∃ acc, H3 Dl = some (.lst acc) ∧ TpL K H3 acc (gs.take (i + 1)).flatten, fun H3 p => ⟨ds.length - (i + 1), by omega, rfl, p⟩, fun x H'' y => ?_⟩
    obtain ⟨rfl, hd⟩ := hy i x H' H'' (.of s2) y
    obtain ⟨d, hd1, hd2⟩ := hd hlt
    have ef : fs[i]? = some (fs[i]'(by omega)) := List.getElem?_eq_getElem (by omega)
    have eg : gs[i]? = some (gs[i]'(by omega)) := List.getElem?_eq_getElem (by omega)
    have el := hl i _ _ ef eg
    obtain ⟨f, hfe⟩ : ∃ f, fs[i]'(by omega) = f := ⟨_, rfl⟩
    obtain ⟨gg, hge⟩ : ∃ f, gs[i]'(by omega) = f := ⟨_, rfl⟩
    rw [hfe] at ef el
    rw [hge] at eg el
    have ss : Same H H'' := (s.trans s1).trans s2
    have etk : (gs.take (i + 1)).flatten = (gs.take i).flatten ++ gg := by
      rw [List.take_add_one, eg]
      simp
    have bnd : (gs.take i).flatten.length + gg.length ≤ 1000000 := by
      have e4 : gs.flatten = (gs.take (i + 1)).flatten ++ (gs.drop (i + 1)).flatten := by
        rw [← List.flatten_append, List.take_append_drop]
      rw [e4, etk, List.length_append, List.length_append] at hz
      omega
    refine ⟨hw x, yes_then ?_⟩
    refine (hi i d f x H'' hd1 ef ss hd2).go _ fun J1 H4 s4 hgo1 hst1 hy1 => ?_
    refine ⟨fun a k H5 => k = f.length - a ∧ a ≤ f.length ∧ Same H1 H5 ∧ TupK H4 H5 ∧ KeepB Dl H4 H5 ∧ ∃ acc, H5 Dl = some (.lst acc) ∧ TpL K H5 acc ((gs.take i).flatten ++ gg.take a), ⟨f.length, by simp, Nat.zero_le _, s2.trans s4, .of (Same.refl _), KeepB.refl _ _, acc, s4 _ _ ea, by simpa using ta.stay (.of s4)⟩, ?_⟩
    rintro a k H5 ⟨rfl, ale, s5, tk5, kb5, acc5, ea5, ta5⟩
    have st5 : Stays H'' H4 H5 := ⟨tk5, fun b o hb e => kb5 b o e fun z => by
      rw [z, ea] at hb
      cases hb⟩
    by_cases alt : a < f.length
    · refine .inr ⟨hgo1 a H5 alt st5, fun H6 => a + 1 ≤ f.length ∧ Same H1 H6 ∧ TupK H4 H6 ∧ KeepB Dl H4 H6 ∧ ∃ acc, H6 Dl = some (.lst acc) ∧ TpL K H6 acc ((gs.take i).flatten ++ gg.take (a + 1)), fun H6 p => ⟨f.length - (a + 1), by omega, rfl, p⟩, fun y H6 yy => ?_⟩
      obtain ⟨rfl, hd'⟩ := hy1 a y H5 H6 st5 yy
      obtain ⟨e0, he1, he2⟩ := hd' alt
      have eg2 : gg[a]? = some (gg[a]'(by omega)) := List.getElem?_eq_getElem (by omega)
      refine ⟨hw1 x y, yes_then ?_⟩
      have sx : Same H H6 := (s.trans s1).trans s5
      refine he i a d f gg e0 _ x y H6 hd1 ef eg he1 eg2 sx (hd2.stay ((TupK.of s4).trans tk5)) he2 H6 (Same.refl _) _ fun v H7 s7 tv => ?_
      have e7 := s7 _ _ ea5
      refine ⟨acc5, e7, by rw [ta5.len, List.length_append, List.length_take]; exact sz6 (by omega), alt, same_upd_new (s5.trans s7) hD, (tk5.trans (.of s7)).trans (.keep keep_upd e7), (kb5.trans (KeepB.of s7)).trans keep_upd, _, upd_same, ?_⟩
      have et : gg.take (a + 1) = gg.take a ++ [gg[a]'(by omega)] := by
        rw [List.take_add_one, eg2]
        rfl
      rw [et, ← List.append_assoc]
      exact ((ta5.stay (.of s7)).app (.one tv)).stay (.keep keep_upd e7)
    · have e : a = f.length := by omega
      subst e
      refine .inl ⟨hst1 H5 st5, hlt, s5, acc5, ea5, ?_⟩
      rw [etk]
      rw [← el, List.take_length] at ta5
      exact ta5
  · have e : i = ds.length := by omega
    subst e
    refine .inl ⟨hst H' (.of s2), q Dl acc H' (s1.free hD) (s1.trans s2) ea ?_⟩
    rw [← hg, List.take_length] at ta
    exact ta
end
end Mg

set_option Elab.async false
set_option linter.all false
set_option maxRecDepth 100000
set_option maxHeartbeats 1000000
namespace Mg
open PySem PySem.Spec PyProof.Rows L2
/-! max(xs, default=d) of a list of whole numbers -/
def maxI (d : Int) : List Int → Int
  | [] => d
  | y :: ys => ys.foldl max y
def rMaxD (K : PySem.W.Frag) : List V → List V → Hp → VK → Prop := fun vs zs H Q => ∃ (a : Addr) (ns : List Int) (d : Int), vs = [V.ref a] ∧ zs = [.int d] ∧ SqL K H a (ns.map V.int) ∧ Q (.int (maxI d ns)) H
theorem reads_ints {h : Heap} : ∀ {vs : List Value} {ns : List Int}, IntsAre vs ns → ReadsAll h vs (ns.map PyData.int) []
  | [], [], _ => .nil
  | [], _ :: _, h => by cases h
  | _ :: _, [], h => by cases h
  | v :: vs, n :: ns, h => by
    cases h with
    | cons t r => exact .cons (.int n _) (reads_ints (by assumption))
theorem depth_ints : ∀ ns : List Int, PyData.depthAll (ns.map PyData.int) = 0
  | [] => rfl
  | n :: ns => by
    show max 0 (PyData.depthAll (ns.map PyData.int)) = 0
    rw [depth_ints ns]
    rfl
theorem alike_ints (ns : List Int) : PySem.W.AlikeAll (ns.map PyData.int) := by
  refine ⟨fun x hx y hy => ?_, fun x hx => ?_⟩
  · obtain ⟨a, _, rfl⟩ := List.mem_map.mp hx
    obtain ⟨b, _, rfl⟩ := List.mem_map.mp hy
    rfl
  · obtain ⟨a, _, rfl⟩ := List.mem_map.mp hx
    intro e
    cases e
theorem cr_maxD {X : Cx} (hc : X.calm = true) (hu : X.A.units + 1 < cLine) : CallRK X (.builtin "max") [Str.ofString "default"] (rMaxD X.K) := by
  intro pins s σ H vs zs us ws Q I r rz h
  obtain ⟨a, ns, d, rfl, rfl, hs, q⟩ := h
  obtain ⟨its, rv, hl, hz⟩ := I.list hs
  obtain rfl := Vals.ref1 r
  obtain ⟨w1, rfl, t0, rfl⟩ : ∃ w1, ws = [w1] ∧ ∃ t, w1 = Value.int d t := by
    cases rz with
    | cons a b =>
      cases b
      exact ⟨_, rfl, a⟩
  have hi := rv.ints
  refine PySem.W.max_list_default (as := []) (xs := ns.map PyData.int) (I.ok.hd hc) hl.isList (by rw [List.toList_toArray]; exact reads_ints hi) (alike_ints ns) (by rw [depth_ints]; exact hu) (fun e h' tk hk => ?_) fun y ys i v h' tk bs e hv rd hk => ?_
  · have e : ns = [] := List.map_eq_nil_iff.mp e
    subst e
    exact ⟨.int _, H, I.kept hk, ⟨_, rfl⟩, q⟩
  · cases ns with
    | nil => cases e
    | cons n ns =>
      rw [List.map_cons] at e
      cases e
      rw [PySem.W.maxD_ints] at rd
      cases rd with
      | int _ t => exact ⟨.int _, H, I.kept hk, ⟨_, rfl⟩, q⟩
theorem maxI_le {d : Int} : ∀ {ns : List Int} {m : Int}, (∀ n ∈ ns, n ≤ m) → d ≤ m → maxI d ns ≤ m
  | [], m, _, h => h
  | y :: ys, m, h, _ => by
    have : ∀ (ys : List Int) (y : Int), y ≤ m → (∀ n ∈ ys, n ≤ m) → ys.foldl max y ≤ m := by
      intro ys
      induction ys with
      | nil => intro y a _; exact a
      | cons z zs ih =>
        intro y a b
        exact ih _ (by have := b z (List.mem_cons_self ..); omega) fun n hn => b n (List.mem_cons_of_mem _ hn)
    exact this ys y (h y (List.mem_cons_self ..)) fun n hn => h n (List.mem_cons_of_mem _ hn)
theorem maxI_cons (d : Int) (y : Int) (ys : List Int) (h : ∀ n ∈ y :: ys, d ≤ n) : maxI d (y :: ys) = max y (maxI d ys) := by
  have key : ∀ (ys : List Int) (a b : Int), ys.foldl max (max a b) = max a (ys.foldl max b) := by
    intro ys
    induction ys with
    | nil => intro a b; rfl
    | cons z zs ih =>
      intro a b
      rw [List.foldl_cons, List.foldl_cons, show max (max a b) z = max a (max b z) by omega]
      exact ih _ _
  cases ys with
  | nil =>
    have := h y (List.mem_cons_self ..)
    show y = max y d
    omega
  | cons z zs =>
    show (z :: zs).foldl max y = max y (zs.foldl max z)
    exact key zs y z
end Mg

set_option Elab.async false
set_option linter.all false
set_option maxRecDepth 100000
set_option maxHeartbeats 1000000
namespace Mg
open PySem PySem.Spec PyProof.Rows L2
/-! more of the calculus: short words for bodies -/
def rLenQ (K : PySem.W.Frag) : List V → Hp → VK → Prop := fun xs H Q => ∃ p ys, xs = [.ref p] ∧ (SqL K H p ys ∨ SqT K H p ys) ∧ (ys.length ≤ sizeLine → Q (.int ys.length) H)
theorem call_lenK {X : Cx} : CallR X (.builtin "len") (rLenQ X.K) := call_len_sq
theorem FnOk.vac {P : Program} {w : World} {K : PySem.W.Frag} {mg : Str → Option Value} {base : Heap} {CX : CXT} {k : Nat} {f : Addr} {fd : FuncData} {ps : List Str} {sp : Sp} (h : ∀ vs H Q E, ¬ sp vs H Q E) : FnOk P w K mg base CX k f fd ps sp :=
  ⟨fun _ _ _ _ z => (h _ _ _ _ z).elim, fun _ _ _ _ _ _ _ _ _ _ _ _ _ z => (h _ _ _ _ z).elim⟩
section
variable {K : PySem.W.Frag} {σ : L2.St} {H0 H H1 H' : Hp} {p : Addr} {as ds es : List PyData} {d : PyData} {ta tb te tl : TE} {tu tw tz : TS} {g : TG} {D : Ends} {t : TT} {b : Bool} {v : V} {Q : VK}
theorem g_name {i : Nat} {Q : L2.St → Hp → Prop} (h : Q (σ.set i (some v)) H) : gName i v σ H Q := h
theorem retL (kk : ∀ p xs H', H p = none → Same H H' → H' p = some (.lst xs) → TpL K H' xs es → Q (.ref p) H') (s : Same H H1) (h : EvDL K te σ H1 es) (e : D.rt = Q) : tRet te D σ H1 := by
  show te σ H1 D.rt
  rw [e]
  exact h H1 (Same.refl _) _ fun p xs H2 n s2 e l => kk p xs H2 (s.free n) (s.trans s2) e l
theorem retD (kk : ∀ v H', Same H H' → Tp K H' v d → Q v H') (s : Same H H1) (h : EvD K te σ H1 d) (e : D.rt = Q) : tRet te D σ H1 := by
  show te σ H1 D.rt
  rw [e]
  exact h H1 (Same.refl _) _ fun v H2 s2 t => kk v H2 (s.trans s2) t
theorem retAcc {i : Nat} (kk : ∀ p xs H', H p = none → Same H H' → H' p = some (.lst xs) → TpL K H' xs es → Q (.ref p) H') (A : Acc K H p es H1) (hi : σ[i]? = some (some (.ref p))) (e : D.rt = Q) : tRet (tVar i) D σ H1 := by
  show tVar i σ H1 D.rt
  rw [e]
  obtain ⟨a, b, xs, c, l⟩ := A
  exact ⟨_, hi, kk p xs H1 a b c l⟩
theorem q_noS {i : Nat} {x y : Str} (hv : σ[i]? = some (some (.str x))) (ne : x ≠ y) (k : tz D σ H) : tSeq (tIfS (tTest (tOp rEq (tVar i) (tC (.str y)))) tu tNext) tz D σ H := by
  refine ⟨_, hv, rfl, _, rfl, iteN ?_ k⟩
  rw [decide_eq_true_eq]
  intro z
  injection z with z
  exact ne z
theorem q_yesS {i : Nat} {x : Str} (hv : σ[i]? = some (some (.str x))) (k : tu { D with nx := tz D } σ H) : tSeq (tIfS (tTest (tOp rEq (tVar i) (tC (.str x)))) tu tw) tz D σ H := ⟨_, hv, rfl, _, rfl, iteP (decide_eq_true rfl) k⟩
theorem q_no (h : EvDT K t σ H b) (e : b = false) (k : ∀ H1, Same H H1 → tz D σ H1) : tSeq (tIfS t tu tNext) tz D σ H := q_when h (fun z => by rw [e] at z; cases z) fun _ H1 s => k H1 s
theorem q_yes (h : EvDT K t σ H b) (e : b = true) (k : ∀ H1, Same H H1 → tu { D with nx := tz D } σ H1) : tSeq (tIfS t tu tw) tz D σ H := q_if h (fun _ H1 s => k H1 s) fun z => by rw [e] at z; cases z
theorem q_forT {xs0 : List V} (h : EvD K tl σ H (.tuple ds)) (hp : H p = some (.lst xs0)) (Pv : Nat → L2.St → Hp → Prop) (h0 : ∀ H1, Same H H1 → Pv 0 σ H1)
    (hs : ∀ H1, Same H H1 → ∀ i d x σ' H', ds[i]? = some d → Pv i σ' H' → KeepB p H1 H' → Tp K H' x d → g x σ' H' fun σ2 H2 => tu { D with nx := fun σ3 H3 => Pv (i + 1) σ3 H3 ∧ KeepB p H1 H3, ct := fun σ3 H3 => Pv (i + 1) σ3 H3 ∧ KeepB p H1 H3, bk := tz D } σ2 H2)
    (hd : ∀ σ' H', Pv ds.length σ' H' → KeepB p H H' → tz D σ' H') : tSeq (tFor (iTup K tl) g tu) tz D σ H := s_forT (D := { D with nx := tz D }) h hp Pv h0 hs hd
theorem q_forL {xs0 : List V} (h : EvDL K tl σ H ds) (hp : H p = some (.lst xs0)) (Pv : Nat → L2.St → Hp → Prop) (h0 : ∀ H1, Same H H1 → Pv 0 σ H1)
    (hs : ∀ H1, Same H H1 → ∀ i d x σ' H', ds[i]? = some d → Pv i σ' H' → KeepB p H1 H' → Tp K H' x d → g x σ' H' fun σ2 H2 => tu { D with nx := fun σ3 H3 => Pv (i + 1) σ3 H3 ∧ KeepB p H1 H3, ct := fun σ3 H3 => Pv (i + 1) σ3 H3 ∧ KeepB p H1 H3, bk := tz D } σ2 H2)
    (hd : ∀ σ' H', Pv ds.length σ' H' → KeepB p H H' → tz D σ' H') : tSeq (tFor (iList K tl) g tu) tz D σ H := s_forL (D := { D with nx := tz D }) h hp Pv h0 hs hd
theorem q_enum {xs0 xs : List V} {j : Nat} {a : Addr} (hj : σ[j]? = some (some (.ref a))) (ha : H a = some (.lst xs)) (l : TpL K H xs ds) (ne : a ≠ p) (hp : H p = some (.lst xs0)) (Pv : Nat → L2.St → Hp → Prop) (h0 : Pv 0 σ H)
    (hs : ∀ i d x T σ' H', ds[i]? = some d → Pv i σ' H' → KeepB p H H' → Tp K H' x d → H' T = none → g (.ref T) σ' (upd H' T (.tup [.int (i : Nat), x])) fun σ2 H2 => tu { D with nx := fun σ3 H3 => Pv (i + 1) σ3 H3 ∧ KeepB p H H3, ct := fun σ3 H3 => Pv (i + 1) σ3 H3 ∧ KeepB p H H3, bk := tz D } σ2 H2)
    (hd : ∀ σ' H', Pv ds.length σ' H' → KeepB p H H' → tz D σ' H') : tSeq (tFor (iEnum K (tCons (tVar j) tNil)) g tu) tz D σ H := s_enum (D := { D with nx := tz D }) hj ha l ne hp Pv h0 hs hd
/-- if x is not None: xs.append(x) | xs.extend([..] + f(x)) -/
theorem none_scr (s : FScr) : noneD s.d = (match s with | .no => true | .yes _ => false) := by cases s <;> rfl
theorem e_maxD {ns : List Int} {z : Int} (h : EvDL K te σ H (ns.map PyData.int)) : EvD K (tCKw (rMaxD K) (tCons te tNil) (tCons (tC (.int z)) tNil)) σ H (.int (maxI z ns)) := fun H1 s Q q => h H1 s _ fun p xs H2 _ s2 e l => by
  have el := l.ints
  subst el
  exact ⟨p, ns, z, rfl, rfl, SqL.of e, q _ H2 s2 (.int _)⟩
theorem e_sum {ns : List Int} (h : EvDL K te σ H (ns.map PyData.int)) : EvD K (tCB (rSum K) (tCons te tNil)) σ H (.int ns.sum) := fun H1 s Q q => h H1 s _ fun p xs H2 _ s2 e l => by
  have el := l.ints
  subst el
  exact ⟨p, ns, rfl, SqL.of e, q _ H2 s2 (.int _)⟩
end
theorem get_map {α β : Type} {f : α → β} {l : List α} {i : Nat} {y : β} (h : (l.map f)[i]? = some y) : ∃ x, l[i]? = some x ∧ y = f x := by
  rw [List.getElem?_map] at h
  cases e : l[i]? with
  | none => rw [e] at h; cases h
  | some x => rw [e] at h; exact ⟨x, rfl, (Option.some.inj h).symm⟩
theorem map_get {α β : Type} {f : α → β} {l : List α} {i : Nat} {x : α} (h : l[i]? = some x) : (l.map f)[i]? = some (f x) := by
  rw [List.getElem?_map, h]
  rfl
theorem flat_snoc {α β : Type} {f : α → List β} {l : List α} {i : Nat} {x : α} (h : l[i]? = some x) : (l.take (i + 1)).flatMap f = (l.take i).flatMap f ++ f x := by
  rw [List.take_add_one, h, List.flatMap_append]
  simp
theorem map_snoc {α β : Type} {f : α → β} {l : List α} {i : Nat} {x : α} (h : l[i]? = some x) : (l.take (i + 1)).map f = (l.take i).map f ++ [f x] := by
  rw [List.take_add_one, h, List.map_append]
  rfl
theorem flat_le {α β : Type} {f : α → List β} : ∀ {l : List α} {i : Nat} {x : α}, l[i]? = some x → ((l.take i).flatMap f).length + (f x).length ≤ (l.flatMap f).length
  | [], _, _, h => by simp at h
  | y :: l, 0, x, h => by
    cases Option.some.inj h
    simp
  | y :: l, i + 1, x, h => by
    have := flat_le (f := f) (l := l) (i := i) (x := x) h
    rw [List.take_succ_cons, List.flatMap_cons, List.flatMap_cons, List.length_append, List.length_append]
    omega
/-! numbers of rows -/
mutual
theorem inn_row : ∀ r : FRow, r.inn.length ≤ r.words.length
  | .nil => Nat.le_refl _
  | .cons i r => by
    rw [FRow.inn, FRow.words, List.length_append, List.length_append]
    have := inn_item i
    have := inn_row r
    omega
theorem inn_item : ∀ i : FItem, i.inn.length ≤ i.words.length
  | .mk n b a => by
    rw [FItem.inn, FItem.words, List.length_append, List.length_append, List.length_append, List.length_append]
    have := inn_nuc n
    have := inn_scr "_" b
    have := inn_scr "^" a
    omega
theorem inn_scr (s : Str) : ∀ c : FScr, c.inn.length ≤ (c.words s).length
  | .no => Nat.le_refl _
  | .yes r => by
    have := inn_row r
    simp only [FScr.inn, FScr.words, List.length_cons, List.length_append]
    omega
theorem inn_nuc : ∀ n : FNuc, n.inn.length ≤ n.words.length
  | .sym x => by simp [FNuc.inn]
  | .group r => by
    have := inn_row r
    simp only [FNuc.inn, FNuc.words, List.length_cons, List.length_append]
    omega
  | .frac o u => by
    have := inn_row o
    have := inn_row u
    simp only [FNuc.inn, FNuc.words, List.length_cons, List.length_append]
    omega
  | .root r => by
    have := inn_row r
    simp only [FNuc.inn, FNuc.words, List.length_cons, List.length_append]
    omega
  | .fence o c r => by
    have := inn_row r
    simp only [FNuc.inn, FNuc.words, List.length_cons, List.length_append]
    omega
  | .grid g => by
    have := inn_grid "{" g
    simp only [FNuc.inn, FNuc.words, List.length_cons, List.length_append]
    omega
theorem inn_grid (s : Str) : ∀ g : FGrid, g.inn.length ≤ (g.words s).length
  | .nil => Nat.le_refl _
  | .cons c g => by
    have := inn_cells s c
    have := inn_grid "~" g
    rw [FGrid.inn, FGrid.words, List.length_append, List.length_append]
    omega
theorem inn_cells (s : Str) : ∀ c : FCells, c.inn.length ≤ (c.words s).length
  | .nil => Nat.le_refl _
  | .cons r c => by
    have := inn_row r
    have := inn_cells "&" c
    simp only [FCells.inn, FCells.words, List.length_cons, List.length_append]
    omega
end
theorem cells_len (s : Str) : ∀ c : FCells, c.rows.length ≤ (c.words s).length
  | .nil => Nat.le_refl _
  | .cons r c => by
    have := cells_len "&" c
    simp only [FCells.rows, FCells.words, List.length_cons, List.length_append]
    omega
theorem all_len (s : Str) : ∀ g : FGrid, g.all.length ≤ (g.words s).length
  | .nil => Nat.le_refl _
  | .cons c g => by
    have := cells_len s c
    have := all_len "~" g
    rw [FGrid.all, FGrid.words, List.length_append, List.length_append]
    omega
theorem nrows_len (n : FNuc) : n.rows.length ≤ n.words.length := by
  cases n with
  | grid g =>
    have := all_len "{" g
    simp only [FNuc.rows, FNuc.words, List.length_cons, List.length_append]
    omega
  | _ => simp [FNuc.rows, FNuc.words]
theorem rows_len (i : FItem) : i.rows.length ≤ i.words.length := by
  cases i with
  | mk n b a =>
    have := nrows_len n
    cases b <;> cases a <;> simp [FItem.rows, FScr.rows, FItem.words, FScr.words] <;> omega
/-! the greatest of natural numbers -/
def natMax (ns : List Nat) : Nat := ns.foldr max 0
theorem natMax_le {m : Nat} : ∀ {ns : List Nat}, natMax ns ≤ m ↔ ∀ n ∈ ns, n ≤ m
  | [] => by simp [natMax]
  | n :: ns => by
    have := natMax_le (m := m) (ns := ns)
    unfold natMax at this ⊢
    rw [List.foldr_cons, List.forall_mem_cons, ← this]
    omega
theorem maxI_nat : ∀ ns : List Nat, maxI 0 (ns.map fun n : Nat => (n : Int)) = ((natMax ns : Nat) : Int)
  | [] => rfl
  | n :: ns => by
    rw [List.map_cons, maxI_cons _ _ _ (fun m hm => ?_), maxI_nat ns]
    · show max (n : Int) _ = ((max n (natMax ns) : Nat) : Int)
      omega
    · rcases List.mem_cons.mp hm with rfl | hm
      · exact Int.natCast_nonneg _
      · obtain ⟨q, _, rfl⟩ := List.mem_map.mp hm
        exact Int.natCast_nonneg _
theorem dep_max (r : FRow) : r.dep = natMax (r.items.flatMap fun i => i.rows.map fun q => q.dep + 1) := by
  have key : ∀ m, r.dep ≤ m ↔ natMax (r.items.flatMap fun i => i.rows.map fun q => q.dep + 1) ≤ m := fun m => by
    rw [natMax_le, FRow.dep_le]
    constructor
    · intro h n hn
      obtain ⟨i, hi, hn⟩ := List.mem_flatMap.mp hn
      obtain ⟨q, hq, rfl⟩ := List.mem_map.mp hn
      exact FItem.dep_le.mp (h i hi) q hq
    · intro h i hi
      exact FItem.dep_le.mpr fun q hq => h _ (List.mem_flatMap.mpr ⟨i, hi, List.mem_map.mpr ⟨q, hq, rfl⟩⟩)
  exact Nat.le_antisymm ((key _).mpr (Nat.le_refl _)) ((key _).mp (Nat.le_refl _))
end Mg

set_option Elab.async false
set_option linter.all false
set_option maxRecDepth 100000
set_option maxHeartbeats 1000000
namespace Mg
open PySem PySem.Spec PyProof.Rows L2
/-! more of the calculus: calls by values, comprehensions that leave out -/
section
variable {K : PySem.W.Frag} {σ : L2.St} {H : Hp} {te tl ta tb : TE} {tas : TA} {ds es : List PyData} {d : PyData} {vs : List Nat} {v : V}
theorem e_callV {sp : Sp} {us : List V} {E : XK} (ha : ∀ H1, Same H H1 → ∀ Q : List V → Hp → Prop, (∀ H2, Same H1 H2 → Q us H2) → tas σ H1 Q) (hs : ∀ H1, Same H H1 → ∀ Q : VK, (∀ v H2, Same H1 H2 → Tp K H2 v d → Q v H2) → sp us H1 Q E) : EvD K (tCall sp [] E tas) σ H d := fun H1 s Q q =>
  ha H1 s _ fun H2 s2 => by
    rw [List.append_nil]
    exact hs H2 (s.trans s2) Q fun v H3 s3 t => q v H3 (s2.trans s3) t
theorem l_callV {sp : Sp} {us : List V} {E : XK} (ha : ∀ H1, Same H H1 → ∀ Q : List V → Hp → Prop, (∀ H2, Same H1 H2 → Q us H2) → tas σ H1 Q) (hs : ∀ H1, Same H H1 → ∀ Q : VK, (∀ p xs H2, H1 p = none → Same H1 H2 → H2 p = some (.lst xs) → TpL K H2 xs ds → Q (.ref p) H2) → sp us H1 Q E) : EvDL K (tCall sp [] E tas) σ H ds := fun H1 s Q q =>
  ha H1 s _ fun H2 s2 => by
    rw [List.append_nil]
    exact hs H2 (s.trans s2) Q fun p xs H3 n s3 e l => q p xs H3 (s2.free n) (s2.trans s3) e l
theorem l_lcTF {α : Type} {tt : TT} {j : Nat} (L : List α) (f : α → PyData) (p : α → Bool) (g : α → PyData) (h : EvD K tl σ H (.tuple (L.map f))) (hz : L.length ≤ 1000000) (hw : ∀ x, wipe ((wipe σ vs).set j (some x)) vs = wipe σ vs)
    (ht : ∀ a ∈ L, ∀ x H1, Same H H1 → Tp K H1 x (f a) → EvDT K tt ((wipe σ vs).set j (some x)) H1 (p a)) (he : ∀ a ∈ L, p a = true → ∀ x H1, Same H H1 → Tp K H1 x (f a) → EvD K te ((wipe σ vs).set j (some x)) H1 (g a)) : EvDL K (tLc (iTup K tl) (gName j) tt te vs) σ H ((L.filter p).map g) := fun H0 s Q q => h H0 s _ fun v H1 s1 tv => by
  obtain ⟨a, xs, rfl, sq, l⟩ := tv.inv
  have ll : xs.length = L.length := by rw [l.len, List.length_map]
  refine ⟨a, rfl, ⟨xs, sq⟩, fun D hD => ⟨fun i m H' => m = L.length - i ∧ i ≤ L.length ∧ Same H1 H' ∧ ∃ acc, H' D = some (.lst acc) ∧ TpL K H' acc (((L.take i).filter p).map g), ⟨L.length, by simp, Nat.zero_le _, same_new hD, [], upd_same, by simp; exact .nil⟩, ?_⟩⟩
  rintro i m H' ⟨rfl, hi, s2, acc, ea, ta⟩
  by_cases hlt : i < L.length
  · have hx : xs[i]? = some (xs[i]'(by omega)) := List.getElem?_eq_getElem (by omega)
    refine .inr ⟨⟨xs, _, same_sqt s2 sq, hx⟩, fun H3 => i + 1 ≤ L.length ∧ Same H1 H3 ∧ ∃ acc, H3 D = some (.lst acc) ∧ TpL K H3 acc (((L.take (i + 1)).filter p).map g), fun H3 h3 => ⟨L.length - (i + 1), by omega, rfl, h3⟩, fun x H'' y => ?_⟩
    obtain ⟨rfl, y⟩ := y
    have hx := y xs (same_sqt s2 sq)
    obtain ⟨d, e1, e2⟩ := l.get' hx
    obtain ⟨b, hb, rfl⟩ := get_map e1
    have bm := List.mem_of_getElem? hb
    have e2 := e2.stay (.of s2)
    have tk : L.take (i + 1) = L.take i ++ [b] := by
      rw [List.take_add_one, hb]
      rfl
    have sl : ((L.take i).filter p).length ≤ 1000000 := by
      have h1 := List.length_filter_le p (L.take i)
      rw [List.length_take] at h1
      omega
    refine ⟨hw x, ht b bm x H'' ((s.trans s1).trans s2) e2 H'' (Same.refl _) _ fun H3 s3 => ?_⟩
    cases hp : p b with
    | true =>
      refine iteT (B := _ ∧ _) ?_
      refine he b bm hp x H'' ((s.trans s1).trans s2) e2 H3 s3 _ fun v H4 s4 tv => ?_
      have ea4 := s4 _ _ (s3 _ _ ea)
      refine ⟨acc, ea4, by rw [ta.len, List.length_map]; have h1 := List.length_filter_le p (L.take i); rw [List.length_take] at h1; exact sz6 (by omega), hlt, same_upd_new ((s2.trans s3).trans s4) hD, _, upd_same, ?_⟩
      rw [tk, List.filter_append, List.map_append, List.filter_cons, if_pos hp]
      exact ((ta.stay (.of (s3.trans s4))).app (.one tv)).stay (.keep keep_upd ea4)
    | false =>
      refine iteF ?_
      refine ⟨hlt, s2.trans s3, acc, s3 _ _ ea, ?_⟩
      rw [tk, List.filter_append, List.map_append, List.filter_cons, if_neg (by rw [hp]; exact Bool.false_ne_true)]
      simpa using ta.stay (.of s3)
  · have e : i = L.length := by omega
    subst e
    refine .inl ⟨⟨xs, same_sqt s2 sq, by omega⟩, q D acc H' (s1.free hD) (s1.trans s2) ea ?_⟩
    rw [List.take_length] at ta
    exact ta
/-- an item of a new list -/
theorem e_ixNL {i : Int} (ha : EvDL K ta σ H ds) (hb : ∀ H1, Same H H1 → EvD K tb σ H1 (.int i)) (h : atI ds i = some d) : EvD K (tOp (rIxL K) ta tb) σ H d := fun H1 s Q q => ha H1 s _ fun p xs H2 _ s2 e l => hb H2 (s.trans s2) H2 (Same.refl _) _ fun v H3 s3 tv => by
  rw [tp_int tv]
  obtain ⟨n, x, h1, h2, h3⟩ := atI_get l.len h
  exact ⟨p, xs, i, x, rfl, rfl, SqL.of (s3 _ _ e), h1, q _ _ (s2.trans s3) ((l.at h2 h3).stay (.of s3))⟩
/-- x in (a, b, ..), x in [a, b, ..] of texts, made on the way -/
theorem in_strs {x : Str} {ws : List Str} : inV (.str x) (ws.map V.str) = ws.any fun r => r == x := by
  unfold inV
  rw [List.any_map]
  rfl
theorem flat_strs2 (ws : List Str) : (ws.map V.str).all flatV = true := by
  rw [List.all_map]
  exact List.all_eq_true.mpr fun _ _ => rfl
theorem e_inT {x : Str} {ws : List Str} (ha : EvD K ta σ H (.str x)) (hb : EvDA K tas σ H (ws.map PyData.str)) (hl : ws.length ≤ 1000) : EvD K (tOp (rIn K false) ta (tTup tas)) σ H (.bool (ws.any fun r => r == x)) := fun H1 s Q q => ha H1 s _ fun v H2 s2 tv => by
  rw [tp_str tv]
  refine hb H2 (s.trans s2) _ fun vs H3 s3 tvs => ?_
  obtain rfl := tvs.strs
  refine ⟨by rw [List.length_map]; exact sz5 (by omega), fun p hp => ⟨p, _, rfl, .inr (SqT.of upd_same), rfl, flat_strs2 _, ?_⟩⟩
  rw [in_strs]
  exact q _ _ ((s2.trans s3).trans (same_new hp)) (.bl _)
theorem e_inL {x : Str} {ws : List Str} (ha : EvD K ta σ H (.str x)) (hb : EvDA K tas σ H (ws.map PyData.str)) (hl : ws.length ≤ 1000) : EvD K (tOp (rIn K false) ta (tLst tas)) σ H (.bool (ws.any fun r => r == x)) := fun H1 s Q q => ha H1 s _ fun v H2 s2 tv => by
  rw [tp_str tv]
  refine hb H2 (s.trans s2) _ fun vs H3 s3 tvs => ?_
  obtain rfl := tvs.strs
  refine ⟨by rw [List.length_map]; exact sz5 (by omega), fun p hp => ⟨p, _, rfl, .inl (SqL.of upd_same), rfl, flat_strs2 _, ?_⟩⟩
  rw [in_strs]
  exact q _ _ ((s2.trans s3).trans (same_new hp)) (.bl _)
/-- x (not) in a written tuple of texts -/
theorem e_inK {neg : Bool} {x : Str} {ws : List Str} {a : Addr} (ha : EvD K ta σ H (.str x)) (hk : ∀ H, SqT K H a (ws.map V.str)) : EvD K (tOp (rIn K neg) ta (tC (.ref a))) σ H (.bool (if neg then !(ws.any fun r => r == x) else ws.any fun r => r == x)) := fun H1 s Q q => ha H1 s _ fun v H2 s2 tv => by
  rw [tp_str tv]
  refine ⟨a, _, rfl, .inr (hk _), rfl, flat_strs2 _, ?_⟩
  rw [in_strs]
  exact q _ _ s2 (.bl _)
theorem atI_last {α : Type} {l : List α} {x : α} : atI (l ++ [x]) (-1) = some x := by
  unfold atI ixN
  rw [if_neg (by decide), if_pos (by rw [List.length_append]; simp; omega)]
  show (l ++ [x])[(-1 + ((l ++ [x]).length : Int)).toNat]? = some x
  rw [List.length_append, List.length_singleton, show (-1 + ((l.length + 1 : Nat) : Int)).toNat = l.length by omega]
  simp
/-- two whole numbers, which is the greater one -/
theorem e_max2 {r : List V → Hp → VK → Prop} {i j : Int} (hr : ∀ H Q, Q (V.int (if j > i then j else i)) H → r [.int i, .int j] H Q) (ha : EvD K ta σ H (.int i)) (hb : EvD K tb σ H (.int j)) : EvD K (tCB r (tCons ta (tCons tb tNil))) σ H (.int (if j > i then j else i)) := fun H1 s Q q =>
  ha H1 s _ fun v H2 s2 tv => hb H2 (s.trans s2) _ fun u H3 s3 tu => by
    rw [tp_int tv, tp_int tu]
    exact hr _ _ (q _ _ (s2.trans s3) (.int _))
end
section
variable {K : PySem.W.Frag}
theorem r_ixS {σ : L2.St} {z : Str} {c : Nat} {l : List Nat} (h : z.cps.toList = c :: l) (hz : z.length ≤ 1000) : RD K rIxS (.str z) (.int 0) (.str ⟨#[c]⟩) := fun v1 v2 H Q t1 t2 q => by
  rw [tp_str t1, tp_int t2]
  exact ⟨z, 0, c, rfl, rfl, Nat.le_of_lt (small1000 hz), by rw [h]; exact atI_nat (show (c :: l)[0]? = some c from rfl), q _ _ (Same.refl _) (.str _)⟩
theorem r_inS {z : Str} {c : Nat} : RD K (fun x y H Q => ∃ (c : Nat) (z : Str), x = .str ⟨#[c]⟩ ∧ y = .str z ∧ Q (.bl (decide (c ∈ z.cps.toList))) H) (.str ⟨#[c]⟩) (.str z) (.bool (decide (c ∈ z.cps.toList))) := fun v1 v2 H Q t1 t2 q => by
  rw [tp_str t1, tp_str t2]
  exact ⟨c, z, rfl, rfl, q _ _ (Same.refl _) (.bl _)⟩
theorem e_ixL {σ : L2.St} {H : Hp} {j : Nat} {a : Addr} {xs : List V} {ds : List PyData} {tb : TE} {i : Int} {d : PyData} (hj : σ[j]? = some (some (.ref a))) (ha : H a = some (.lst xs)) (l : TpL K H xs ds) (hb : EvD K tb σ H (.int i)) (h : atI ds i = some d) : EvD K (tOp (rIxL K) (tVar j) tb) σ H d := fun H1 s Q q =>
  ⟨_, hj, hb H1 s _ fun v H2 s2 tv => by
    rw [tp_int tv]
    obtain ⟨n, x, h1, h2, h3⟩ := atI_get l.len h
    exact ⟨a, xs, i, x, rfl, rfl, SqL.of (s2 _ _ (s _ _ ha)), h1, q _ _ s2 ((l.at h2 h3).stay ((TupK.of s).trans (.of s2)))⟩⟩
theorem e_starts {σ : L2.St} {H : Hp} {ta tb : TE} {a b : Str} (ha : EvD K ta σ H (.str a)) (hb : EvD K tb σ H (.str b)) : EvD K (tM1 (fun x xs H Q => ∃ a b, x = .str a ∧ xs = [.str b] ∧ Q (.bl (Txt.startswith a b)) H) ta tb) σ H (.bool (Txt.startswith a b)) := fun H1 s Q q =>
  ha H1 s _ fun v H2 s2 tv => by
    rw [tp_str tv]
    refine ⟨⟨a, rfl⟩, hb H2 (s.trans s2) _ fun u H3 s3 tu => ?_⟩
    rw [tp_str tu]
    exact ⟨a, b, rfl, rfl, q _ _ (s2.trans s3) (.bl _)⟩
theorem getD_of {l : List Str} {i : Nat} {x d : Str} (h : l[i]? = some x) : l.getD i d = x := by
  rw [List.getD_eq_getElem?_getD, h]
  rfl
end
section
variable {K : PySem.W.Frag} {σ : L2.St} {H : Hp} {te : TE} {es : List PyData} {vs : List Nat}
theorem l_lcR {j : Nat} {n : Nat} (hl : es.length = n) (hn : n ≤ 100000) (hw : ∀ x, wipe ((wipe σ vs).set j (some x)) vs = wipe σ vs) (he : ∀ (i : Nat) e H1, es[i]? = some e → Same H H1 → EvD K te ((wipe σ vs).set j (some (.int (i : Int)))) H1 e) : EvDL K (tLc (iRng1 (tCons (tC (.int (n : Int))) tNil)) (gName j) tYes te vs) σ H es := fun H0 s Q q => by
  refine ⟨(n : Int), rfl, by omega, by omega, fun D hD => lc_data (K := K) es hD (by omega) (fun i H' hi s2 => by show i < ((n : Int)).toNat; omega) (fun H' s2 => by show ((n : Int)).toNat ≤ es.length; omega) ?_ fun H' acc s2 e ta => q D acc H' hD s2 e ta⟩
  rintro i x H' H'' R Z hi s2 ⟨rfl, rfl⟩ k
  have e3 : es[i]? = some es[i] := List.getElem?_eq_getElem hi
  refine ⟨hw _, iteT (B := Z H'') ?_⟩
  rw [Int.zero_add]
  exact he i _ H'' e3 (s.trans s2) H'' (Same.refl _) R fun v H3 s3 tv => k v _ H3 e3 s3 tv
end
theorem atI0 {α : Type} {x : α} {r : List α} : atI (x :: r) 0 = some x := atI_nat (show (x :: r)[0]? = some x from rfl)
end Mg

set_option Elab.async false
set_option linter.all false
set_option maxRecDepth 100000
set_option maxHeartbeats 1000000
namespace Mg
open PySem L2
/-! formulas whose symbols and delimiters are of a kind, whose grids are small and even -/
section
variable (P : Str → Prop) (D : Option Str → Prop)
mutual
def FRow.good : FRow → Prop
  | .nil => True
  | .cons i r => i.good ∧ r.good
def FItem.good : FItem → Prop
  | .mk n b a => n.good ∧ b.good ∧ a.good
def FScr.good : FScr → Prop
  | .no => True
  | .yes r => r.good
def FNuc.good : FNuc → Prop
  | .sym x => P x
  | .group r => r.good
  | .frac o u => o.good ∧ u.good
  | .root r => r.good
  | .fence o c r => D o ∧ D c ∧ r.good
  | .grid g => g.good ∧ (1 ≤ g.lines.length ∧ g.lines.length ≤ 6) ∧ ∃ m, 1 ≤ m ∧ m ≤ 6 ∧ ∀ c ∈ g.lines, c.rows.length = m
def FGrid.good : FGrid → Prop
  | .nil => True
  | .cons c g => c.good ∧ g.good
def FCells.good : FCells → Prop
  | .nil => True
  | .cons r c => r.good ∧ c.good
end
theorem FRow.good_iff : ∀ {r : FRow}, r.good P D ↔ ∀ i ∈ r.items, i.good P D
  | .nil => by simp [FRow.good, FRow.items]
  | .cons i r => by rw [FRow.good, FRow.items, List.forall_mem_cons, ← FRow.good_iff (r := r)]
theorem FCells.good_iff : ∀ {r : FCells}, r.good P D ↔ ∀ i ∈ r.rows, i.good P D
  | .nil => by simp [FCells.good, FCells.rows]
  | .cons i r => by rw [FCells.good, FCells.rows, List.forall_mem_cons, ← FCells.good_iff (r := r)]
theorem FGrid.good_iff : ∀ {r : FGrid}, r.good P D ↔ ∀ i ∈ r.lines, i.good P D
  | .nil => by simp [FGrid.good, FGrid.lines]
  | .cons i r => by rw [FGrid.good, FGrid.lines, List.forall_mem_cons, ← FGrid.good_iff (r := r)]
end
/-! the words are of a kind, too -/
section
variable {P : Str → Prop} {D : Option Str → Prop} {W : Str → Prop}
structure WKind (P : Str → Prop) (D : Option Str → Prop) (W : Str → Prop) : Prop where
  p : ∀ x, P x → W x
  d : ∀ o, D o → W (delimW o)
  m : ∀ x ∈ ([("{" : Str), "}", "_", "^", "&", "~", "@frac", "@root", "@left", "@right", "@grid"] : List Str), W x
mutual
theorem words_row (K : WKind P D W) : ∀ {r : FRow}, r.good P D → ∀ x ∈ r.words, W x
  | .nil, _, x, h => nomatch h
  | .cons i r, g, x, h => (List.mem_append.mp h).elim (words_it K g.1 x) (words_row K g.2 x)
theorem words_it (K : WKind P D W) : ∀ {r : FItem}, r.good P D → ∀ x ∈ r.words, W x
  | .mk n b a, g, x, h => (List.mem_append.mp h).elim (words_nu K g.1 x) fun h => (List.mem_append.mp h).elim (words_sc K (s := "_") (K.m _ (by decide)) g.2.1 x) (words_sc K (s := "^") (K.m _ (by decide)) g.2.2 x)
theorem words_sc (K : WKind P D W) {s : Str} (hs : W s) : ∀ {r : FScr}, r.good P D → ∀ x ∈ r.words s, W x
  | .no, _, x, h => nomatch h
  | .yes r, g, x, h => by
    simp only [FScr.words, List.mem_cons, List.mem_append, List.not_mem_nil, or_false] at h
    rcases h with rfl | rfl | h | rfl
    · exact hs
    · exact K.m _ (by decide)
    · exact words_row K g x h
    · exact K.m _ (by decide)
theorem words_nu (K : WKind P D W) : ∀ {r : FNuc}, r.good P D → ∀ x ∈ r.words, W x
  | .sym y, g, x, h => by
    cases List.mem_singleton.mp h
    exact K.p _ g
  | .group r, g, x, h => by
    simp only [FNuc.words, List.mem_cons, List.mem_append, List.not_mem_nil, or_false] at h
    rcases h with rfl | h | rfl
    · exact K.m _ (by decide)
    · exact words_row K g x h
    · exact K.m _ (by decide)
  | .root r, g, x, h => by
    simp only [FNuc.words, List.mem_cons, List.mem_append, List.not_mem_nil, or_false] at h
    rcases h with rfl | rfl | h | rfl
    · exact K.m _ (by decide)
    · exact K.m _ (by decide)
    · exact words_row K g x h
    · exact K.m _ (by decide)
  | .frac o u, g, x, h => by
    simp only [FNuc.words, List.mem_cons, List.mem_append, List.not_mem_nil, or_false] at h
    rcases h with rfl | rfl | h | rfl | rfl | h | rfl
    · exact K.m _ (by decide)
    · exact K.m _ (by decide)
    · exact words_row K g.1 x h
    · exact K.m _ (by decide)
    · exact K.m _ (by decide)
    · exact words_row K g.2 x h
    · exact K.m _ (by decide)
  | .fence o c r, g, x, h => by
    simp only [FNuc.words, List.mem_cons, List.mem_append, List.not_mem_nil, or_false] at h
    rcases h with rfl | rfl | h | rfl | rfl
    · exact K.m _ (by decide)
    · exact K.d _ g.1
    · exact words_row K g.2.2 x h
    · exact K.m _ (by decide)
    · exact K.d _ g.2.1
  | .grid q, g, x, h => by
    simp only [FNuc.words, List.mem_cons, List.mem_append, List.not_mem_nil, or_false] at h
    rcases h with rfl | h | rfl
    · exact K.m _ (by decide)
    · exact words_gr K (s := "{") (K.m _ (by decide)) g.1 x h
    · exact K.m _ (by decide)
theorem words_gr (K : WKind P D W) {s : Str} (hs : W s) : ∀ {r : FGrid}, r.good P D → ∀ x ∈ r.words s, W x
  | .nil, _, x, h => nomatch h
  | .cons i r, g, x, h => (List.mem_append.mp h).elim (words_ce K hs g.1 x) (words_gr K (s := "~") (K.m _ (by decide)) g.2 x)
theorem words_ce (K : WKind P D W) {s : Str} (hs : W s) : ∀ {r : FCells}, r.good P D → ∀ x ∈ r.words s, W x
  | .nil, _, x, h => nomatch h
  | .cons i r, g, x, h => by
    simp only [FCells.words, List.mem_cons, List.mem_append] at h
    rcases h with rfl | h | h
    · exact hs
    · exact words_row K g.1 x h
    · exact words_ce K (s := "&") (K.m _ (by decide)) g.2 x h
end
end
end Mg

set_option Elab.async false
set_option linter.all false
set_option maxRecDepth 100000
set_option maxHeartbeats 1000000
namespace Mg
open PySem L2
abbrev sNucRows : Stmt := top 32
abbrev sRowsIn : Stmt := top 31
abbrev sRowsOf : Stmt := top 30
abbrev sRowWords : Stmt := top 35
abbrev sNucWords : Stmt := top 36
abbrev sBraced : Stmt := top 37
abbrev sFenceW : Stmt := top 38
abbrev sGridW : Stmt := top 39
section
variable {P : Program} {w : World} {K : PySem.W.Frag} {mg : Str → Option Value} {base : Heap}
def spNucRows (K : PySem.W.Frag) : Sp := spRL K fun ds es => ∃ n : FNuc, ds = [n.d] ∧ es = n.rows.map FRow.d ∧ n.words.length ≤ 100000
theorem scNucRows : FnScope ["nucleus", "kind", "cells", "cell"] ["nucleus"] (defScope sNucRows) := ⟨rfl, rfl, rfl, by decide +kernel, rfl, by decide +kernel, by decide +kernel⟩
theorem ok_nucrows {f : Addr} {fd : FuncData} (F : Fun K "nucleus_rows" "nucleus_rows" sNucRows f fd) : FnOk P w K mg base CX0 1 f fd ["nucleus"] (spNucRows K) := by
  have sc := scNucRows
  refine F.ok scNucRows (fun vs H Q E h => ?_) (fun cdv A outer s H vs Q E hr h => ?_)
  · obtain ⟨ds, es, l, ⟨n, rfl, _⟩, _⟩ := h
    exact l.len
  · obtain ⟨ds, es, l, ⟨n, rfl, rfl, bnd⟩, k⟩ := h
    cases l with
    | cons t l => cases l with
    | nil =>
    refine ⟨_, (pss_cons (ps_set (i := 1) sc.nd rfl (Or.inl rfl) (pe_ix ix_tup (pv 0) pe_int (fun _ _ => rfl)))
  (pss_cons (ps_if (pt_cmpR op_eq (pv 1) pe_str (nomark _))
  (pss_one (ps_ret (pe_lst pa_nil)))
  pss_nil)
  (pss_cons (ps_if (pt_cmpR op_eq (pv 1) pe_str (nomark _))
  (pss_one (ps_ret (pe_lst (pa_cons (pe_ix ix_tup (pv 0) pe_int (fun _ _ => rfl)) (pa_cons (pe_ix ix_tup (pv 0) pe_int (fun _ _ => rfl)) pa_nil)))))
  pss_nil)
  (pss_cons (ps_if (pt_cmpR op_eq (pv 1) pe_str (nomark _))
  (pss_one (ps_ret (pe_lst (pa_cons (pe_ix ix_tup (pv 0) pe_int (fun _ _ => rfl)) pa_nil))))
  pss_nil)
  (pss_cons (ps_if (pt_cmpR op_eq (pv 1) pe_str (nomark _))
  (pss_one (ps_ret (pe_lc2 (own := [("cells", 2), ("cell", 3)]) (vs1 := [3]) (wi1 := iTup K (tVar 2)) rfl sc.nd (pi_tup (pe_ix ix_tup (pv 0) pe_int (fun _ _ => rfl))) (blkOk_by (own := [("cells", 2), ("cell", 3)]) (N := ["nucleus", "kind", "cells", "cell"]) (sc := defScope sNucRows) (by decide +kernel)) (by decide) (fun _ _ _ _ _ => (pg_name (i := 2) sc.nd rfl (Or.inl rfl))) (fun _ _ _ _ _ => pts_nil) (fun _ _ _ _ _ => (pi_tup (pv 2))) (fun _ _ _ _ _ => (pg_name (i := 3) sc.nd rfl (Or.inl rfl))) (fun _ _ _ _ _ => pts_nil) (fun _ _ _ _ _ => (pv 3)))))
  pss_nil)
  (pss_one (ps_ret (pe_lst (pa_cons (pe_ix ix_tup (pv 0) pe_int (fun _ _ => rfl)) pa_nil))))))))), ?_⟩
    cases n with
    | sym x =>
      have t : Tp K H _ (.tuple [.str "symbol", .str x]) := t
      refine q_set (e_op (e_var rfl t) e_int (r_ixT rfl)) fun kd H1 s1 tk => ?_
      obtain rfl := tp_str tk
      exact q_yesS rfl (retL k s1 (l_lst a_nil (Nat.le_of_ble_eq_true rfl)) rfl)
    | frac o u =>
      have t : Tp K H _ (.tuple [.str "frac", .tuple o.ds, .tuple u.ds]) := t
      refine q_set (e_op (e_var rfl t) e_int (r_ixT rfl)) fun kd H1 s1 tk => ?_
      obtain rfl := tp_str tk
      have t := t.stay (.of s1)
      refine q_noS rfl (by decide +kernel) (q_yesS rfl (retL k s1 (l_lst (a_cons (e_op (e_var rfl t) e_int (r_ixT rfl)) (a_cons (e_op (e_var rfl t) e_int (r_ixT rfl)) a_nil)) (Nat.le_of_ble_eq_true rfl)) rfl))
    | fence o c r =>
      have t : Tp K H _ (.tuple [.str "fence", optD o, optD c, .tuple r.ds]) := t
      refine q_set (e_op (e_var rfl t) e_int (r_ixT rfl)) fun kd H1 s1 tk => ?_
      obtain rfl := tp_str tk
      have t := t.stay (.of s1)
      refine q_noS rfl (by decide +kernel) (q_noS rfl (by decide +kernel) (q_yesS rfl (retL k s1 (l_lst (a_cons (e_op (e_var rfl t) e_int (r_ixT rfl)) a_nil) (Nat.le_of_ble_eq_true rfl)) rfl)))
    | group r =>
      have t : Tp K H _ (.tuple [.str "group", .tuple r.ds]) := t
      refine q_set (e_op (e_var rfl t) e_int (r_ixT rfl)) fun kd H1 s1 tk => ?_
      obtain rfl := tp_str tk
      have t := t.stay (.of s1)
      refine q_noS rfl (by decide +kernel) (q_noS rfl (by decide +kernel) (q_noS rfl (by decide +kernel) (q_noS rfl (by decide +kernel) (retL k s1 (l_lst (a_cons (e_op (e_var rfl t) e_int (r_ixT rfl)) a_nil) (Nat.le_of_ble_eq_true rfl)) rfl))))
    | root r =>
      have t : Tp K H _ (.tuple [.str "root", .tuple r.ds]) := t
      refine q_set (e_op (e_var rfl t) e_int (r_ixT rfl)) fun kd H1 s1 tk => ?_
      obtain rfl := tp_str tk
      have t := t.stay (.of s1)
      refine q_noS rfl (by decide +kernel) (q_noS rfl (by decide +kernel) (q_noS rfl (by decide +kernel) (q_noS rfl (by decide +kernel) (retL k s1 (l_lst (a_cons (e_op (e_var rfl t) e_int (r_ixT rfl)) a_nil) (Nat.le_of_ble_eq_true rfl)) rfl))))
    | grid g =>
      have t : Tp K H _ (.tuple [.str "grid", .tuple g.ds]) := t
      refine q_set (e_op (e_var rfl t) e_int (r_ixT rfl)) fun kd H1 s1 tk => ?_
      obtain rfl := tp_str tk
      have t := t.stay (.of s1)
      have ef : (g.lines.map fun c => c.rows.map FRow.d).flatten = (FNuc.grid g).rows.map FRow.d := by
        rw [FNuc.rows, FGrid.all_eq, List.map_flatMap, List.flatMap_def]
      have bl := nrows_len (.grid g)
      refine q_noS rfl (by decide +kernel) (q_noS rfl (by decide +kernel) (q_noS rfl (by decide +kernel) (q_yesS rfl (retL k s1 (l_is (l_lc2 (ds := g.ds) (g.lines.map fun c => c.rows.map FRow.d) (g.lines.map fun c => c.rows.map FRow.d)
        (fun H2 s2 => .tup ((e_op (e_var rfl t) e_int (r_ixT rfl)).mono s2)) (by rw [FGrid.ds_eq, List.length_map, List.length_map]) (by rw [FGrid.ds_eq, List.length_map, List.length_map]) (by rw [ef, List.length_map]; omega) (fun x => rfl) (fun x y => rfl) ?_ ?_ ?_) ef) rfl))))
      · intro i d f x H2 h1 h2 s2 tx
        rw [FGrid.ds_eq] at h1
        obtain ⟨c, hc, rfl⟩ := get_map h1
        obtain ⟨c', hc', rfl⟩ := get_map h2
        rw [hc] at hc'
        cases hc'
        refine .tup (e_var rfl ?_)
        rw [← FCells.ds_eq]
        exact tx
      · intro i f g h1 h2
        rw [h1] at h2
        cases h2
        rfl
      · intro i m d f g a e x y H2 h1 h2 h3 h4 h5 s2 tx ty
        rw [h2] at h3
        cases h3
        rw [h4] at h5
        cases h5
        exact e_var rfl ty
def spRowsIn (K : PySem.W.Frag) : Sp := spRL K fun ds es => ∃ i : FItem, ds = [i.d] ∧ es = i.rows.map FRow.d ∧ i.words.length ≤ 100000
theorem scRowsIn : FnScope ["item", "nucleus", "below", "above", "rows"] ["item"] (defScope sRowsIn) := ⟨rfl, rfl, rfl, by decide +kernel, rfl, by decide +kernel, by decide +kernel⟩
theorem ok_rowsin {f : Addr} {fd : FuncData} (F : Fun K "rows_in" "rows_in" sRowsIn f fd) (C_nucleus_rows : Cal P w K mg base CX0 1 "nucleus_rows" ["nucleus"] (spNucRows K)) : FnOk P w K mg base CX0 2 f fd ["item"] (spRowsIn K) := by
  have sc := scRowsIn
  refine F.ok scRowsIn (fun vs H Q E h => ?_) (fun cdv A outer s H vs Q E hr h => ?_)
  · obtain ⟨ds, es, l, ⟨n, rfl, _⟩, _⟩ := h
    exact l.len
  · obtain ⟨ds, es, l, ⟨i, rfl, rfl, bnd⟩, k⟩ := h
    cases l with
    | cons t l => cases l with
    | nil =>
    refine ⟨_, (pss_cons (ps_asg (pv 0) (pg_tup rfl (pgs_cons (pg_name (i := 1) sc.nd rfl (Or.inl rfl)) (pgs_cons (pg_name (i := 2) sc.nd rfl (Or.inl rfl)) (pgs_cons (pg_name (i := 3) sc.nd rfl (Or.inl rfl)) pgs_nil)))))
  (pss_cons (ps_set (i := 4) sc.nd rfl (Or.inl rfl) (pe_cal C_nucleus_rows (hr.mono (by omega)) rfl pass0 (pa_cons (pv 1) pa_nil)))
  (pss_cons (ps_if (pt_cmpR op_notN (pv 2) pe_non (nomark _))
  (pss_one (ps_expr (pe_bm PySem.F.plainAttrs_list PySem.F.slot_list_append PySem.F.type_list_append mt_append (pv 4) (pa_cons (pv 2) pa_nil))))
  pss_nil)
  (pss_cons (ps_if (pt_cmpR op_notN (pv 3) pe_non (nomark _))
  (pss_one (ps_expr (pe_bm PySem.F.plainAttrs_list PySem.F.slot_list_append PySem.F.type_list_append mt_append (pv 4) (pa_cons (pv 3) pa_nil))))
  pss_nil)
  (pss_one (ps_ret (pv 4))))))), ?_⟩
    rename_i v
    have bl := rows_len i
    cases i with
    | mk n b a =>
    have bn : n.words.length ≤ 100000 := by
      rw [FItem.words, List.length_append] at bnd
      omega
    have bl2 : n.rows.length + (b.rows.length + a.rows.length) ≤ 100000 := by
      rw [FItem.rows, List.length_append, List.length_append] at bl
      omega
    have t : Tp K H v (.tuple [n.d, b.d, a.d]) := t
    refine q_asg (e_var rfl t) fun v1 H1 s1 t1 => g_tup3 t1 fun x y z tx ty tz => ?_
    refine q_setL (l_call (a_cons (e_var rfl tx) a_nil) ⟨n, rfl, rfl, bn⟩) fun p xs H2 np s2 e l => ?_
    have A := Acc.start (s1.free np) (s1.trans s2) e l
    have ty := ty.stay (.of s2)
    have tz := tz.stay (.of s2)
    have fin : ∀ H3, TupK H2 H3 → Acc K H p (n.rows.map FRow.d ++ b.rows.map FRow.d) H3 → tSeq (tIfS (tTest (tOp (fun x y H Q => y = .non ∧ Q (.bl (!decide (x = .non))) H) (tVar 3) (tC .non))) (tDrop (tBM K "list" rAppend (tVar 4) (tCons (tVar 3) tNil))) tNext) (tRet (tVar 4)) { nx := fun _ H' => Q .non H', rt := Q } [some v, some x, some y, some z, some (.ref p)] H3 := by
      intro H3 tk A3
      have tz := tz.stay tk
      have fin2 : ∀ H4, Acc K H p ((n.rows.map FRow.d ++ b.rows.map FRow.d) ++ a.rows.map FRow.d) H4 → tRet (tVar 4) { nx := fun _ H' => Q .non H', rt := Q } [some v, some x, some y, some z, some (.ref p)] H4 := fun H4 A4 =>
        retAcc k (by rw [FItem.rows, List.map_append, List.map_append, ← List.append_assoc]; exact A4) rfl rfl
      cases a with
      | no => exact q_no (t_test (e_op (e_var rfl tz) e_non r_notN)) rfl fun H4 s4 => fin2 H4 (by rw [FScr.rows, List.map_nil, List.append_nil]; exact A3.ext s4)
      | yes r => exact q_yes (t_test (e_op (e_var rfl tz) e_non r_notN)) rfl fun H4 s4 => s_app (l := 0) rfl (A3.ext s4) (e_var rfl (tz.stay (.of s4))) (by rw [List.length_append, List.length_map, List.length_map]; omega) fun H5 _ _ A5 => fin2 H5 A5
    cases b with
    | no => exact q_no (t_test (e_op (e_var rfl ty) e_non r_notN)) rfl fun H4 s4 => fin H4 (.of s4) (by rw [FScr.rows, List.map_nil, List.append_nil]; exact A.ext s4)
    | yes r => exact q_yes (t_test (e_op (e_var rfl ty) e_non r_notN)) rfl fun H4 s4 => s_app (l := 0) rfl (A.ext s4) (e_var rfl (ty.stay (.of s4))) (by rw [List.length_map]; omega) fun H5 tk _ A5 => fin H5 ((TupK.of s4).trans tk) A5
/-! rows_of: n counts the levels -/
def spRowsOf (K : PySem.W.Frag) (n : Nat) : Sp := spRL K fun ds es => ∃ r : FRow, ds = [r.d] ∧ es = r.pre.map FRow.d ∧ r.dep < n ∧ r.words.length ≤ 100000
theorem scRowsOf : FnScope ["formula", "rows", "item", "row"] ["formula"] (defScope sRowsOf) := ⟨rfl, rfl, rfl, by decide +kernel, rfl, by decide +kernel, by decide +kernel⟩
theorem ok_rowsof1 {n : Nat} {f : Addr} {fd : FuncData} (F : Fun K "rows_of" "rows_of" sRowsOf f fd) (C_rows_in : Cal P w K mg base CX0 2 "rows_in" ["item"] (spRowsIn K)) (C_rows_of : Cal P w K mg base CX0 (n + 2) "rows_of" ["formula"] (spRowsOf K n)) : FnOk P w K mg base CX0 (n + 3) f fd ["formula"] (spRowsOf K (n + 1)) := by
  have sc := scRowsOf
  refine F.ok scRowsOf (fun vs H Q E h => ?_) (fun cdv A outer s H vs Q E hr h => ?_)
  · obtain ⟨ds, es, l, ⟨n, rfl, _⟩, _⟩ := h
    exact l.len
  · obtain ⟨ds, es, l, ⟨r, rfl, rfl, dep, bnd⟩, k⟩ := h
    cases l with
    | cons t l => cases l with
    | nil =>
    rename_i v
    refine ⟨_, (pss_cons (ps_set (i := 1) sc.nd rfl (Or.inl rfl) (pe_lst (pa_cons (pv 0) pa_nil)))
  (pss_cons (ps_for PassesOwn.never rfl (pi_tup (pv 0)) (pg_name (i := 2) sc.nd rfl (Or.inl rfl))
  (pss_one (ps_for PassesOwn.never rfl (pi_list (pe_cal C_rows_in (hr.mono (by omega)) rfl pass0 (pa_cons (pv 2) pa_nil))) (pg_name (i := 3) sc.nd rfl (Or.inl rfl))
  (pss_one (ps_expr (pe_bm PySem.F.plainAttrs_list PySem.F.slot_list_extend PySem.F.type_list_extend mt_extend (pv 1) (pa_cons (pe_cal C_rows_of (hr.mono (by omega)) rfl pass0 (pa_cons (pv 3) pa_nil)) pa_nil)))))))
  (pss_one (ps_ret (pv 1))))), ?_⟩
    have t : Tp K H v r.d := t
    have ib := inn_row r
    have er : r.d = .tuple (r.items.map FItem.d) := by rw [FRow.d, FRow.ds_eq]
    refine q_setL (l_lst (a_cons (e_var rfl t) a_nil) (Nat.le_of_ble_eq_true rfl)) fun p xs H2 np s2 e l => ?_
    have A0 := Acc.start np s2 e l
    have t := t.stay (.of s2)
    refine q_forT (ds := r.items.map FItem.d) (p := p) (e_var rfl (er ▸ t)) e (fun i σ' H' => ∃ x2 x3, σ' = [some v, some (.ref p), x2, x3] ∧ Acc K H p ((r :: (r.items.take i).flatMap FItem.inn).map FRow.d) H') (fun H3 s3 => ⟨_, _, rfl, by simpa using A0.ext s3⟩) ?_ ?_
    · rintro H3 s3 i d x σ' H' hi ⟨x2, x3, rfl, A⟩ kb tx
      obtain ⟨it, hit, rfl⟩ := get_map hi
      have hmem := List.mem_of_getElem? hit
      have w1 := words_item hmem
      have dI := FRow.dep_le.mp (Nat.le_of_lt_succ dep) it hmem
      have w2 := flat_le (f := FItem.inn) hit
      rw [← FRow.inn_eq] at w2
      have eI := FItem.inn_eq it
      obtain ⟨xs1, e1, l1⟩ := A.lst
      refine g_name ?_
      refine s_forL (p := p) (l_call (a_cons (e_var rfl tx) a_nil) ⟨it, rfl, rfl, by omega⟩) e1 (fun m σ' H' => ∃ x3, σ' = [some v, some (.ref p), some x, x3] ∧ Acc K H p ((r :: ((r.items.take i).flatMap FItem.inn ++ (it.rows.take m).flatMap FRow.pre)).map FRow.d) H') (fun H4 s4 => ⟨_, rfl, by simpa using A.ext s4⟩) ?_ ?_
      · rintro H4 s4 m d y σ' H5 hm ⟨x3, rfl, A5⟩ kb5 ty
        obtain ⟨q, hq, rfl⟩ := get_map hm
        have qm := List.mem_of_getElem? hq
        have w3 := words_rows qm
        have dq := FItem.dep_le.mp dI q qm
        have w4 := flat_le (f := FRow.pre) hq
        rw [← eI] at w4
        refine g_name ?_
        refine s_ext rfl A5 (l_call (a_cons (e_var rfl ty) a_nil) ⟨q, rfl, rfl, by omega, by omega⟩) (by simp only [List.length_map, List.length_cons, List.length_append]; omega) fun H6 tk kb6 A6 => ⟨⟨_, rfl, ?_⟩, kb5.trans kb6⟩
        rw [flat_snoc hq, ← List.append_assoc, ← List.cons_append, List.map_append]
        exact A6
      · rintro σ' H5 ⟨x3, rfl, A5⟩ kb5
        refine ⟨⟨_, _, rfl, ?_⟩, kb.trans kb5⟩
        rw [flat_snoc hit, eI]
        rw [List.length_map, List.take_length] at A5
        exact A5
    · rintro σ' H5 ⟨x2, x3, rfl, A5⟩ kb
      rw [List.length_map, List.take_length, ← FRow.inn_eq] at A5
      exact retAcc k A5 rfl rfl
theorem ok_rowsof {f : Addr} {fd : FuncData} (F : Fun K "rows_of" "rows_of" sRowsOf f fd) (C_rows_in : Cal P w K mg base CX0 2 "rows_in" ["item"] (spRowsIn K)) (hm : mg "rows_of" = some (.ref f)) (hk : PySem.W.keepIn K (.ref f) = true) (hb : Binds K fd ["formula"] []) :
    ∀ n, Cal P w K mg base CX0 (n + 2) "rows_of" ["formula"] (spRowsOf K n)
  | 0 => ⟨f, fd, FnOk.vac fun vs H Q E ⟨_, _, _, ⟨_, _, _, h, _⟩, _⟩ => Nat.not_lt_zero _ h, hm, hk, hb⟩
  | n + 1 => ⟨f, fd, ok_rowsof1 F C_rows_in (ok_rowsof F C_rows_in hm hk hb n), hm, hk, hb⟩
end
end Mg

set_option Elab.async false
set_option linter.all false
set_option maxRecDepth 100000
set_option maxHeartbeats 1000000
namespace Mg
open PySem L2
section
variable {P : Program} {w : World} {K : PySem.W.Frag} {mg : Str → Option Value} {base : Heap}
/-! the words of the normal text; n counts the levels -/
def spRowWords (K : PySem.W.Frag) (n : Nat) : Sp := spRL K fun ds es => ∃ r : FRow, ds = [r.d] ∧ es = r.words.map PyData.str ∧ r.dep < n ∧ r.words.length ≤ 100000
def spBraced (K : PySem.W.Frag) (n : Nat) : Sp := spRL K fun ds es => ∃ r : FRow, ds = [r.d] ∧ es = (braceW r).map PyData.str ∧ r.dep < n ∧ r.words.length ≤ 100000
def spFenceW (K : PySem.W.Frag) (n : Nat) : Sp := spRL K fun ds es => ∃ (o c : Option Str) (r : FRow), ds = [optD o, optD c, r.d] ∧ es = (FNuc.fence o c r).words.map PyData.str ∧ r.dep < n ∧ r.words.length ≤ 100000
def spGridW (K : PySem.W.Frag) (n : Nat) : Sp := spRL K fun ds es => ∃ g : FGrid, ds = [.tuple g.ds] ∧ es = (FNuc.grid g).words.map PyData.str ∧ g.dep ≤ n ∧ (g.words "{").length ≤ 100000
def spNucWords (K : PySem.W.Frag) (n : Nat) : Sp := spRL K fun ds es => ∃ m : FNuc, ds = [m.d] ∧ es = m.words.map PyData.str ∧ m.dep ≤ n ∧ m.words.length ≤ 100000
theorem l_strs {σ : L2.St} {H : Hp} (x : Str) : EvDL K (tLst (tCons (tC (.str x)) tNil)) σ H ([x].map PyData.str) := l_lst (a_cons e_str a_nil) (Nat.le_of_ble_eq_true rfl)
theorem scBraced : FnScope ["row"] ["row"] (defScope sBraced) := ⟨rfl, rfl, rfl, by decide +kernel, rfl, by decide +kernel, by decide +kernel⟩
theorem ok_braced {n : Nat} {f : Addr} {fd : FuncData} (F : Fun K "braced_words" "braced_words" sBraced f fd) (C_row_words : Cal P w K mg base CX0 (3 * n) "row_words" ["row"] (spRowWords K n)) : FnOk P w K mg base CX0 (3 * n + 1) f fd ["row"] (spBraced K n) := by
  have sc := scBraced
  refine F.ok scBraced (fun vs H Q E h => ?_) (fun cdv A outer s H vs Q E hr h => ?_)
  · obtain ⟨ds, es, l, ⟨n, rfl, _⟩, _⟩ := h
    exact l.len
  · obtain ⟨ds, es, l, ⟨r, rfl, rfl, dep, bnd⟩, k⟩ := h
    cases l with
    | cons t l => cases l with
    | nil =>
    refine ⟨_, (pss_one (ps_ret (pe_op op_cat (pe_op op_cat (pe_lst (pa_cons pe_str pa_nil)) (pe_cal C_row_words (hr.mono (by omega)) rfl pass0 (pa_cons (pv 0) pa_nil))) (pe_lst (pa_cons pe_str pa_nil))))), ?_⟩
    refine retL k (Same.refl _) (l_is (l_cat (l_cat (l_strs "{") (l_call (a_cons (e_var rfl t) a_nil) ⟨r, rfl, rfl, dep, bnd⟩) (by simp; omega)) (l_strs "}") (by simp; omega)) ?_) rfl
    simp [braceW]
theorem scFenceW : FnScope ["opening", "closing", "row", "first", "last"] ["opening", "closing", "row"] (defScope sFenceW) := ⟨rfl, rfl, rfl, by decide +kernel, rfl, by decide +kernel, by decide +kernel⟩
theorem none_opt (o : Option Str) : noneD (optD o) = o.isNone := by cases o <;> rfl
theorem ok_fencew {n : Nat} {f : Addr} {fd : FuncData} (F : Fun K "fence_words" "fence_words" sFenceW f fd) (C_row_words : Cal P w K mg base CX0 (3 * n) "row_words" ["row"] (spRowWords K n)) : FnOk P w K mg base CX0 (3 * n + 1) f fd ["opening", "closing", "row"] (spFenceW K n) := by
  have sc := scFenceW
  refine F.ok scFenceW (fun vs H Q E h => ?_) (fun cdv A outer s H vs Q E hr h => ?_)
  · obtain ⟨ds, es, l, ⟨_, _, _, rfl, _⟩, _⟩ := h
    exact l.len
  · obtain ⟨ds, es, l, ⟨o, c, r, rfl, rfl, dep, bnd⟩, k⟩ := h
    cases l with
    | cons to l => cases l with
    | cons tc l => cases l with
    | cons t l => cases l with
    | nil =>
    refine ⟨_, (pss_cons (ps_set (i := 3) sc.nd rfl (Or.inl rfl) (pe_ifExp (pt_cmpR op_isN (pv 0) pe_non (nomark _)) pe_str (pv 0)))
  (pss_cons (ps_set (i := 4) sc.nd rfl (Or.inl rfl) (pe_ifExp (pt_cmpR op_isN (pv 1) pe_non (nomark _)) pe_str (pv 1)))
  (pss_one (ps_ret (pe_op op_cat (pe_op op_cat (pe_lst (pa_cons pe_str (pa_cons (pv 3) pa_nil))) (pe_cal C_row_words (hr.mono (by omega)) rfl pass0 (pa_cons (pv 2) pa_nil))) (pe_lst (pa_cons pe_str (pa_cons (pv 4) pa_nil)))))))), ?_⟩
    have eo : ∀ (o : Option Str) {σ : L2.St} {i : Nat} {v : V} {H : Hp}, σ[i]? = some (some v) → Tp K H v (optD o) → EvD K (tIf (tTest (tOp (fun x y H Q => y = .non ∧ Q (.bl (decide (x = .non))) H) (tVar i) (tC .non))) (tC (.str ".")) (tVar i)) σ H (.str (delimW o)) := fun o σ i v H hv tv =>
      e_if (t_test (e_op (e_var hv tv) e_non r_isN)) (fun z => by
        rw [none_opt] at z
        cases o with
        | none => exact e_str
        | some x => cases z) (fun z => by
        rw [none_opt] at z
        cases o with
        | none => cases z
        | some x => exact e_var hv tv)
    refine q_set (eo o rfl to) fun v1 H1 s1 t1 => ?_
    refine q_set (eo c rfl (tc.stay (.of s1))) fun v2 H2 s2 t2 => ?_
    have s12 := s1.trans s2
    refine retL k s12 (l_is (es := (FNuc.fence o c r).words.map PyData.str) (l_cat (l_cat (l_lst (ds := [.str "@left", .str (delimW o)]) (a_cons e_str (a_cons (e_var rfl (t1.stay (.of s2))) a_nil)) (Nat.le_of_ble_eq_true rfl)) (l_call (a_cons (e_var rfl (t.stay (.of s12))) a_nil) ⟨r, rfl, rfl, dep, bnd⟩) (by simp; omega)) (l_lst (ds := [.str "@right", .str (delimW c)]) (a_cons e_str (a_cons (e_var rfl t2) a_nil)) (Nat.le_of_ble_eq_true rfl)) (by simp; omega)) ?_) rfl
    simp [FNuc.words]
theorem scGridW : FnScope ["rows", "words", "between", "cells", "cell"] ["rows"] (defScope sGridW) := ⟨rfl, rfl, rfl, by decide +kernel, rfl, by decide +kernel, by decide +kernel⟩
theorem cells_snoc {s : Str} : ∀ {c : FCells} {i : Nat} {q : FRow}, c.rows[i]? = some q → ((FCells.of (c.rows.take (i + 1))).words s) = (FCells.of (c.rows.take i)).words s ++ ((if i = 0 then s else "&") :: q.words)
  | .nil, _, _, h => by simp [FCells.rows] at h
  | .cons r c, 0, q, h => by
    cases Option.some.inj h
    simp [FCells.rows, FCells.of, FCells.words]
  | .cons r c, i + 1, q, h => by
    have h : c.rows[i]? = some q := h
    have e := cells_snoc (s := "&") h
    rw [FCells.rows, List.take_succ_cons, List.take_succ_cons, FCells.of, FCells.of, FCells.words, FCells.words, e, if_neg (Nat.succ_ne_zero i)]
    simp
theorem cells_take {s : Str} : ∀ {c : FCells} {i : Nat}, ((FCells.of (c.rows.take i)).words s).length ≤ (c.words s).length
  | .nil, _ => by simp [FCells.rows, FCells.of, FCells.words]
  | .cons r c, 0 => by simp [FCells.of, FCells.words]
  | .cons r c, i + 1 => by
    have := cells_take (s := "&") (c := c) (i := i)
    rw [FCells.rows, List.take_succ_cons, FCells.of, FCells.words, FCells.words]
    simp
    omega
theorem cells_of_rows : ∀ c : FCells, FCells.of c.rows = c
  | .nil => rfl
  | .cons r c => by rw [FCells.rows, FCells.of, cells_of_rows c]
theorem grid_of_lines : ∀ c : FGrid, FGrid.of c.lines = c
  | .nil => rfl
  | .cons r c => by rw [FGrid.lines, FGrid.of, grid_of_lines c]
theorem grid_snoc {s : Str} : ∀ {c : FGrid} {i : Nat} {q : FCells}, c.lines[i]? = some q → ((FGrid.of (c.lines.take (i + 1))).words s) = (FGrid.of (c.lines.take i)).words s ++ q.words (if i = 0 then s else "~")
  | .nil, _, _, h => by simp [FGrid.lines] at h
  | .cons r c, 0, q, h => by
    cases Option.some.inj h
    simp [FGrid.lines, FGrid.of, FGrid.words]
  | .cons r c, i + 1, q, h => by
    have h : c.lines[i]? = some q := h
    have e := grid_snoc (s := "~") h
    rw [FGrid.lines, List.take_succ_cons, List.take_succ_cons, FGrid.of, FGrid.of, FGrid.words, FGrid.words, e, if_neg (Nat.succ_ne_zero i)]
    simp
theorem grid_take {s : Str} : ∀ {c : FGrid} {i : Nat}, ((FGrid.of (c.lines.take i)).words s).length ≤ (c.words s).length
  | .nil, _ => by simp [FGrid.lines, FGrid.of, FGrid.words]
  | .cons r c, 0 => by simp [FGrid.of, FGrid.words]
  | .cons r c, i + 1 => by
    have := grid_take (s := "~") (c := c) (i := i)
    rw [FGrid.lines, List.take_succ_cons, FGrid.of, FGrid.words, FGrid.words]
    simp
    omega
theorem cells_words_len (s t : Str) : ∀ c : FCells, (c.words s).length = (c.words t).length
  | .nil => rfl
  | .cons r c => by rw [FCells.words, FCells.words, List.length_cons, List.length_cons]
theorem line_words : ∀ {g : FGrid} {q : FCells} {s : Str}, q ∈ g.lines → (q.words s).length ≤ (g.words s).length
  | .nil, _, _, h => nomatch h
  | .cons c g, q, s, h => by
    rw [FGrid.words, List.length_append]
    rcases List.mem_cons.mp h with rfl | h
    · omega
    · have := line_words (s := "~") h
      rw [cells_words_len s "~" q]
      omega
theorem lines_all {g : FGrid} {q : FCells} {r : FRow} (h1 : q ∈ g.lines) (h2 : r ∈ q.rows) : r ∈ g.all := by
  rw [FGrid.all_eq]
  exact List.mem_flatMap.mpr ⟨q, h1, h2⟩
theorem ok_gridw {n : Nat} {f : Addr} {fd : FuncData} (F : Fun K "grid_words" "grid_words" sGridW f fd) (C_row_words : Cal P w K mg base CX0 (3 * n) "row_words" ["row"] (spRowWords K n)) : FnOk P w K mg base CX0 (3 * n + 1) f fd ["rows"] (spGridW K n) := by
  have sc := scGridW
  refine F.ok scGridW (fun vs H Q E h => ?_) (fun cdv A outer s H vs Q E hr h => ?_)
  · obtain ⟨ds, es, l, ⟨_, rfl, _⟩, _⟩ := h
    exact l.len
  · obtain ⟨ds, es, l, ⟨g, rfl, rfl, dep, bnd⟩, k⟩ := h
    cases l with
    | cons t l => cases l with
    | nil =>
    rename_i v
    refine ⟨_, (pss_cons (ps_set (i := 1) sc.nd rfl (Or.inl rfl) (pe_lst (pa_cons pe_str pa_nil)))
  (pss_cons (ps_set (i := 2) sc.nd rfl (Or.inl rfl) pe_str)
  (pss_cons (ps_for PassesOwn.never rfl (pi_tup (pv 0)) (pg_name (i := 3) sc.nd rfl (Or.inl rfl))
  (pss_cons (ps_for PassesOwn.never rfl (pi_tup (pv 3)) (pg_name (i := 4) sc.nd rfl (Or.inl rfl))
  (pss_cons (ps_expr (pe_bm PySem.F.plainAttrs_list PySem.F.slot_list_append PySem.F.type_list_append mt_append (pv 1) (pa_cons (pv 2) pa_nil)))
  (pss_cons (ps_expr (pe_bm PySem.F.plainAttrs_list PySem.F.slot_list_extend PySem.F.type_list_extend mt_extend (pv 1) (pa_cons (pe_cal C_row_words (hr.mono (by omega)) rfl pass0 (pa_cons (pv 4) pa_nil)) pa_nil)))
  (pss_one (ps_set (i := 2) sc.nd rfl (Or.inl rfl) pe_str)))))
  (pss_one (ps_set (i := 2) sc.nd rfl (Or.inl rfl) pe_str))))
  (pss_cons (ps_expr (pe_bm PySem.F.plainAttrs_list PySem.F.slot_list_append PySem.F.type_list_append mt_append (pv 1) (pa_cons pe_str pa_nil)))
  (pss_one (ps_ret (pv 1))))))), ?_⟩
    refine q_setL (K := K) (l_strs "@grid") fun p xs H2 np s2 e l => ?_
    have A0 := Acc.start np s2 e l
    have t := t.stay (.of s2)
    refine q_set (K := K) e_str fun vb H3 s3 tb => ?_
    obtain rfl := tp_str tb
    have A1 := A0.ext s3
    have t := t.stay (.of s3)
    obtain ⟨xs1, e1, l1⟩ := A1.lst
    have dL := FGrid.dep_le.mp dep
    refine q_forT (ds := g.lines.map FCells.d) (p := p) (e_var rfl (FGrid.ds_eq g ▸ t)) e1 (fun i σ' H' => ∃ x3 x4, σ' = [some v, some (.ref p), some (.str (if i = 0 then "{" else "~")), x3, x4] ∧ Acc K H p ((("@grid" : Str) :: (FGrid.of (g.lines.take i)).words "{").map PyData.str) H') (fun H4 s4 => ⟨_, _, rfl, by simpa [FGrid.of, FGrid.words] using A1.ext s4⟩) ?_ ?_
    · rintro H4 s4 i d x σ' H' hi ⟨x3, x4, rfl, A⟩ kb tx
      obtain ⟨c, hc, rfl⟩ := get_map hi
      have cm := List.mem_of_getElem? hc
      have tx : Tp K H' x (.tuple (c.rows.map FRow.d)) := FCells.ds_eq c ▸ tx
      obtain ⟨xs2, e2, l2⟩ := A.lst
      have wl := line_words (s := "{") cm
      have gt := grid_take (s := "{") (c := g) (i := i + 1)
      rw [grid_snoc hc, List.length_append, cells_words_len _ "{"] at gt
      refine g_name ?_
      refine q_forT (p := p) (e_var rfl tx) e2 (fun j σ' H' => ∃ x4, σ' = [some v, some (.ref p), some (.str (if j = 0 then (if i = 0 then "{" else "~") else "&")), some x, x4] ∧
        Acc K H p ((("@grid" : Str) :: ((FGrid.of (g.lines.take i)).words "{" ++ (FCells.of (c.rows.take j)).words (if i = 0 then "{" else "~"))).map PyData.str) H') (fun H5 s5 => ⟨_, rfl, by simpa [FCells.of, FCells.words] using A.ext s5⟩) ?_ ?_
      · rintro H5 s5 j d y σ' H6 hj ⟨x4, rfl, A6⟩ kb6 ty
        obtain ⟨q, hq, rfl⟩ := get_map hj
        have qm := List.mem_of_getElem? hq
        have qa := lines_all cm qm
        have dq := dL q qa
        have wq := words_grid (s := "{") qa
        have ct := cells_take (s := "{") (c := c) (i := j + 1)
        rw [cells_snoc hq, List.length_append, List.length_cons] at ct
        have cl := cells_words_len (if i = 0 then "{" else "~") "{" (FCells.of (c.rows.take j))
        refine g_name ?_
        refine q_app rfl A6 (e_var (v := .str (if j = 0 then (if i = 0 then "{" else "~") else "&")) rfl (.str _)) (by simp only [List.length_map, List.length_cons, List.length_append]; omega) fun H7 tk7 kb7 A7 => ?_
        refine q_ext rfl A7 (l_call (a_cons (e_var rfl (ty.stay tk7)) a_nil) ⟨q, rfl, rfl, by omega, by omega⟩) (by simp only [List.length_map, List.length_cons, List.length_append, List.length_nil]; omega) fun H8 tk8 kb8 A8 => ?_
        refine ⟨⟨_, rfl, ?_⟩, (kb6.trans kb7).trans kb8⟩
        rw [cells_snoc hq]
        have A8 : Acc K H p _ H8 := A8
        simpa using A8
      · rintro σ' H6 ⟨x4, rfl, A6⟩ kb6
        refine ⟨⟨_, _, rfl, ?_⟩, kb.trans kb6⟩
        rw [List.length_map, List.take_length, cells_of_rows] at A6
        rw [grid_snoc hc]
        exact A6
    · rintro σ' H5 ⟨x3, x4, rfl, A5⟩ kb
      rw [List.length_map, List.take_length, grid_of_lines] at A5
      refine q_app rfl A5 e_str (by simp only [List.length_map, List.length_cons]; omega) fun H6 _ _ A6 => ?_
      refine retAcc k ?_ rfl rfl
      have A6 : Acc K H p _ H6 := A6
      simpa [FNuc.words] using A6
theorem scNucWords : FnScope ["nucleus", "kind"] ["nucleus"] (defScope sNucWords) := ⟨rfl, rfl, rfl, by decide +kernel, rfl, by decide +kernel, by decide +kernel⟩
theorem ok_nucwords {n : Nat} {f : Addr} {fd : FuncData} (F : Fun K "nucleus_words" "nucleus_words" sNucWords f fd) (C_braced_words : Cal P w K mg base CX0 (3 * n + 1) "braced_words" ["row"] (spBraced K n)) (C_fence_words : Cal P w K mg base CX0 (3 * n + 1) "fence_words" ["opening", "closing", "row"] (spFenceW K n)) (C_grid_words : Cal P w K mg base CX0 (3 * n + 1) "grid_words" ["rows"] (spGridW K n)) :
    FnOk P w K mg base CX0 (3 * n + 2) f fd ["nucleus"] (spNucWords K n) := by
  have sc := scNucWords
  refine F.ok scNucWords (fun vs H Q E h => ?_) (fun cdv A outer s H vs Q E hr h => ?_)
  · obtain ⟨ds, es, l, ⟨_, rfl, _⟩, _⟩ := h
    exact l.len
  · obtain ⟨ds, es, l, ⟨m, rfl, rfl, dep, bnd⟩, k⟩ := h
    cases l with
    | cons t l => cases l with
    | nil =>
    refine ⟨_, (pss_cons (ps_set (i := 1) sc.nd rfl (Or.inl rfl) (pe_ix ix_tup (pv 0) pe_int (fun _ _ => rfl)))
  (pss_cons (ps_if (pt_cmpR op_eq (pv 1) pe_str (nomark _))
  (pss_one (ps_ret (pe_lst (pa_cons (pe_ix ix_tup (pv 0) pe_int (fun _ _ => rfl)) pa_nil))))
  pss_nil)
  (pss_cons (ps_if (pt_cmpR op_eq (pv 1) pe_str (nomark _))
  (pss_one (ps_ret (pe_op op_cat (pe_op op_cat (pe_lst (pa_cons pe_str pa_nil)) (pe_cal C_braced_words (hr.mono (by omega)) rfl pass0 (pa_cons (pe_ix ix_tup (pv 0) pe_int (fun _ _ => rfl)) pa_nil))) (pe_cal C_braced_words (hr.mono (by omega)) rfl pass0 (pa_cons (pe_ix ix_tup (pv 0) pe_int (fun _ _ => rfl)) pa_nil)))))
  pss_nil)
  (pss_cons (ps_if (pt_cmpR op_eq (pv 1) pe_str (nomark _))
  (pss_one (ps_ret (pe_op op_cat (pe_lst (pa_cons pe_str pa_nil)) (pe_cal C_braced_words (hr.mono (by omega)) rfl pass0 (pa_cons (pe_ix ix_tup (pv 0) pe_int (fun _ _ => rfl)) pa_nil)))))
  pss_nil)
  (pss_cons (ps_if (pt_cmpR op_eq (pv 1) pe_str (nomark _))
  (pss_one (ps_ret (pe_cal C_fence_words (hr.mono (by omega)) rfl pass0 (pa_cons (pe_ix ix_tup (pv 0) pe_int (fun _ _ => rfl)) (pa_cons (pe_ix ix_tup (pv 0) pe_int (fun _ _ => rfl)) (pa_cons (pe_ix ix_tup (pv 0) pe_int (fun _ _ => rfl)) pa_nil))))))
  pss_nil)
  (pss_cons (ps_if (pt_cmpR op_eq (pv 1) pe_str (nomark _))
  (pss_one (ps_ret (pe_cal C_grid_words (hr.mono (by omega)) rfl pass0 (pa_cons (pe_ix ix_tup (pv 0) pe_int (fun _ _ => rfl)) pa_nil))))
  pss_nil)
  (pss_one (ps_ret (pe_cal C_braced_words (hr.mono (by omega)) rfl pass0 (pa_cons (pe_ix ix_tup (pv 0) pe_int (fun _ _ => rfl)) pa_nil)))))))))), ?_⟩
    have dp := FNuc.dep_le.mp dep
    have wb : ∀ q ∈ m.rows, q.words.length ≤ 100000 := fun q hq => by
      have := words_nuc hq
      omega
    cases m with
    | sym x =>
      have t : Tp K H _ (.tuple [.str "symbol", .str x]) := t
      refine q_set (e_op (e_var rfl t) e_int (r_ixT rfl)) fun kd H1 s1 tk => ?_
      obtain rfl := tp_str tk
      have t := t.stay (.of s1)
      exact q_yesS rfl (retL k s1 (l_lst (a_cons (e_op (e_var rfl t) e_int (r_ixT rfl)) a_nil) (Nat.le_of_ble_eq_true rfl)) rfl)
    | frac o u =>
      have t : Tp K H _ (.tuple [.str "frac", o.d, u.d]) := t
      refine q_set (e_op (e_var rfl t) e_int (r_ixT rfl)) fun kd H1 s1 tk => ?_
      obtain rfl := tp_str tk
      have t := t.stay (.of s1)
      have b1 := wb o (by simp [FNuc.rows])
      have b2 := wb u (by simp [FNuc.rows])
      have d1 := dp o (by simp [FNuc.rows])
      have d2 := dp u (by simp [FNuc.rows])
      refine q_noS rfl (by decide +kernel) (q_yesS rfl (retL k s1 (l_is (l_cat (l_cat (l_strs "@frac") (l_call (a_cons (e_op (e_var rfl t) e_int (r_ixT rfl)) a_nil) ⟨o, rfl, rfl, by omega, b1⟩) (by simp [braceW]; omega)) (l_call (a_cons (e_op (e_var rfl t) e_int (r_ixT rfl)) a_nil) ⟨u, rfl, rfl, by omega, b2⟩) (by simp [braceW]; omega)) ?_) rfl))
      simp [FNuc.words, braceW]
    | root r =>
      have t : Tp K H _ (.tuple [.str "root", r.d]) := t
      refine q_set (e_op (e_var rfl t) e_int (r_ixT rfl)) fun kd H1 s1 tk => ?_
      obtain rfl := tp_str tk
      have t := t.stay (.of s1)
      have b1 := wb r (by simp [FNuc.rows])
      have d1 := dp r (by simp [FNuc.rows])
      refine q_noS rfl (by decide +kernel) (q_noS rfl (by decide +kernel) (q_yesS rfl (retL k s1 (l_is (l_cat (l_strs "@root") (l_call (a_cons (e_op (e_var rfl t) e_int (r_ixT rfl)) a_nil) ⟨r, rfl, rfl, by omega, b1⟩) (by simp [braceW]; omega)) ?_) rfl)))
      simp [FNuc.words, braceW]
    | fence o c r =>
      have t : Tp K H _ (.tuple [.str "fence", optD o, optD c, r.d]) := t
      refine q_set (e_op (e_var rfl t) e_int (r_ixT rfl)) fun kd H1 s1 tk => ?_
      obtain rfl := tp_str tk
      have t := t.stay (.of s1)
      have b1 := wb r (by simp [FNuc.rows])
      have d1 := dp r (by simp [FNuc.rows])
      refine q_noS rfl (by decide +kernel) (q_noS rfl (by decide +kernel) (q_noS rfl (by decide +kernel) (q_yesS rfl (retL k s1 (l_call (a_cons (e_op (e_var rfl t) e_int (r_ixT rfl)) (a_cons (e_op (e_var rfl t) e_int (r_ixT rfl)) (a_cons (e_op (e_var rfl t) e_int (r_ixT rfl)) a_nil))) ⟨o, c, r, rfl, rfl, by omega, b1⟩) rfl))))
    | grid g =>
      have t : Tp K H _ (.tuple [.str "grid", .tuple g.ds]) := t
      refine q_set (e_op (e_var rfl t) e_int (r_ixT rfl)) fun kd H1 s1 tk => ?_
      obtain rfl := tp_str tk
      have t := t.stay (.of s1)
      have bg : (g.words "{").length ≤ 100000 := by
        have := bnd
        simp [FNuc.words] at this
        omega
      refine q_noS rfl (by decide +kernel) (q_noS rfl (by decide +kernel) (q_noS rfl (by decide +kernel) (q_noS rfl (by decide +kernel) (q_yesS rfl (retL k s1 (l_call (a_cons (e_op (e_var rfl t) e_int (r_ixT rfl)) a_nil) ⟨g, rfl, rfl, dep, bg⟩) rfl)))))
    | group r =>
      have t : Tp K H _ (.tuple [.str "group", r.d]) := t
      refine q_set (e_op (e_var rfl t) e_int (r_ixT rfl)) fun kd H1 s1 tk => ?_
      obtain rfl := tp_str tk
      have t := t.stay (.of s1)
      have b1 := wb r (by simp [FNuc.rows])
      have d1 := dp r (by simp [FNuc.rows])
      refine q_noS rfl (by decide +kernel) (q_noS rfl (by decide +kernel) (q_noS rfl (by decide +kernel) (q_noS rfl (by decide +kernel) (q_noS rfl (by decide +kernel) (retL k s1 (l_call (a_cons (e_op (e_var rfl t) e_int (r_ixT rfl)) a_nil) ⟨r, rfl, rfl, by omega, b1⟩) rfl)))))
theorem scRowWords : FnScope ["row", "words", "nucleus", "below", "above"] ["row"] (defScope sRowWords) := ⟨rfl, rfl, rfl, by decide +kernel, rfl, by decide +kernel, by decide +kernel⟩
theorem ok_rowwords1 {n : Nat} {f : Addr} {fd : FuncData} (F : Fun K "row_words" "row_words" sRowWords f fd) (C_nucleus_words : Cal P w K mg base CX0 (3 * n + 2) "nucleus_words" ["nucleus"] (spNucWords K n)) (C_braced_words : Cal P w K mg base CX0 (3 * n + 1) "braced_words" ["row"] (spBraced K n)) :
    FnOk P w K mg base CX0 (3 * n + 3) f fd ["row"] (spRowWords K (n + 1)) := by
  have sc := scRowWords
  refine F.ok scRowWords (fun vs H Q E h => ?_) (fun cdv A outer s H vs Q E hr h => ?_)
  · obtain ⟨ds, es, l, ⟨_, rfl, _⟩, _⟩ := h
    exact l.len
  · obtain ⟨ds, es, l, ⟨r, rfl, rfl, dep, bnd⟩, k⟩ := h
    cases l with
    | cons t l => cases l with
    | nil =>
    rename_i v
    refine ⟨_, (pss_cons (ps_set (i := 1) sc.nd rfl (Or.inl rfl) (pe_lst pa_nil))
  (pss_cons (ps_for PassesOwn.never rfl (pi_tup (pv 0)) (pg_tup rfl (pgs_cons (pg_name (i := 2) sc.nd rfl (Or.inl rfl)) (pgs_cons (pg_name (i := 3) sc.nd rfl (Or.inl rfl)) (pgs_cons (pg_name (i := 4) sc.nd rfl (Or.inl rfl)) pgs_nil))))
  (pss_cons (ps_expr (pe_bm PySem.F.plainAttrs_list PySem.F.slot_list_extend PySem.F.type_list_extend mt_extend (pv 1) (pa_cons (pe_cal C_nucleus_words (hr.mono (by omega)) rfl pass0 (pa_cons (pv 2) pa_nil)) pa_nil)))
  (pss_cons (ps_if (pt_cmpR op_notN (pv 3) pe_non (nomark _))
  (pss_one (ps_expr (pe_bm PySem.F.plainAttrs_list PySem.F.slot_list_extend PySem.F.type_list_extend mt_extend (pv 1) (pa_cons (pe_op op_cat (pe_lst (pa_cons pe_str pa_nil)) (pe_cal C_braced_words (hr.mono (by omega)) rfl pass0 (pa_cons (pv 3) pa_nil))) pa_nil))))
  pss_nil)
  (pss_one (ps_if (pt_cmpR op_notN (pv 4) pe_non (nomark _))
  (pss_one (ps_expr (pe_bm PySem.F.plainAttrs_list PySem.F.slot_list_extend PySem.F.type_list_extend mt_extend (pv 1) (pa_cons (pe_op op_cat (pe_lst (pa_cons pe_str pa_nil)) (pe_cal C_braced_words (hr.mono (by omega)) rfl pass0 (pa_cons (pv 4) pa_nil))) pa_nil))))
  pss_nil)))))
  (pss_one (ps_ret (pv 1))))), ?_⟩
    have er : r.d = .tuple (r.items.map FItem.d) := by rw [FRow.d, FRow.ds_eq]
    have t : Tp K H v r.d := t
    refine q_setL (K := K) (l_lst a_nil (Nat.le_of_ble_eq_true rfl)) fun p xs H2 np s2 e l => ?_
    have A0 := Acc.start np s2 e l
    have t := t.stay (.of s2)
    refine q_forT (ds := r.items.map FItem.d) (p := p) (e_var rfl (er ▸ t)) e (fun i σ' H' => ∃ x2 x3 x4, σ' = [some v, some (.ref p), x2, x3, x4] ∧ Acc K H p (((r.items.take i).flatMap FItem.words).map PyData.str) H') (fun H3 s3 => ⟨_, _, _, rfl, by simpa using A0.ext s3⟩) ?_ ?_
    · rintro H3 s3 i d x σ' H' hi ⟨x2, x3, x4, rfl, A⟩ kb tx
      obtain ⟨it, hit, rfl⟩ := get_map hi
      have hmem := List.mem_of_getElem? hit
      have w1 := words_item hmem
      have dI := FRow.dep_le.mp (Nat.le_of_lt_succ dep) it hmem
      have w2 := flat_le (f := FItem.words) hit
      rw [← FRow.words_eq] at w2
      cases it with
      | mk m b a =>
      have tx : Tp K H' x (.tuple [m.d, b.d, a.d]) := tx
      rw [FItem.words, List.length_append, List.length_append] at w2 w1
      have dm : m.dep ≤ n ∧ b.dep ≤ n ∧ a.dep ≤ n := by
        rw [FItem.dep] at dI
        omega
      refine g_tup3 tx fun y1 y2 y3 ty1 ty2 ty3 => ?_
      refine q_ext rfl A (l_call (a_cons (e_var rfl ty1) a_nil) ⟨m, rfl, rfl, dm.1, by omega⟩) (by simp only [List.length_map]; omega) fun H4 tk4 kb4 A4 => ?_
      have A4 : Acc K H p _ H4 := A4
      have ty2 := ty2.stay tk4
      have ty3 := ty3.stay tk4
      have fin : ∀ H5, TupK H4 H5 → KeepB p H4 H5 → Acc K H p ((((r.items.take i).flatMap FItem.words).map PyData.str ++ m.words.map PyData.str) ++ (b.words "_").map PyData.str) H5 →
          tIfS (tTest (tOp (fun x y H Q => y = .non ∧ Q (.bl (!decide (x = .non))) H) (tVar 4) (tC .non))) (tDrop (tBM K "list" rExtend (tVar 1) (tCons (tOp rCat (tLst (tCons (tC (.str "^")) tNil)) (tCall (spBraced K n) [] E0 (tCons (tVar 4) tNil))) tNil))) tNext
          { nx := fun σ3 H3_1 => (∃ x2 x3 x4, σ3 = [some v, some (.ref p), x2, x3, x4] ∧ Acc K H p (((r.items.take (i + 1)).flatMap FItem.words).map PyData.str) H3_1) ∧ KeepB p H3 H3_1, ct := fun σ3 H3_1 => (∃ x2 x3 x4, σ3 = [some v, some (.ref p), x2, x3, x4] ∧ Acc K H p (((r.items.take (i + 1)).flatMap FItem.words).map PyData.str) H3_1) ∧ KeepB p H3 H3_1, bk := tRet (tVar 1) { nx := fun _ H' => Q .non H', rt := Q }, rt := Q } [some v, some (.ref p), some y1, some y2, some y3] H5 := by
        intro H5 tk5 kb5 A5
        have ty3 := ty3.stay tk5
        have fin2 : ∀ H6, KeepB p H5 H6 → Acc K H p (((((r.items.take i).flatMap FItem.words).map PyData.str ++ m.words.map PyData.str) ++ (b.words "_").map PyData.str) ++ (a.words "^").map PyData.str) H6 →
            (∃ x2 x3 x4, [some v, some (.ref p), some y1, some y2, some y3] = [some v, some (.ref p), x2, x3, x4] ∧ Acc K H p (((r.items.take (i + 1)).flatMap FItem.words).map PyData.str) H6) ∧ KeepB p H3 H6 := fun H6 kb6 A6 => by
          refine ⟨⟨_, _, _, rfl, ?_⟩, ((kb.trans kb4).trans kb5).trans kb6⟩
          rw [flat_snoc hit, FItem.words]
          simpa using A6
        cases a with
        | no => exact s_when (t_test (e_op (e_var rfl ty3) e_non r_notN)) (fun z => by cases z) fun _ H6 s6 => fin2 H6 (.of s6) (by simpa [FScr.words] using A5.ext s6)
        | yes q =>
          have w3 := words_scr (n := .yes q) (r := q) (s := "^") (List.mem_singleton.mpr rfl)
          have dq := dm.2.2
          rw [FScr.dep] at dq
          refine s_when (t_test (e_op (e_var rfl ty3) e_non r_notN)) (fun _ H6 s6 => ?_) fun z => by cases z
          refine s_ext rfl (A5.ext s6) (l_cat (l_strs "^") (l_call (a_cons (e_var rfl (ty3.stay (.of s6))) a_nil) ⟨q, rfl, rfl, by omega, by omega⟩) (by simp [braceW]; omega)) (by simp [braceW] at w2 ⊢; simp [FScr.words] at w2; omega) fun H7 tk7 kb7 A7 => fin2 H7 ((KeepB.of s6).trans kb7) ?_
          simpa [FScr.words, braceW] using A7
      cases b with
      | no => exact q_no (t_test (e_op (e_var rfl ty2) e_non r_notN)) rfl fun H5 s5 => fin H5 (.of s5) (.of s5) (by simpa [FScr.words] using A4.ext s5)
      | yes q =>
        have w3 := words_scr (n := .yes q) (r := q) (s := "_") (List.mem_singleton.mpr rfl)
        have dq := dm.2.1
        rw [FScr.dep] at dq
        refine q_yes (t_test (e_op (e_var rfl ty2) e_non r_notN)) rfl fun H6 s6 => ?_
        refine s_ext rfl (A4.ext s6) (l_cat (l_strs "_") (l_call (a_cons (e_var rfl (ty2.stay (.of s6))) a_nil) ⟨q, rfl, rfl, by omega, by omega⟩) (by simp [braceW]; omega)) (by simp [braceW] at w2 ⊢; simp [FScr.words] at w2; omega) fun H7 tk7 kb7 A7 => fin H7 ((TupK.of s6).trans tk7) ((KeepB.of s6).trans kb7) ?_
        have A7 : Acc K H p _ H7 := A7
        simpa [FScr.words, braceW] using A7
    · rintro σ' H5 ⟨x2, x3, x4, rfl, A5⟩ kb
      rw [List.length_map, List.take_length, ← FRow.words_eq] at A5
      exact retAcc k A5 rfl rfl
/-- all of them, level by level -/
structure WordsOk (P : Program) (w : World) (K : PySem.W.Frag) (mg : Str → Option Value) (base : Heap) (n : Nat) : Prop where
  row : Cal P w K mg base CX0 (3 * n) "row_words" ["row"] (spRowWords K n)
  brace : Cal P w K mg base CX0 (3 * n + 1) "braced_words" ["row"] (spBraced K n)
  nuc : Cal P w K mg base CX0 (3 * n + 2) "nucleus_words" ["nucleus"] (spNucWords K n)
theorem words_ok {f1 f2 f3 f4 f5 : Addr} {d1 d2 d3 d4 d5 : FuncData} (F1 : Fun K "row_words" "row_words" sRowWords f1 d1) (F2 : Fun K "braced_words" "braced_words" sBraced f2 d2) (F3 : Fun K "nucleus_words" "nucleus_words" sNucWords f3 d3) (F4 : Fun K "fence_words" "fence_words" sFenceW f4 d4) (F5 : Fun K "grid_words" "grid_words" sGridW f5 d5)
    (c1 : mg "row_words" = some (.ref f1) ∧ PySem.W.keepIn K (.ref f1) = true ∧ Binds K d1 ["row"] []) (c2 : mg "braced_words" = some (.ref f2) ∧ PySem.W.keepIn K (.ref f2) = true ∧ Binds K d2 ["row"] []) (c3 : mg "nucleus_words" = some (.ref f3) ∧ PySem.W.keepIn K (.ref f3) = true ∧ Binds K d3 ["nucleus"] [])
    (c4 : mg "fence_words" = some (.ref f4) ∧ PySem.W.keepIn K (.ref f4) = true ∧ Binds K d4 ["opening", "closing", "row"] []) (c5 : mg "grid_words" = some (.ref f5) ∧ PySem.W.keepIn K (.ref f5) = true ∧ Binds K d5 ["rows"] []) : ∀ n, WordsOk P w K mg base n := by
  have step : ∀ n, Cal P w K mg base CX0 (3 * n) "row_words" ["row"] (spRowWords K n) → WordsOk P w K mg base n := fun n h => by
    have hb : Cal P w K mg base CX0 (3 * n + 1) "braced_words" ["row"] (spBraced K n) := ⟨f2, d2, ok_braced F2 h, c2.1, c2.2.1, c2.2.2⟩
    exact ⟨h, hb, f3, d3, ok_nucwords F3 hb ⟨f4, d4, ok_fencew F4 h, c4.1, c4.2.1, c4.2.2⟩ ⟨f5, d5, ok_gridw F5 h, c5.1, c5.2.1, c5.2.2⟩, c3.1, c3.2.1, c3.2.2⟩
  intro n
  induction n with
  | zero => exact step 0 ⟨f1, d1, FnOk.vac fun vs H Q E ⟨_, _, _, ⟨_, _, _, h, _⟩, _⟩ => Nat.not_lt_zero _ h, c1.1, c1.2.1, c1.2.2⟩
  | succ n ih => exact step (n + 1) ⟨f1, d1, ok_rowwords1 F1 ih.nuc ih.brace, c1.1, c1.2.1, c1.2.2⟩
end
end Mg

set_option Elab.async false
set_option linter.all false
set_option maxRecDepth 100000
set_option maxHeartbeats 1000000
namespace Mg
open PySem L2
abbrev sDepthOf : Stmt := top 33
abbrev sTextOf : Stmt := top 34
abbrev sCheckDepth : Stmt := top 23
abbrev sCheckFormula : Stmt := top 29
structure TxtSrc (mg : Str → Option Value) : Prop where
  b_len : mg "len" = none
  b_max : mg "max" = none
  b_sum : mg "sum" = none
  b_enumerate : mg "enumerate" = none
  c_LETTERS : ∃ t, mg "LETTERS" = some (.str cLETTERS t)
  c_DEEPEST : ∃ t, mg "DEEPEST" = some (.int 7 t)
  c_MOST_ITEMS : ∃ t, mg "MOST_ITEMS" = some (.int 80 t)
  c_LONGEST : ∃ t, mg "LONGEST" = some (.int 400 t)
section
variable {P : Program} {w : World} {K : PySem.W.Frag} {mg : Str → Option Value} {base : Heap}
/-! depth_of -/
def spDepthOf (K : PySem.W.Frag) (n : Nat) : Sp := spR K fun ds d => ∃ r : FRow, ds = [r.d] ∧ d = .int (r.dep : Int) ∧ r.dep < n ∧ r.words.length ≤ 100000
theorem scDepthOf : FnScope ["row", "item", "inner"] ["row"] (defScope sDepthOf) := ⟨rfl, rfl, rfl, by decide +kernel, rfl, by decide +kernel, by decide +kernel⟩
theorem allrows_len (r : FRow) : (r.items.flatMap FItem.rows).length ≤ r.words.length := by
  have : ∀ l : List FItem, (l.flatMap FItem.rows).length ≤ (l.flatMap FItem.words).length := by
    intro l
    induction l with
    | nil => exact Nat.le_refl _
    | cons i l ih =>
      have := rows_len i
      rw [List.flatMap_cons, List.flatMap_cons, List.length_append, List.length_append]
      omega
  rw [FRow.words_eq]
  exact this _
theorem ok_depthof1 {n : Nat} {f : Addr} {fd : FuncData} (F : Fun K "depth_of" "depth_of" sDepthOf f fd) (T : TxtSrc mg) (C_rows_in : Cal P w K mg base CX0 2 "rows_in" ["item"] (spRowsIn K)) (C_depth_of : Cal P w K mg base CX0 (n + 2) "depth_of" ["row"] (spDepthOf K n)) : FnOk P w K mg base CX0 (n + 3) f fd ["row"] (spDepthOf K (n + 1)) := by
  have sc := scDepthOf
  refine F.ok scDepthOf (fun vs H Q E h => ?_) (fun cdv A outer s H vs Q E hr h => ?_)
  · obtain ⟨ds, es, l, ⟨_, rfl, _⟩, _⟩ := h
    exact l.len
  · obtain ⟨ds, es, l, ⟨r, rfl, rfl, dep, bnd⟩, k⟩ := h
    cases l with
    | cons t l => cases l with
    | nil =>
    rename_i v
    have hu := hu_of hr
    refine ⟨_, (pss_one (ps_ret (pe_callBK (cr_maxD rfl hu) (by rfl) T.b_max (by decide +kernel) (pa_cons (pe_lc2 (own := [("item", 1), ("inner", 2)]) (vs1 := [2]) (wi1 := iList K (tCall (spRowsIn K) [] E0 (tCons (tVar 1) tNil))) rfl sc.nd (pi_tup (pv 0)) (blkOk_by (own := [("item", 1), ("inner", 2)]) (N := ["row", "item", "inner"]) (sc := defScope sDepthOf) (by decide +kernel)) (by decide) (fun _ _ _ _ _ => (pg_name (i := 1) sc.nd rfl (Or.inl rfl))) (fun _ _ _ _ _ => pts_nil) (fun _ _ _ _ _ => (pi_list (pe_cal C_rows_in (hr.mono (by omega)) rfl pass0 (pa_cons (pv 1) pa_nil)))) (fun _ _ _ _ _ => (pg_name (i := 2) sc.nd rfl (Or.inl rfl))) (fun _ _ _ _ _ => pts_nil) (fun _ _ _ _ _ => (pe_op op_add (pe_cal C_depth_of (hr.mono (by omega)) rfl pass0 (pa_cons (pv 2) pa_nil)) pe_int))) pa_nil) (pk_cons pe_int pk_nil)))), ?_⟩
    have t : Tp K H v r.d := t
    have er : r.d = .tuple (r.items.map FItem.d) := by rw [FRow.d, FRow.ds_eq]
    have al := allrows_len r
    have eg : (r.items.map fun i => i.rows.map fun q => PyData.int (((q.dep + 1 : Nat)) : Int)).flatten = ((r.items.flatMap fun i => i.rows.map fun q => q.dep + 1).map fun m : Nat => (m : Int)).map PyData.int := by
      rw [← List.flatMap_def, List.map_map, List.map_flatMap]
      simp [Function.comp_def]
    have en : (((natMax (r.items.flatMap fun i => i.rows.map fun q => q.dep + 1) : Nat)) : Int) = (r.dep : Int) := by rw [← dep_max]
    refine retD k (Same.refl _) (e_is (e_maxD (l_is (l_lc2 (ds := r.items.map FItem.d) (r.items.map fun i => i.rows.map FRow.d) (r.items.map fun i => i.rows.map fun q => PyData.int (((q.dep + 1 : Nat)) : Int)) (fun H1 s1 => .tup (e_var rfl ((er ▸ t).stay (.of s1)))) (by rw [List.length_map, List.length_map]) (by rw [List.length_map, List.length_map]) ?_ (fun x => rfl) (fun x y => rfl) ?_ ?_ ?_) eg)) (by rw [maxI_nat, en])) rfl
    · rw [eg, List.length_map, List.length_map, List.length_flatMap]
      rw [List.length_flatMap] at al
      simp only [List.length_map]
      omega
    · intro i d f x H1 h1 h2 s1 tx
      obtain ⟨it, hi, rfl⟩ := get_map h1
      obtain ⟨it', hi', rfl⟩ := get_map h2
      rw [hi] at hi'
      cases hi'
      have w1 := words_item (List.mem_of_getElem? hi)
      exact .lst (l_call (a_cons (e_var rfl tx) a_nil) ⟨it, rfl, rfl, by omega⟩)
    · intro i f g h1 h2
      obtain ⟨it, hi, rfl⟩ := get_map h1
      obtain ⟨it', hi', rfl⟩ := get_map h2
      rw [hi] at hi'
      cases hi'
      rw [List.length_map, List.length_map]
    · intro i m d f g a e x y H1 h1 h2 h3 h4 h5 s1 tx ty
      obtain ⟨it, hi, rfl⟩ := get_map h1
      obtain ⟨it', hi', rfl⟩ := get_map h2
      rw [hi] at hi'
      cases hi'
      obtain ⟨it', hi', rfl⟩ := get_map h3
      rw [hi] at hi'
      cases hi'
      obtain ⟨q, hq, rfl⟩ := get_map h4
      obtain ⟨q', hq', rfl⟩ := get_map h5
      rw [hq] at hq'
      cases hq'
      have im := List.mem_of_getElem? hi
      have qm := List.mem_of_getElem? hq
      have w1 := words_item im
      have w2 := words_rows qm
      have d1 := FItem.dep_le.mp (FRow.dep_le.mp (Nat.le_of_lt_succ dep) it im) q qm
      refine e_is (e_op (e_call (a_cons (e_var rfl ty) a_nil) ⟨q, rfl, rfl, by omega, by omega⟩) e_int r_I0i) ?_
      rfl
theorem ok_depthof {f : Addr} {fd : FuncData} (F : Fun K "depth_of" "depth_of" sDepthOf f fd) (T : TxtSrc mg) (C_rows_in : Cal P w K mg base CX0 2 "rows_in" ["item"] (spRowsIn K)) (hm : mg "depth_of" = some (.ref f)) (hk : PySem.W.keepIn K (.ref f) = true) (hb : Binds K fd ["row"] []) :
    ∀ n, Cal P w K mg base CX0 (n + 2) "depth_of" ["row"] (spDepthOf K n)
  | 0 => ⟨f, fd, FnOk.vac fun vs H Q E ⟨_, _, _, ⟨_, _, _, h, _⟩, _⟩ => Nat.not_lt_zero _ h, hm, hk, hb⟩
  | n + 1 => ⟨f, fd, ok_depthof1 F T C_rows_in (ok_depthof F T C_rows_in hm hk hb n), hm, hk, hb⟩
/-! text_of -/
def headLet (w : Str) : Bool := match w.cps.toList with
  | [] => false
  | c :: _ => decide (c ∈ cLETTERS.cps.toList)
def spaceAt (ws : List Str) (k : Nat) : Bool := decide (0 < k) && (headLet (ws.getD k "") && Txt.startswith (ws.getD (k - 1) "") "@")
def partAt (ws : List Str) (k : Nat) : List Str := (if spaceAt ws k = true then [(" " : Str)] else []) ++ [ws.getD k ""]
def partsW (ws : List Str) : List Str := (List.range ws.length).flatMap (partAt ws)
def glueW (ws : List Str) : Str := Txt.join "" (partsW ws)
def spTextOf (K : PySem.W.Frag) (n : Nat) : Sp := spR K fun ds d => ∃ r : FRow, ds = [r.d] ∧ d = .str (glueW r.words) ∧ r.dep < n ∧ r.words.length ≤ 100000 ∧ ∀ x ∈ r.words, 1 ≤ x.length ∧ x.length ≤ 9
theorem scTextOf : FnScope ["formula", "words", "parts", "k", "word"] ["formula"] (defScope sTextOf) := ⟨rfl, rfl, rfl, by decide +kernel, rfl, by decide +kernel, by decide +kernel⟩
theorem head_of {x : Str} (h : 1 ≤ x.length) : ∃ c l, x.cps.toList = c :: l := by
  rw [str_len] at h
  match e : x.cps.toList, h with
  | c :: l, _ => exact ⟨c, l, rfl⟩
theorem parts_len (ws : List Str) (n : Nat) : ((List.range n).flatMap (partAt ws)).length ≤ 2 * n := by
  induction n with
  | zero => exact Nat.le_refl _
  | succ n ih =>
    rw [List.range_succ, List.flatMap_append, List.length_append]
    have : ([n].flatMap (partAt ws)).length ≤ 2 := by
      simp [partAt]
      split <;> simp
    omega
theorem parts_sum (ws : List Str) (h : ∀ x ∈ ws, x.length ≤ 9) (n : Nat) (hn : n ≤ ws.length) : (((List.range n).flatMap (partAt ws)).map (·.length)).sum ≤ 10 * n := by
  induction n with
  | zero => exact Nat.le_refl _
  | succ n ih =>
    have i := ih (by omega)
    rw [List.range_succ, List.flatMap_append, List.map_append, List.sum_append]
    have e : ws[n]? = some (ws[n]'(by omega)) := List.getElem?_eq_getElem (by omega)
    have hx := h _ (List.mem_of_getElem? e)
    have : (([n].flatMap (partAt ws)).map (·.length)).sum ≤ 10 := by
      rw [List.flatMap_cons, List.flatMap_nil, List.append_nil, partAt, getD_of e]
      split
      · simp
        have : (" " : Str).length = 1 := by decide +kernel
        omega
      · simp
        omega
    omega
theorem ok_textof {n : Nat} {f : Addr} {fd : FuncData} (F : Fun K "text_of" "text_of" sTextOf f fd) (T : TxtSrc mg) (C_row_words : Cal P w K mg base CX0 (3 * n) "row_words" ["row"] (spRowWords K n)) : FnOk P w K mg base CX0 (3 * n + 1) f fd ["formula"] (spTextOf K n) := by
  have sc := scTextOf
  refine F.ok scTextOf (fun vs H Q E h => ?_) (fun cdv A outer s H vs Q E hr h => ?_)
  · obtain ⟨ds, es, l, ⟨_, rfl, _⟩, _⟩ := h
    exact l.len
  · obtain ⟨ds, es, l, ⟨r, rfl, rfl, dep, bnd, wk⟩, k⟩ := h
    cases l with
    | cons t l => cases l with
    | nil =>
    rename_i v
    refine ⟨_, (pss_cons (ps_set (i := 1) sc.nd rfl (Or.inl rfl) (pe_cal C_row_words (hr.mono (by omega)) rfl pass0 (pa_cons (pv 0) pa_nil)))
  (pss_cons (ps_set (i := 2) sc.nd rfl (Or.inl rfl) (pe_lst pa_nil))
  (pss_cons (ps_for PassesOwn.never rfl (pi_enum (by rfl) T.b_enumerate (pa_cons (pv 1) pa_nil)) (pg_tup rfl (pgs_cons (pg_name (i := 3) sc.nd rfl (Or.inl rfl)) (pgs_cons (pg_name (i := 4) sc.nd rfl (Or.inl rfl)) pgs_nil)))
  (pss_cons (ps_if (PW.pt (pw_and (pt_cmpR op_gt (pv 3) pe_int (nomark _)) (pw_and (pt_cmpR op_in_sign (pe_ix ix_str (pv 4) pe_int (fun _ _ => rfl)) (pe_gstr rfl T.c_LETTERS) (by rfl)) (pw_and1 (pt_val (pe_m1 PySem.F.slot_str_startswith PySem.F.type_str_startswith mt_startswith (pe_ix ix_list (pv 1) (pe_op op_sub (pv 3) pe_int) (fun _ _ => rfl)) pe_str))))))
  (pss_one (ps_expr (pe_bm PySem.F.plainAttrs_list PySem.F.slot_list_append PySem.F.type_list_append mt_append (pv 2) (pa_cons pe_str pa_nil))))
  pss_nil)
  (pss_one (ps_expr (pe_bm PySem.F.plainAttrs_list PySem.F.slot_list_append PySem.F.type_list_append mt_append (pv 2) (pa_cons (pv 4) pa_nil))))))
  (pss_one (ps_ret (pe_join pe_str (pv 2))))))), ?_⟩
    refine q_setL (l_call (a_cons (e_var rfl t) a_nil) ⟨r, rfl, rfl, dep, bnd⟩) fun p1 xs1 H1 n1 s1 e1 l1 => ?_
    refine q_setL (K := K) (l_lst a_nil (Nat.le_of_ble_eq_true rfl)) fun p2 xs2 H2 n2 s2 e2 l2 => ?_
    obtain ⟨ws, hws⟩ : ∃ ws, r.words = ws := ⟨_, rfl⟩
    rw [hws] at bnd wk l1 k
    have l1 : TpL K H1 xs1 (ws.map PyData.str) := l1
    have A0 : Acc K H p2 [] H2 := Acc.start (s1.free n2) (s1.trans s2) e2 l2
    have ne : p1 ≠ p2 := fun z => by
      rw [z, n2] at e1
      cases e1
    have e1' := s2 _ _ e1
    have l1' := l1.stay (.of s2)
    refine q_enum (p := p2) (ds := ws.map PyData.str) rfl e1' l1' ne e2 (fun i σ' H' => ∃ x3 x4, σ' = [some v, some (.ref p1), some (.ref p2), x3, x4] ∧ Acc K H p2 (((List.range i).flatMap (partAt ws)).map PyData.str) H') ⟨_, _, rfl, A0⟩ ?_ ?_
    · rintro i d x T' σ' H' hi ⟨x3, x4, rfl, A⟩ kb tx hT
      obtain ⟨y, hy, rfl⟩ := get_map hi
      obtain rfl := tp_str tx
      have il := (List.getElem?_eq_some_iff.mp hy).1
      have yk := wk y (List.mem_of_getElem? hy)
      obtain ⟨c, cl, hc⟩ := head_of yk.1
      have sT := same_new (o := .tup [.int (i : Nat), .str y]) hT
      have A := A.ext sT
      have kb := kb.trans (KeepB.of sT)
      have e1T : (upd H' T' (.tup [.int (i : Nat), .str y])) p1 = some (.lst xs1) := kb _ _ e1' ne
      have l1T := l1'.stay (.keep kb e2)
      refine g_tup2 (a := .int (i : Nat)) (b := .str y) (Tp.mk (SqT.of upd_same) (.cons (.int _) (.cons (.str _) .nil))) fun xa xb ta tb => ?_
      obtain rfl := tp_int ta
      obtain rfl := tp_str tb
      have hlet : headLet y = decide (c ∈ cLETTERS.cps.toList) := by
        unfold headLet
        rw [hc]
      have plen := parts_len ws i
      generalize upd H' T' (.tup [.int (i : Nat), .str y]) = HT at A kb e1T l1T ⊢
      have tst : EvDT K (tAnd (tTest (tOp (rI0 fun i j => .bl (decide (j < i))) (tVar 3) (tC (.int 0)))) (tAnd (tTest (tOp (fun x y H Q => ∃ (c : Nat) (z : Str), x = .str ⟨#[c]⟩ ∧ y = .str z ∧ Q (.bl (decide (c ∈ z.cps.toList))) H) (tOp rIxS (tVar 4) (tC (.int 0))) (tC (.str cLETTERS))))
          (tB (tM1 (fun x xs H Q => ∃ a b, x = .str a ∧ xs = [.str b] ∧ Q (.bl (Txt.startswith a b)) H) (tOp (rIxL K) (tVar 1) (tOp (rI0 fun i j => .int (i - j)) (tVar 3) (tC (.int 1)))) (tC (.str "@")))))) [some v, some (.ref p1), some (.ref p2), some (.int (i : Nat)), some (.str y)] HT (spaceAt ws i) := by
        unfold spaceAt
        rw [getD_of hy, hlet]
        refine t_is (t_and (c := decide (c ∈ cLETTERS.cps.toList) && Txt.startswith (ws.getD (i - 1) "") "@") (t_test (e_op (e_var rfl (.int _)) e_int r_I0b)) fun h0 => t_and (t_test (e_op (e_op (e_var rfl (.str _)) e_int (r_ixS (σ := []) hc (by omega))) e_str r_inS)) fun _ => ?_) ?_
        · have h0 : (0 : Int) < (i : Nat) := of_decide_eq_true h0
          have ep : ws[i - 1]? = some (ws[i - 1]'(by omega)) := List.getElem?_eq_getElem (by omega)
          rw [getD_of ep]
          refine t_B (e_starts (e_ixL rfl e1T l1T (e_op (e_var rfl (.int _)) e_int r_I0i) ?_) e_str)
          rw [show ((i : Nat) : Int) - 1 = ((i - 1 : Nat) : Int) by omega]
          exact atI_nat (map_get ep)
        · congr 1
          simp
      have fin : ∀ H3, KeepB p2 HT H3 → Acc K H p2 ((((List.range i).flatMap (partAt ws)) ++ (if spaceAt ws i = true then [(" " : Str)] else [])).map PyData.str) H3 → tDrop (tBM K "list" rAppend (tVar 2) (tCons (tVar 4) tNil))
          { nx := fun σ3 H3_1 => (∃ x3 x4, σ3 = [some v, some (.ref p1), some (.ref p2), x3, x4] ∧ Acc K H p2 (((List.range (i + 1)).flatMap (partAt ws)).map PyData.str) H3_1) ∧ KeepB p2 H2 H3_1, ct := fun σ3 H3_1 => (∃ x3 x4, σ3 = [some v, some (.ref p1), some (.ref p2), x3, x4] ∧ Acc K H p2 (((List.range (i + 1)).flatMap (partAt ws)).map PyData.str) H3_1) ∧ KeepB p2 H2 H3_1, bk := (tRet (tM1 (fun x xs H Q => ∃ a p, ∃ ys : List Str, x = .str a ∧ xs = [.ref p] ∧ (SqL K H p (ys.map V.str) ∨ SqT K H p (ys.map V.str)) ∧ (ys.map (·.length)).sum + ys.length * a.length ≤ 16777216 ∧ Q (.str (Txt.join a ys)) H) (tC (.str "")) (tVar 2))) { nx := fun _ H' => Q .non H', rt := Q }, rt := Q }
          [some v, some (.ref p1), some (.ref p2), some (.int (i : Nat)), some (.str y)] H3 := fun H3 kb3 A3 => by
        refine s_app (l := 0) rfl A3 (e_var rfl (.str _)) (by
          have e1 : (if spaceAt ws i = true then [(" " : Str)] else []).length ≤ 1 := by split <;> simp
          rw [List.length_map, List.length_append]
          omega) fun H4 tk4 kb4 A4 => ⟨⟨_, _, rfl, ?_⟩, (kb.trans kb3).trans kb4⟩
        have A4 : Acc K H p2 _ H4 := A4
        rw [List.range_succ, List.flatMap_append, List.flatMap_cons, List.flatMap_nil, List.append_nil, partAt, getD_of hy, ← List.append_assoc, List.map_append]
        exact A4
      cases hsp : spaceAt ws i with
      | true =>
        rw [hsp] at tst fin
        refine q_yes tst rfl fun H3 s3 => ?_
        refine s_app (l := 0) rfl (A.ext s3) e_str (by rw [List.length_map]; omega) fun H4 tk4 kb4 A4 => fin H4 ((KeepB.of s3).trans kb4) ?_
        rw [if_pos rfl, List.map_append]
        exact A4
      | false =>
        rw [hsp] at tst fin
        refine q_no tst rfl fun H3 s3 => fin H3 (.of s3) ?_
        rw [if_neg Bool.false_ne_true, List.append_nil]
        exact A.ext s3
    · rintro σ' H' ⟨x3, x4, rfl, A⟩ kb
      rw [List.length_map] at A
      obtain ⟨xs, e, l⟩ := A.lst
      have el := TpL.strs (ws := partsW ws) l
      subst el
      refine ⟨⟨_, rfl⟩, _, rfl, "", p2, partsW ws, rfl, rfl, .inl (SqL.of e), ?_, ?_⟩
      · have := parts_sum ws (fun x hx => (wk x hx).2) ws.length (Nat.le_refl _)
        have e0 : ("" : Str).length = 0 := rfl
        rw [e0]
        show ((partsW ws).map (·.length)).sum + _ ≤ _
        unfold partsW
        omega
      · exact k _ _ A.same (.str _)
/-! check_depth, check_formula -/
def spCheckDepth (CTD : Addr) : Sp := fun vs H Q E => ∃ d : Int, vs = [.int d] ∧ (d ≤ 7 → Q .non H) ∧ (7 < d → E (.ref CTD) none H)
theorem scCheckDepth : FnScope ["depth"] ["depth"] (defScope sCheckDepth) := ⟨rfl, rfl, rfl, by decide +kernel, rfl, by decide +kernel, by decide +kernel⟩
theorem ok_checkdepth {CTD : Addr} {f : Addr} {fd : FuncData} (F : Fun K "check_depth" "check_depth" sCheckDepth f fd) (T : TxtSrc mg) (B : ExB K mg "TooDeep" CTD) : FnOk P w K mg base (L2.CX P w) 1 f fd ["depth"] (spCheckDepth CTD) := by
  have sc := scCheckDepth
  refine F.okX scCheckDepth (fun vs H Q E h => ?_) (fun cdv A outer s H vs Q E hr h => ?_)
  · obtain ⟨d, rfl, _⟩ := h
    rfl
  · obtain ⟨d, rfl, k1, k2⟩ := h
    refine ⟨_, (pss_one (ps_if (pt_cmpR op_gt (pv 0) (pe_gint rfl T.c_DEEPEST) (nomark _))
  (pss_one (ps_raise rfl (takes_of rfl rfl rfl rfl) (pmk_own PySem.F.excBase_ValueError B.x B.g B.k (raises_own B.b B.t) rfl)))
  pss_nil)), ?_⟩
    refine ⟨_, rfl, _, _, rfl, rfl, _, rfl, ?_⟩
    by_cases c : 7 < d
    · exact iteP (decide_eq_true c) (k2 c)
    · exact iteN (by simpa using c) (k1 (by omega))
def FRow.count (r : FRow) : Int := (r.pre.map fun q => (q.items.length : Int)).sum
def spCheckFormula (K : PySem.W.Frag) (n : Nat) (CTD CTL : Addr) : Sp := fun vs H Q E => ∃ (v : V) (r : FRow), vs = [v] ∧ Tp K H v r.d ∧ r.dep < n ∧ r.words.length ≤ 100000 ∧ (∀ x ∈ r.words, 1 ≤ x.length ∧ x.length ≤ 9) ∧
  (r.dep ≤ 7 → r.count ≤ 80 → (glueW r.words).length ≤ 400 → ∀ H', Same H H' → Q .non H') ∧ (7 < r.dep → ∀ H', Same H H' → E (.ref CTD) none H') ∧ (r.dep ≤ 7 → 80 < r.count ∨ 400 < (glueW r.words).length → ∀ H', Same H H' → E (.ref CTL) none H')
theorem scCheckFormula : FnScope ["formula", "items", "row"] ["formula"] (defScope sCheckFormula) := ⟨rfl, rfl, rfl, by decide +kernel, rfl, by decide +kernel, by decide +kernel⟩
theorem glue_len (ws : List Str) (h : ∀ x ∈ ws, x.length ≤ 9) : (glueW ws).length ≤ 10 * ws.length := by
  have e : ∀ l : List Str, (Txt.join "" l).length = (l.map (·.length)).sum := by
    intro l
    rw [TL.join_eq, str_len]
    have : ∀ l : List Str, (Str.join "" l).cps.toList.length = (l.map (·.length)).sum := by
      intro l
      induction l with
      | nil => rfl
      | cons x l ih =>
        cases l with
        | nil => simp [Str.join, str_len]
        | cons y r =>
          show (x ++ ("" : Str) ++ Str.join "" (y :: r)).cps.toList.length = _
          rw [List.map_cons, List.sum_cons, ← ih, str_len x]
          show ((x.cps ++ (#[] : Array Nat)) ++ (Str.join "" (y :: r)).cps).toList.length = _
          simp
    exact this l
  rw [glueW, e]
  exact parts_sum ws h ws.length (Nat.le_refl _)
theorem ok_checkformula {n : Nat} {CTD CTL : Addr} {f : Addr} {fd : FuncData} (F : Fun K "check_formula" "check_formula" sCheckFormula f fd) (T : TxtSrc mg) (B : ExB K mg "TooLarge" CTL) (hn : 1 ≤ n) (C_check_depth : Cal P w K mg base (L2.CX P w) 1 "check_depth" ["depth"] (spCheckDepth CTD))
    (C_depth_of : Cal P w K mg base CX0 (n + 2) "depth_of" ["row"] (spDepthOf K n)) (C_rows_of : Cal P w K mg base CX0 (n + 2) "rows_of" ["formula"] (spRowsOf K n)) (C_text_of : Cal P w K mg base CX0 (3 * n + 1) "text_of" ["formula"] (spTextOf K n)) : FnOk P w K mg base (L2.CX P w) (3 * n + 2) f fd ["formula"] (spCheckFormula K n CTD CTL) := by
  have sc := scCheckFormula
  refine F.okX scCheckFormula (fun vs H Q E h => ?_) (fun cdv A outer s H vs Q E hr h => ?_)
  · obtain ⟨v, r, rfl, _⟩ := h
    rfl
  · obtain ⟨v, r, rfl, t, dep, bnd, wk, k1, k2, k3⟩ := h
    refine ⟨_, (pss_cons (ps_expr (pe_cal C_check_depth (hr.mono (by omega)) rfl passX (pa_cons (pe_cal C_depth_of (hr.mono (by omega)) rfl pass0 (pa_cons (pv 0) pa_nil)) pa_nil)))
  (pss_cons (ps_set (i := 1) sc.nd rfl (Or.inl rfl) (pe_callB (cr_sum rfl) (by rfl) T.b_sum (by decide +kernel) (pa_cons (pe_lc (own := [("row", 2)]) rfl sc.nd (pi_list (pe_cal C_rows_of (hr.mono (by omega)) rfl pass0 (pa_cons (pv 0) pa_nil))) (blkOk_by (own := [("row", 2)]) (N := ["formula", "items", "row"]) (sc := defScope sCheckFormula) (by decide +kernel)) (fun _ _ _ _ _ => (pg_name (i := 2) sc.nd rfl (Or.inl rfl))) (fun _ _ _ _ _ => pts_nil) (fun _ _ _ _ _ => (pe_callB (r := rLenQ K) call_lenK (by rfl) T.b_len PySem.boot_len (pa_cons (pv 2) pa_nil)))) pa_nil)))
  (pss_one (ps_if (PW.pt (pw_or (pt_cmpR op_gt (pv 1) (pe_gint rfl T.c_MOST_ITEMS) (nomark _)) (pw_or1 (pt_cmpR op_gt (pe_callB call_len_str (by rfl) T.b_len PySem.boot_len (pa_cons (pe_cal C_text_of (hr.mono (by omega)) rfl pass0 (pa_cons (pv 0) pa_nil)) pa_nil)) (pe_gint rfl T.c_LONGEST) (nomark _)))))
  (pss_one (ps_raise rfl (takes_of rfl rfl rfl rfl) (pmk_own PySem.F.excBase_ValueError B.x B.g B.k (raises_own B.b B.t) rfl)))
  pss_nil)))), ?_⟩
    refine e_call (a_cons (e_var rfl t) a_nil) ⟨r, rfl, rfl, dep, bnd⟩ H (Same.refl _) _ fun vd H1 s1 td => ?_
    obtain rfl := tp_int td
    refine ⟨_, rfl, fun d7 => ?_, fun d7 => k2 (by omega) H1 s1⟩
    have d7' : r.dep ≤ 7 := by omega
    have t1 := t.stay (.of s1)
    refine q_set (e_sum (ns := r.pre.map fun q => (q.items.length : Int)) (l_is (l_lcL (K := K) (es := (r.pre.map fun q => (q.items.length : Int)).map PyData.int) (l_call (a_cons (e_var rfl t1) a_nil) ⟨r, rfl, rfl, dep, bnd⟩) (by simp) ?_ (fun x => rfl) ?_) rfl)) fun v2 H2 s2 t2 => ?_
    · have := inn_row r
      simp [FRow.pre]
      omega
    · intro i d e x H2 h1 h2 s2 tx
      obtain ⟨q, hq, rfl⟩ := get_map h1
      rw [List.map_map] at h2
      obtain ⟨q', hq', rfl⟩ := get_map h2
      rw [hq] at hq'
      cases hq'
      have ex : q.d = .tuple (q.items.map FItem.d) := by rw [FRow.d, FRow.ds_eq]
      refine e_is (e_lenT (ds := q.items.map FItem.d) (fun p xs H Q h hq => ⟨p, xs, rfl, h, fun _ => hq⟩) (e_var rfl (ex ▸ tx))) ?_
      simp
    obtain rfl := tp_int t2
    have t2 := t1.stay (.of s2)
    have ec : (r.pre.map fun q => (q.items.length : Int)).sum = r.count := rfl
    rw [ec]
    refine s_if (K := K) (t_or (t_test (e_op (e_var rfl (.int _)) e_int r_I0b)) fun h80 => t_test (e_op (d1 := .int (glueW r.words).length) ?_ e_int r_I0b)) (fun hb H3 s3 => ?_) fun hb H3 s3 => ?_
    · intro H3 s3 Q3 q3
      refine e_call (a_cons (e_var rfl t2) a_nil) ⟨r, rfl, rfl, dep, bnd, wk⟩ H3 s3 _ fun v4 H4 s4 t4 => ?_
      obtain rfl := tp_str t4
      have := glue_len r.words fun x hx => (wk x hx).2
      exact ⟨_, rfl, sz5 (by omega), q3 _ H4 s4 (.int _)⟩
    · refine k3 d7' ?_ H3 ((s1.trans s2).trans s3)
      simp only [Bool.or_eq_true, decide_eq_true_eq] at hb
      omega
    · simp only [Bool.or_eq_false_iff, decide_eq_false_iff_not] at hb
      exact k1 d7' (by omega) (by omega) H3 ((s1.trans s2).trans s3)
end
end Mg

set_option Elab.async false
set_option linter.all false
set_option maxRecDepth 100000
set_option maxHeartbeats 1000000
namespace Mg
open PySem L2
/-! texts as they are written: trees whose leaves are words -/
mutual
inductive CRow where
  | nil | cons (i : CItem) (r : CRow)
inductive CItem where
  | mk (n : CNuc) (s : CScr)
inductive CScr where
  | no | b (x : CArg) | a (x : CArg) | ba (x y : CArg) | ab (x y : CArg)
inductive CArg where
  | one (x : Str) | brace (r : CRow)
inductive CNuc where
  | sym (x : Str) | group (r : CRow) | frac (o u : CArg) | root (r : CArg) | fence (o c : Str) (r : CRow) | grid (g : CGrid)
inductive CGrid where
  | nil | cons (c : CCells) (g : CGrid)
inductive CCells where
  | nil | cons (r : CRow) (c : CCells)
end
mutual
def CRow.ws : CRow → List Str
  | .nil => []
  | .cons i r => i.ws ++ r.ws
def CItem.ws : CItem → List Str
  | .mk n s => n.ws ++ s.ws
def CScr.ws : CScr → List Str
  | .no => []
  | .b x => "_" :: x.ws
  | .a x => "^" :: x.ws
  | .ba x y => "_" :: (x.ws ++ ("^" : Str) :: y.ws)
  | .ab x y => "^" :: (x.ws ++ ("_" : Str) :: y.ws)
def CArg.ws : CArg → List Str
  | .one x => [x]
  | .brace r => "{" :: (r.ws ++ [("}" : Str)])
def CNuc.ws : CNuc → List Str
  | .sym x => [x]
  | .group r => "{" :: (r.ws ++ [("}" : Str)])
  | .frac o u => "@frac" :: (o.ws ++ u.ws)
  | .root r => "@root" :: r.ws
  | .fence o c r => "@left" :: o :: (r.ws ++ [("@right" : Str), c])
  | .grid g => "@grid" :: (g.ws "{" ++ [("}" : Str)])
def CGrid.ws (s : Str) : CGrid → List Str
  | .nil => []
  | .cons c g => c.ws s ++ g.ws "~"
def CCells.ws (s : Str) : CCells → List Str
  | .nil => []
  | .cons r c => s :: (r.ws ++ c.ws "&")
end
def optW (x : Str) : Option Str := if x = "." then none else some x
mutual
def CRow.f : CRow → FRow
  | .nil => .nil
  | .cons i r => .cons i.f r.f
def CItem.f : CItem → FItem
  | .mk n s => .mk n.f s.lo s.hi
def CScr.lo : CScr → FScr
  | .no => .no
  | .b x => .yes x.f
  | .a _ => .no
  | .ba x _ => .yes x.f
  | .ab _ y => .yes y.f
def CScr.hi : CScr → FScr
  | .no => .no
  | .b _ => .no
  | .a x => .yes x.f
  | .ba _ y => .yes y.f
  | .ab x _ => .yes x.f
def CArg.f : CArg → FRow
  | .one x => .cons (.mk (.sym x) .no .no) .nil
  | .brace r => r.f
def CNuc.f : CNuc → FNuc
  | .sym x => .sym x
  | .group r => .group r.f
  | .frac o u => .frac o.f u.f
  | .root r => .root r.f
  | .fence o c r => .fence (optW o) (optW c) r.f
  | .grid g => .grid g.f
def CGrid.f : CGrid → FGrid
  | .nil => .nil
  | .cons c g => .cons c.f g.f
def CCells.f : CCells → FCells
  | .nil => .nil
  | .cons r c => .cons r.f c.f
end
mutual
def CRow.h : CRow → Nat
  | .nil => 0
  | .cons i r => max i.h r.h
def CItem.h : CItem → Nat
  | .mk n s => max n.h s.h
def CScr.h : CScr → Nat
  | .no => 0
  | .b x => x.h + 1
  | .a x => x.h + 1
  | .ba x y => max (x.h + 1) (y.h + 1)
  | .ab x y => max (x.h + 1) (y.h + 1)
def CArg.h : CArg → Nat
  | .one _ => 0
  | .brace r => r.h
def CNuc.h : CNuc → Nat
  | .sym _ => 0
  | .group r => r.h + 1
  | .frac o u => max (o.h + 1) (u.h + 1)
  | .root r => r.h + 1
  | .fence _ _ r => r.h + 1
  | .grid g => g.h
def CGrid.h : CGrid → Nat
  | .nil => 0
  | .cons c g => max c.h g.h
def CCells.h : CCells → Nat
  | .nil => 0
  | .cons r c => max (r.h + 1) c.h
end
def CRow.items : CRow → List CItem
  | .nil => []
  | .cons i r => i :: r.items
def CGrid.lines : CGrid → List CCells
  | .nil => []
  | .cons c g => c :: g.lines
def CCells.rows : CCells → List CRow
  | .nil => []
  | .cons r c => r :: c.rows
def Sy (x : Str) : Prop := x.length ≤ 1000 ∧ isSymbol x = true
mutual
def CRow.ok : CRow → Prop
  | .nil => True
  | .cons i r => i.ok ∧ r.ok
def CItem.ok : CItem → Prop
  | .mk n s => n.ok ∧ s.ok
def CScr.ok : CScr → Prop
  | .no => True
  | .b x => x.ok
  | .a x => x.ok
  | .ba x y => x.ok ∧ y.ok
  | .ab x y => x.ok ∧ y.ok
def CArg.ok : CArg → Prop
  | .one x => Sy x
  | .brace r => r.ok
def CNuc.ok : CNuc → Prop
  | .sym x => Sy x
  | .group r => r.ok
  | .frac o u => o.ok ∧ u.ok
  | .root r => r.ok
  | .fence o c r => Sy o ∧ Sy c ∧ r.ok
  | .grid g => g.ok ∧ (1 ≤ g.lines.length ∧ g.lines.length ≤ 6) ∧ ∃ m, 1 ≤ m ∧ m ≤ 6 ∧ ∀ c ∈ g.lines, c.rows.length = m
def CGrid.ok : CGrid → Prop
  | .nil => True
  | .cons c g => c.ok ∧ g.ok
def CCells.ok : CCells → Prop
  | .nil => True
  | .cons r c => r.ok ∧ c.ok
end
theorem CRow.ds_eq : ∀ r : CRow, r.f.ds = r.items.map fun i => i.f.d
  | .nil => rfl
  | .cons i r => by rw [CRow.f, FRow.ds, CRow.items, List.map_cons, CRow.ds_eq r]
theorem CGrid.ds_eq : ∀ g : CGrid, g.f.ds = g.lines.map fun c => c.f.d
  | .nil => rfl
  | .cons c g => by rw [CGrid.f, FGrid.ds, CGrid.lines, List.map_cons, CGrid.ds_eq g, FCells.d]
theorem CCells.ds_eq : ∀ c : CCells, c.f.ds = c.rows.map fun r => r.f.d
  | .nil => rfl
  | .cons r c => by rw [CCells.f, FCells.ds, CCells.rows, List.map_cons, CCells.ds_eq c, FRow.d]
theorem CRow.ws_eq : ∀ r : CRow, r.ws = r.items.flatMap CItem.ws
  | .nil => rfl
  | .cons i r => by rw [CRow.ws, CRow.items, List.flatMap_cons, CRow.ws_eq r]
theorem CRow.ok_iff : ∀ {r : CRow}, r.ok ↔ ∀ i ∈ r.items, i.ok
  | .nil => by simp [CRow.ok, CRow.items]
  | .cons i r => by rw [CRow.ok, CRow.items, List.forall_mem_cons, ← CRow.ok_iff (r := r)]
theorem CCells.ok_iff : ∀ {r : CCells}, r.ok ↔ ∀ i ∈ r.rows, i.ok
  | .nil => by simp [CCells.ok, CCells.rows]
  | .cons i r => by rw [CCells.ok, CCells.rows, List.forall_mem_cons, ← CCells.ok_iff (r := r)]
theorem CGrid.ok_iff : ∀ {r : CGrid}, r.ok ↔ ∀ i ∈ r.lines, i.ok
  | .nil => by simp [CGrid.ok, CGrid.lines]
  | .cons i r => by rw [CGrid.ok, CGrid.lines, List.forall_mem_cons, ← CGrid.ok_iff (r := r)]
theorem CRow.h_le {n : Nat} : ∀ {r : CRow}, r.h ≤ n ↔ ∀ i ∈ r.items, i.h ≤ n
  | .nil => by simp [CRow.h, CRow.items]
  | .cons i r => by rw [CRow.h, CRow.items, List.forall_mem_cons, ← CRow.h_le (r := r)]; omega
theorem CCells.h_le {n : Nat} : ∀ {c : CCells}, c.h ≤ n ↔ ∀ r ∈ c.rows, r.h + 1 ≤ n
  | .nil => by simp [CCells.h, CCells.rows]
  | .cons r c => by rw [CCells.h, CCells.rows, List.forall_mem_cons, ← CCells.h_le (c := c)]; omega
theorem CGrid.h_le {n : Nat} : ∀ {c : CGrid}, c.h ≤ n ↔ ∀ r ∈ c.lines, r.h ≤ n
  | .nil => by simp [CGrid.h, CGrid.lines]
  | .cons r c => by rw [CGrid.h, CGrid.lines, List.forall_mem_cons, ← CGrid.h_le (c := c)]; omega
/-! what the words at a place are -/
def At (ws : List Str) (i : Nat) (us : List Str) : Prop := us <+: ws.drop i
section
variable {ws us vs : List Str} {x : Str} {i : Nat}
theorem at_cons : At ws i (x :: us) ↔ ws[i]? = some x ∧ At ws (i + 1) us := by
  unfold At
  constructor
  · rintro ⟨t, h⟩
    have h0 : (ws.drop i)[0]? = some x := by rw [← h]; rfl
    rw [List.getElem?_drop, Nat.add_zero] at h0
    refine ⟨h0, t, ?_⟩
    have := congrArg (List.drop 1) h
    rw [List.drop_drop] at this
    exact this
  · rintro ⟨h, t, e⟩
    refine ⟨t, ?_⟩
    have hl : i < ws.length := (List.getElem?_eq_some_iff.mp h).1
    rw [List.drop_eq_getElem_cons hl, ← e]
    have : ws[i] = x := (List.getElem?_eq_some_iff.mp h).2
    rw [this]
    rfl
theorem at_nil : At ws i [] := List.nil_prefix
theorem at_app : At ws i (us ++ vs) ↔ At ws i us ∧ At ws (i + us.length) vs := by
  induction us generalizing i with
  | nil => exact ⟨fun h => ⟨at_nil, h⟩, fun h => h.2⟩
  | cons x us ih =>
    rw [List.cons_append, at_cons, at_cons, ih, List.length_cons, show i + (us.length + 1) = i + 1 + us.length by omega]
    exact ⟨fun ⟨a, b, c⟩ => ⟨⟨a, b⟩, c⟩, fun ⟨⟨a, b⟩, c⟩ => ⟨a, b, c⟩⟩
end
/-! the first word of an item -/
def stopWs : List Str := ["end", "}", "@right", "&", "~"]
def firstOk (x : Str) : Prop := x ∉ stopWs ∧ x ≠ "_" ∧ x ≠ "^"
instance (x : Str) : Decidable (firstOk x) := inferInstanceAs (Decidable (x ∉ stopWs ∧ x ≠ "_" ∧ x ≠ "^"))
theorem sy_ne {x y : Str} (h : Sy x) (e : isSymbol y = false) : x ≠ y := fun z => by
  rw [z] at h
  rw [h.2] at e
  cases e
theorem sy_first {x : Str} (h : Sy x) : firstOk x := by
  refine ⟨fun z => ?_, sy_ne h (by decide +kernel), sy_ne h (by decide +kernel)⟩
  simp only [stopWs, List.mem_cons, List.not_mem_nil, or_false] at z
  rcases z with z | z | z | z | z <;> exact sy_ne h (by decide +kernel) z
theorem CNuc.first : ∀ {n : CNuc}, n.ok → ∃ x r, n.ws = x :: r ∧ firstOk x
  | .sym x, h => ⟨x, [], rfl, sy_first h⟩
  | .group r, h => ⟨"{", _, rfl, by decide +kernel⟩
  | .frac o u, h => ⟨"@frac", _, rfl, by decide +kernel⟩
  | .root r, h => ⟨"@root", _, rfl, by decide +kernel⟩
  | .fence o c r, h => ⟨"@left", _, rfl, by decide +kernel⟩
  | .grid g, h => ⟨"@grid", _, rfl, by decide +kernel⟩
theorem CItem.first : ∀ {n : CItem}, n.ok → ∃ x r, n.ws = x :: r ∧ firstOk x
  | .mk n s, h => by
    obtain ⟨x, r, e, f⟩ := CNuc.first h.1
    exact ⟨x, r ++ s.ws, by rw [CItem.ws, e]; rfl, f⟩
/-! the tree of a formula's normal text -/
mutual
def FRow.t : FRow → CRow
  | .nil => .nil
  | .cons i r => .cons i.t r.t
def FItem.t : FItem → CItem
  | .mk n b a => .mk n.t (scrT b.t1 a.t1)
def FScr.t1 : FScr → Option CRow
  | .no => none
  | .yes r => some r.t
def FNuc.t : FNuc → CNuc
  | .sym x => .sym x
  | .group r => .group r.t
  | .frac o u => .frac (.brace o.t) (.brace u.t)
  | .root r => .root (.brace r.t)
  | .fence o c r => .fence (delimW o) (delimW c) r.t
  | .grid g => .grid g.t
def FGrid.t : FGrid → CGrid
  | .nil => .nil
  | .cons c g => .cons c.t g.t
def FCells.t : FCells → CCells
  | .nil => .nil
  | .cons r c => .cons r.t c.t
def scrT : Option CRow → Option CRow → CScr
  | none, none => .no
  | some b, none => .b (.brace b)
  | none, some a => .a (.brace a)
  | some b, some a => .ba (.brace b) (.brace a)
end
theorem FGrid.t_lines : ∀ g : FGrid, g.t.lines = g.lines.map FCells.t
  | .nil => rfl
  | .cons c g => by rw [FGrid.t, CGrid.lines, FGrid.lines, List.map_cons, FGrid.t_lines g]
theorem FCells.t_rows : ∀ g : FCells, g.t.rows = g.rows.map FRow.t
  | .nil => rfl
  | .cons c g => by rw [FCells.t, CCells.rows, FCells.rows, List.map_cons, FCells.t_rows g]
section
variable {P : Str → Prop} {D : Option Str → Prop}
mutual
theorem FRow.t_ws : ∀ r : FRow, r.t.ws = r.words
  | .nil => rfl
  | .cons i r => by rw [FRow.t, CRow.ws, FRow.words, FItem.t_ws i, FRow.t_ws r]
theorem FItem.t_ws : ∀ i : FItem, i.t.ws = i.words
  | .mk n .no .no => by rw [FItem.t, CItem.ws, FItem.words, FNuc.t_ws n]; rfl
  | .mk n (.yes b) .no => by
    rw [FItem.t, CItem.ws, FItem.words, FNuc.t_ws n]
    show n.words ++ (("_" : Str) :: ("{" : Str) :: (b.t.ws ++ _)) = n.words ++ (("_" : Str) :: ("{" : Str) :: (b.words ++ _) ++ [])
    rw [FRow.t_ws b, List.append_nil]
  | .mk n .no (.yes a) => by
    rw [FItem.t, CItem.ws, FItem.words, FNuc.t_ws n]
    show n.words ++ (("^" : Str) :: ("{" : Str) :: (a.t.ws ++ _)) = n.words ++ (("^" : Str) :: ("{" : Str) :: (a.words ++ _))
    rw [FRow.t_ws a]
  | .mk n (.yes b) (.yes a) => by
    rw [FItem.t, CItem.ws, FItem.words, FNuc.t_ws n]
    show n.words ++ (("_" : Str) :: ((("{" : Str) :: (b.t.ws ++ [("}" : Str)])) ++ ("^" : Str) :: ("{" : Str) :: (a.t.ws ++ [("}" : Str)]))) = n.words ++ ((("_" : Str) :: ("{" : Str) :: (b.words ++ [("}" : Str)])) ++ (("^" : Str) :: ("{" : Str) :: (a.words ++ [("}" : Str)])))
    rw [FRow.t_ws b, FRow.t_ws a]
    rfl
theorem FNuc.t_ws : ∀ n : FNuc, n.t.ws = n.words
  | .sym x => rfl
  | .group r => by show ("{" : Str) :: (r.t.ws ++ _) = ("{" : Str) :: (r.words ++ _); rw [FRow.t_ws r]
  | .frac o u => by
    show ("@frac" : Str) :: ((("{" : Str) :: (o.t.ws ++ [("}" : Str)])) ++ (("{" : Str) :: (u.t.ws ++ [("}" : Str)]))) = ("@frac" : Str) :: ("{" : Str) :: (o.words ++ (("}" : Str) :: ("{" : Str) :: (u.words ++ [("}" : Str)])))
    rw [FRow.t_ws o, FRow.t_ws u]
    simp
  | .root r => by show ("@root" : Str) :: ("{" : Str) :: (r.t.ws ++ _) = ("@root" : Str) :: ("{" : Str) :: (r.words ++ _); rw [FRow.t_ws r]
  | .fence o c r => by show ("@left" : Str) :: delimW o :: (r.t.ws ++ _) = ("@left" : Str) :: delimW o :: (r.words ++ _); rw [FRow.t_ws r]
  | .grid g => by show ("@grid" : Str) :: (g.t.ws "{" ++ _) = ("@grid" : Str) :: (g.words "{" ++ _); rw [FGrid.t_ws g]
theorem FGrid.t_ws : ∀ (g : FGrid) {s : Str}, g.t.ws s = g.words s
  | .nil, s => rfl
  | .cons c g, s => by rw [FGrid.t, CGrid.ws, FGrid.words, FCells.t_ws c, FGrid.t_ws g]
theorem FCells.t_ws : ∀ (g : FCells) {s : Str}, g.t.ws s = g.words s
  | .nil, s => rfl
  | .cons c g, s => by rw [FCells.t, CCells.ws, FCells.words, FRow.t_ws c, FCells.t_ws g]
end
mutual
theorem FRow.t_h : ∀ r : FRow, r.t.h = r.dep
  | .nil => rfl
  | .cons i r => by rw [FRow.t, CRow.h, FRow.dep, FItem.t_h i, FRow.t_h r]
theorem FItem.t_h : ∀ i : FItem, i.t.h = i.dep
  | .mk n .no .no => by rw [FItem.t, CItem.h, FItem.dep, FNuc.t_h n]; rfl
  | .mk n (.yes b) .no => by
    rw [FItem.t, CItem.h, FItem.dep, FNuc.t_h n]
    show max n.dep (b.t.h + 1) = max n.dep (max (b.dep + 1) 0)
    rw [FRow.t_h b]
    omega
  | .mk n .no (.yes a) => by
    rw [FItem.t, CItem.h, FItem.dep, FNuc.t_h n]
    show max n.dep (a.t.h + 1) = max n.dep (max 0 (a.dep + 1))
    rw [FRow.t_h a]
    omega
  | .mk n (.yes b) (.yes a) => by
    rw [FItem.t, CItem.h, FItem.dep, FNuc.t_h n]
    show max n.dep (max (b.t.h + 1) (a.t.h + 1)) = max n.dep (max (b.dep + 1) (a.dep + 1))
    rw [FRow.t_h b, FRow.t_h a]
theorem FNuc.t_h : ∀ n : FNuc, n.t.h = n.dep
  | .sym x => rfl
  | .group r => by show r.t.h + 1 = r.dep + 1; rw [FRow.t_h r]
  | .frac o u => by show max (o.t.h + 1) (u.t.h + 1) = max (o.dep + 1) (u.dep + 1); rw [FRow.t_h o, FRow.t_h u]
  | .root r => by show r.t.h + 1 = r.dep + 1; rw [FRow.t_h r]
  | .fence o c r => by show r.t.h + 1 = r.dep + 1; rw [FRow.t_h r]
  | .grid g => by show g.t.h = g.dep; rw [FGrid.t_h g]
theorem FGrid.t_h : ∀ (g : FGrid), g.t.h = g.dep
  | .nil => rfl
  | .cons c g => by rw [FGrid.t, CGrid.h, FGrid.dep, FCells.t_h c, FGrid.t_h g]
theorem FCells.t_h : ∀ (g : FCells), g.t.h = g.dep
  | .nil => rfl
  | .cons c g => by rw [FCells.t, CCells.h, FCells.dep, FRow.t_h c, FCells.t_h g]
end
mutual
theorem FRow.t_f (hD : ∀ o, D o → optW (delimW o) = o) : ∀ r : FRow, r.good P D → r.t.f = r
  | .nil, _ => rfl
  | .cons i r, g => by rw [FRow.t, CRow.f, FItem.t_f hD i g.1, FRow.t_f hD r g.2]
theorem FItem.t_f (hD : ∀ o, D o → optW (delimW o) = o) : ∀ i : FItem, i.good P D → i.t.f = i
  | .mk n .no .no, g => by rw [FItem.t, CItem.f, FNuc.t_f hD n g.1]; rfl
  | .mk n (.yes b) .no, g => by
    rw [FItem.t, CItem.f, FNuc.t_f hD n g.1]
    show FItem.mk n (.yes b.t.f) .no = _
    rw [FRow.t_f hD b g.2.1]
  | .mk n .no (.yes a), g => by
    rw [FItem.t, CItem.f, FNuc.t_f hD n g.1]
    show FItem.mk n .no (.yes a.t.f) = _
    rw [FRow.t_f hD a g.2.2]
  | .mk n (.yes b) (.yes a), g => by
    rw [FItem.t, CItem.f, FNuc.t_f hD n g.1]
    show FItem.mk n (.yes b.t.f) (.yes a.t.f) = _
    rw [FRow.t_f hD b g.2.1, FRow.t_f hD a g.2.2]
theorem FNuc.t_f (hD : ∀ o, D o → optW (delimW o) = o) : ∀ n : FNuc, n.good P D → n.t.f = n
  | .sym x, _ => rfl
  | .group r, g => by show FNuc.group r.t.f = _; rw [FRow.t_f hD r g]
  | .frac o u, g => by show FNuc.frac o.t.f u.t.f = _; rw [FRow.t_f hD o g.1, FRow.t_f hD u g.2]
  | .root r, g => by show FNuc.root r.t.f = _; rw [FRow.t_f hD r g]
  | .fence o c r, g => by show FNuc.fence (optW (delimW o)) (optW (delimW c)) r.t.f = _; rw [FRow.t_f hD r g.2.2, hD o g.1, hD c g.2.1]
  | .grid g, h => by show FNuc.grid g.t.f = _; rw [FGrid.t_f hD g h.1]
theorem FGrid.t_f (hD : ∀ o, D o → optW (delimW o) = o) : ∀ (g : FGrid), g.good P D → g.t.f = g
  | .nil, _ => rfl
  | .cons c g, h => by rw [FGrid.t, CGrid.f, FCells.t_f hD c h.1, FGrid.t_f hD g h.2]
theorem FCells.t_f (hD : ∀ o, D o → optW (delimW o) = o) : ∀ (g : FCells), g.good P D → g.t.f = g
  | .nil, _ => rfl
  | .cons c g, h => by rw [FCells.t, CCells.f, FRow.t_f hD c h.1, FCells.t_f hD g h.2]
end
mutual
theorem FRow.t_ok (hP : ∀ x, P x → Sy x) (hD : ∀ o, D o → Sy (delimW o)) : ∀ r : FRow, r.good P D → r.t.ok
  | .nil, _ => trivial
  | .cons i r, g => ⟨FItem.t_ok hP hD i g.1, FRow.t_ok hP hD r g.2⟩
theorem FItem.t_ok (hP : ∀ x, P x → Sy x) (hD : ∀ o, D o → Sy (delimW o)) : ∀ i : FItem, i.good P D → i.t.ok
  | .mk n .no .no, g => ⟨FNuc.t_ok hP hD n g.1, trivial⟩
  | .mk n (.yes b) .no, g => ⟨FNuc.t_ok hP hD n g.1, FRow.t_ok hP hD b g.2.1⟩
  | .mk n .no (.yes a), g => ⟨FNuc.t_ok hP hD n g.1, FRow.t_ok hP hD a g.2.2⟩
  | .mk n (.yes b) (.yes a), g => ⟨FNuc.t_ok hP hD n g.1, FRow.t_ok hP hD b g.2.1, FRow.t_ok hP hD a g.2.2⟩
theorem FNuc.t_ok (hP : ∀ x, P x → Sy x) (hD : ∀ o, D o → Sy (delimW o)) : ∀ n : FNuc, n.good P D → n.t.ok
  | .sym x, g => hP x g
  | .group r, g => FRow.t_ok hP hD r g
  | .frac o u, g => ⟨FRow.t_ok hP hD o g.1, FRow.t_ok hP hD u g.2⟩
  | .root r, g => FRow.t_ok hP hD r g
  | .fence o c r, g => ⟨hD o g.1, hD c g.2.1, FRow.t_ok hP hD r g.2.2⟩
  | .grid g, ⟨h, ⟨h1, h2⟩, m, m1, m2, h3⟩ => by
    refine ⟨FGrid.t_ok hP hD g h, ⟨by rw [FGrid.t_lines, List.length_map]; exact h1, by rw [FGrid.t_lines, List.length_map]; exact h2⟩, m, m1, m2, fun c hc => ?_⟩
    rw [FGrid.t_lines] at hc
    obtain ⟨c0, hc0, rfl⟩ := List.mem_map.mp hc
    rw [FCells.t_rows, List.length_map]
    exact h3 c0 hc0
theorem FGrid.t_ok (hP : ∀ x, P x → Sy x) (hD : ∀ o, D o → Sy (delimW o)) : ∀ (g : FGrid), g.good P D → g.t.ok
  | .nil, _ => trivial
  | .cons c g, h => ⟨FCells.t_ok hP hD c h.1, FGrid.t_ok hP hD g h.2⟩
theorem FCells.t_ok (hP : ∀ x, P x → Sy x) (hD : ∀ o, D o → Sy (delimW o)) : ∀ (g : FCells), g.good P D → g.t.ok
  | .nil, _ => trivial
  | .cons c g, h => ⟨FRow.t_ok hP hD c h.1, FCells.t_ok hP hD g h.2⟩
end
end
end Mg

set_option Elab.async false
set_option linter.all false
set_option maxRecDepth 100000
set_option maxHeartbeats 1000000
namespace Mg
open PySem L2
/-! an object that reads a list of words, at a place -/
def rf (tl : Addr) (i : Nat) : List (Str × V) := [("_tokens", .ref tl), ("_at", .int (i : Int))]
theorem nTA : ¬ (("_tokens" : Str) = "_at") := by decide +kernel
theorem rf_tok (tl : Addr) (i : Nat) : (rf tl i).lookup ("_tokens" : Str) = some (.ref tl) := by
  unfold rf
  rw [List.lookup_cons_self]
theorem rf_at (tl : Addr) (i : Nat) : (rf tl i).lookup ("_at" : Str) = some (.int (i : Int)) := by
  have e : (("_at" : Str) == "_tokens") = false := by decide +kernel
  unfold rf
  rw [List.lookup_cons, e]
  show List.lookup ("_at" : Str) [("_at", V.int (i : Int))] = _
  rw [List.lookup_cons_self]
theorem rf_no {tl : Addr} {i : Nat} {m : Str} (h1 : (m == "_tokens") = false) (h2 : (m == "_at") = false) : (rf tl i).lookup m = none := by
  unfold rf
  rw [List.lookup_cons, h1]
  show List.lookup m [("_at", V.int (i : Int))] = _
  rw [List.lookup_cons, h2]
  rfl
theorem rf_put (tl : Addr) (i j : Nat) : putF "_at" (.int (j : Int)) (rf tl i) = rf tl j := by
  unfold rf
  rw [putF, if_neg nTA, putF, if_pos rfl]
theorem rf_new (tl : Addr) (j : Nat) : putF "_at" (.int (j : Int)) (putF "_tokens" (.ref tl) []) = rf tl j := by
  show putF "_at" (.int (j : Int)) [(("_tokens" : Str), V.ref tl)] = rf tl j
  rw [putF, if_neg nTA]
  rfl
abbrev up1 (H : Hp) (p C dx tl : Addr) (j : Nat) : Hp := upd H p (.ins C dx (rf tl j))
structure TxtR (K : PySem.W.Frag) (C : Addr) : Prop where
  cl : Cls K C
  nT : NoAttr K C "_tokens"
  nA : NoAttr K C "_at"
structure RdAt (K : PySem.W.Frag) (C p tl : Addr) (ws : List Str) (i : Nat) (H : Hp) : Prop where
  ob : ∃ dx, H p = some (.ins C dx (rf tl i))
  tk : ∃ xs, H tl = some (.lst xs) ∧ xs.length = ws.length ∧ ∀ (j : Nat) (v : V) (x : Str), xs[j]? = some v → ws[j]? = some x → ∃ (a : Addr) (n : Int), v = .ref a ∧ SqT K H a [.int n, .str x]
  sz : ws.length ≤ 1000000
section
variable {K : PySem.W.Frag} {C p tl q : Addr} {ws us : List Str} {i j k : Nat} {H H' H0 H1 : Hp} {σ : L2.St} {te ta tb : TE} {tas : TA} {d : PyData} {ds es : List PyData} {tz tu : TS} {D : Ends} {x : Str} {E : XK} {m : Str}
theorem RdAt.ne (a : RdAt K C p tl ws i H) : tl ≠ p := fun e => by
  obtain ⟨dx, h⟩ := a.ob
  obtain ⟨xs, h2, _⟩ := a.tk
  rw [e, h] at h2
  cases h2
theorem RdAt.tup (a : RdAt K C p tl ws i H) (s : KeepB p H H') : TupK H H' := fun b ys h => by
  obtain ⟨dx, hp⟩ := a.ob
  have n : ∀ o, H b = some o → (∀ D x f, o ≠ .ins D x f) → b ≠ p := fun o e z q => by
    rw [q, hp] at e
    exact z _ _ _ (Option.some.inj e).symm
  rcases h with h | ⟨o, h⟩
  · exact .inl (s _ _ h (n _ h fun _ _ _ z => nomatch z))
  · exact .inr ⟨o, s _ _ h (n _ h fun _ _ _ z => nomatch z)⟩
theorem RdAt.move (a : RdAt K C p tl ws i H) (t : TupK H H') (ht : H' tl = H tl) (hp : ∃ dx, H' p = some (.ins C dx (rf tl j))) : RdAt K C p tl ws j H' := by
  obtain ⟨xs, h1, h2, h3⟩ := a.tk
  refine ⟨hp, ⟨xs, ht.trans h1, h2, fun n v x e1 e2 => ?_⟩, a.sz⟩
  obtain ⟨b, z, e, sq⟩ := h3 n v x e1 e2
  exact ⟨b, z, e, t.seq sq⟩
theorem RdAt.same (a : RdAt K C p tl ws i H) (s : Same H H') : RdAt K C p tl ws i H' := by
  obtain ⟨dx, hp⟩ := a.ob
  obtain ⟨xs, h1, _⟩ := a.tk
  exact a.move (.of s) ((s _ _ h1).trans h1.symm) ⟨dx, s _ _ hp⟩
/-- a list that the object does not know, changed -/
theorem RdAt.upd (a : RdAt K C p tl ws i H) {xs ys : List V} (e : H q = some (.lst xs)) (n : q ≠ tl) : RdAt K C p tl ws i (upd H q (.lst ys)) := by
  obtain ⟨dx, hp⟩ := a.ob
  have np : p ≠ q := fun z => by
    rw [← z, hp] at e
    cases e
  exact a.move (.keep keep_upd e) (upd_ne (Ne.symm n)) ⟨dx, (upd_ne np).trans hp⟩
theorem RdAt.tok (a : RdAt K C p tl ws i H) (hx : ws[i]? = some x) : ∃ xs b n, H tl = some (.lst xs) ∧ atI xs (i : Int) = some (.ref b) ∧ SqT K H b [.int n, .str x] := by
  obtain ⟨xs, h1, h2, h3⟩ := a.tk
  have hi : i < xs.length := by
    rw [h2]
    exact (List.getElem?_eq_some_iff.mp hx).1
  obtain ⟨b, n, e, sq⟩ := h3 i xs[i] x (List.getElem?_eq_getElem hi) hx
  exact ⟨xs, b, n, h1, by rw [← e]; exact atI_nat (List.getElem?_eq_getElem hi), sq⟩
theorem RdAt.next (a : RdAt K C p tl ws i H) {dx : Addr} (hp : H p = some (.ins C dx (rf tl i))) : RdAt K C p tl ws (i + 1) (Mg.up1 H p C dx tl (i + 1)) := a.move (a.tup keep_upd) (upd_ne a.ne) ⟨dx, upd_same⟩
/-- what a method of the object promises -/
def spRd (K : PySem.W.Frag) (C : Addr) (R : List PyData → List Str → Nat → Nat → PyData → Prop) : Sp := fun vs H Q _ => ∃ (p tl : Addr) (ws : List Str) (i j : Nat) (us : List V) (ds : List PyData) (d : PyData), vs = .ref p :: us ∧ TpL K H us ds ∧ RdAt K C p tl ws i H ∧ R ds ws i j d ∧
  ∀ v H', KeepB p H H' → RdAt K C p tl ws j H' → Tp K H' v d → Q v H'
/-- what an expression makes of it -/
def EvR (K : PySem.W.Frag) (C p tl : Addr) (ws : List Str) (te : TE) (σ : L2.St) (H : Hp) (i j : Nat) (d : PyData) : Prop := ∀ H1, KeepB p H H1 → RdAt K C p tl ws i H1 → ∀ Q : VK, (∀ v H2, KeepB p H1 H2 → RdAt K C p tl ws j H2 → Tp K H2 v d → Q v H2) → te σ H1 Q
def EvRA (K : PySem.W.Frag) (C p tl : Addr) (ws : List Str) (ta : TA) (σ : L2.St) (H : Hp) (i j : Nat) (ds : List PyData) : Prop := ∀ H1, KeepB p H H1 → RdAt K C p tl ws i H1 → ∀ Q : List V → Hp → Prop, (∀ vs H2, KeepB p H1 H2 → RdAt K C p tl ws j H2 → TpL K H2 vs ds → Q vs H2) → ta σ H1 Q
theorem r_pure (h : ∀ H1, KeepB p H H1 → EvD K te σ H1 d) : EvR K C p tl ws te σ H i i d := fun H1 kb a Q q => h H1 kb H1 (Same.refl _) Q fun v H2 s t => q v H2 (.of s) (a.same s) t
theorem ra_pure (h : ∀ H1, KeepB p H H1 → EvDA K tas σ H1 ds) : EvRA K C p tl ws tas σ H i i ds := fun H1 kb a Q q => h H1 kb H1 (Same.refl _) Q fun v H2 s t => q v H2 (.of s) (a.same s) t
theorem r_var {n : Nat} {v : V} (a : RdAt K C p tl ws k H) (h : σ[n]? = some (some v)) (t : Tp K H v d) : EvR K C p tl ws (tVar n) σ H i i d := r_pure fun H1 kb => e_var h (t.stay (a.tup kb))
theorem ra_nil : EvRA K C p tl ws tNil σ H i i [] := ra_pure fun _ _ => a_nil
theorem ra_cons (h : EvR K C p tl ws te σ H i j d) (hs : EvRA K C p tl ws tas σ H j k ds) : EvRA K C p tl ws (tCons te tas) σ H i k (d :: ds) := fun H1 kb a Q q =>
  h H1 kb a _ fun v H2 k2 a2 t => hs H2 (kb.trans k2) a2 _ fun vs H3 k3 a3 l => q _ H3 (k2.trans k3) a3 (.cons (t.stay (a2.tup k3)) l)
theorem r_tup (h : EvRA K C p tl ws tas σ H i j ds) (hl : ds.length ≤ 1000) : EvR K C p tl ws (tTup tas) σ H i j (.tuple ds) := fun H1 kb a Q q => h H1 kb a _ fun vs H2 k2 a2 l =>
  ⟨by rw [l.len]; exact sz5 (by omega), fun c hc => q _ _ (k2.trans (.of (same_new hc))) (a2.same (same_new hc)) (.mk (SqT.of upd_same) (l.stay (.of (same_new hc))))⟩
theorem r_call {R : List PyData → List Str → Nat → Nat → PyData → Prop} (h0 : σ[0]? = some (some (.ref p))) (h1 : (m == "_tokens") = false) (h2 : (m == "_at") = false) (ha : EvRA K C p tl ws tas σ H i k ds) (r : R ds ws k j d) : EvR K C p tl ws (tMeth C m (spRd K C R) [] E (tVar 0) tas) σ H i j d := fun H1 kb a Q q => by
  obtain ⟨dx, hp⟩ := a.ob
  refine ⟨_, h0, p, dx, _, rfl, hp, rf_no h1 h2, ha H1 kb a _ fun vs H2 k2 a2 l => ?_⟩
  exact ⟨p, tl, ws, k, j, vs, ds, d, by rw [List.append_nil], l, a2, r, fun v H3 k3 a3 t => q v H3 (k2.trans k3) a3 t⟩
theorem r_if {t : TT} {b : Bool} (h : ∀ H1, KeepB p H H1 → RdAt K C p tl ws i H1 → ∀ Q : Bool → Hp → Prop, (∀ H2, KeepB p H1 H2 → RdAt K C p tl ws k H2 → Q b H2) → t σ H1 Q) (h1 : b = true → EvR K C p tl ws ta σ H k j d) (h2 : b = false → EvR K C p tl ws tb σ H k j d) : EvR K C p tl ws (tIf t ta tb) σ H i j d := fun H1 kb a Q q => h H1 kb a _ fun H2 k2 a2 => by
  cases b with
  | true => exact iteT (h1 rfl H2 (kb.trans k2) a2 Q fun v H3 k3 a3 t3 => q v H3 (k2.trans k3) a3 t3)
  | false => exact iteF (h2 rfl H2 (kb.trans k2) a2 Q fun v H3 k3 a3 t3 => q v H3 (k2.trans k3) a3 t3)
/-- statements -/
theorem g_set {n : Nat} (h : EvR K C p tl ws te σ H i j d) (a : RdAt K C p tl ws i H) (q : ∀ v H', KeepB p H H' → RdAt K C p tl ws j H' → Tp K H' v d → tz D (σ.set n (some v)) H') : tSeq (tAsg te (gName n)) tz D σ H := h H (.refl _ _) a _ q
theorem g_drop (h : EvR K C p tl ws te σ H i j d) (a : RdAt K C p tl ws i H) (q : ∀ H', KeepB p H H' → RdAt K C p tl ws j H' → tz D σ H') : tSeq (tDrop te) tz D σ H := h H (.refl _ _) a _ fun v H' kb a' _ => q H' kb a'
theorem g_dropE (h : EvR K C p tl ws te σ H i j d) (a : RdAt K C p tl ws i H) (q : ∀ H', KeepB p H H' → RdAt K C p tl ws j H' → D.nx σ H') : tDrop te D σ H := h H (.refl _ _) a _ fun v H' kb a' _ => q H' kb a'
theorem g_ret (h : EvR K C p tl ws te σ H i j d) (a : RdAt K C p tl ws i H) (q : ∀ v H', KeepB p H H' → RdAt K C p tl ws j H' → Tp K H' v d → D.rt v H') : tRet te D σ H := h H (.refl _ _) a _ q
/-- tests of the word at the place -/
def EvRT (K : PySem.W.Frag) (C p tl : Addr) (ws : List Str) (tt : TT) (σ : L2.St) (H : Hp) (i : Nat) (b : Bool) : Prop := ∀ H1, KeepB p H H1 → RdAt K C p tl ws i H1 → ∀ Q : Bool → Hp → Prop, (∀ H2, KeepB p H1 H2 → RdAt K C p tl ws i H2 → Q b H2) → tt σ H1 Q
theorem rt_eq {r : R2} {b : Bool} {x y : Str} (h : EvR K C p tl ws te σ H i i (.str x)) (hr : RD K r (.str x) (.str y) (.bool b)) : EvRT K C p tl ws (tTest (tOp r te (tC (.str y)))) σ H i b := fun H1 kb a Q q => h H1 kb a _ fun v H2 k2 a2 t =>
  hr v _ H2 _ t (.str y) fun u H3 s3 t3 => ⟨b, tp_bool t3, q H3 (k2.trans (.of s3)) (a2.same s3)⟩
theorem g_when {t : TT} {b : Bool} (h : EvRT K C p tl ws t σ H i b) (a : RdAt K C p tl ws i H) (h1 : b = true → ∀ H', KeepB p H H' → RdAt K C p tl ws i H' → tu { D with nx := tz D } σ H') (h2 : b = false → ∀ H', KeepB p H H' → RdAt K C p tl ws i H' → tz D σ H') : tSeq (tIfS t tu tNext) tz D σ H := h H (.refl _ _) a _ fun H' kb a' => by
  cases b with
  | true => exact iteT (h1 rfl H' kb a')
  | false => exact iteF (h2 rfl H' kb a')
end
end Mg

set_option Elab.async false
set_option linter.all false
set_option maxRecDepth 100000
set_option maxHeartbeats 1000000
namespace Mg
open PySem L2 StX
abbrev sRInit : Stmt := inClass (top 22) 0
abbrev sRRead : Stmt := inClass (top 22) 1
abbrev sPeek : Stmt := inClass (top 22) 2
abbrev sAccept : Stmt := inClass (top 22) 3
abbrev sRSymbol : Stmt := inClass (top 22) 4
abbrev sRRow : Stmt := inClass (top 22) 5
abbrev sRItem : Stmt := inClass (top 22) 6
abbrev sRNucleus : Stmt := inClass (top 22) 7
abbrev sRBraced : Stmt := inClass (top 22) 8
abbrev sArgument : Stmt := inClass (top 22) 9
abbrev sRFence : Stmt := inClass (top 22) 10
abbrev sDelimiter : Stmt := inClass (top 22) 11
abbrev sRGrid : Stmt := inClass (top 22) 12
abbrev sRCells : Stmt := inClass (top 22) 13
abbrev sCheckDepth0 : Stmt := top 23
abbrev sCellStops : Stmt := top 24
structure TxtRd (K : PySem.W.Frag) (mg : Str → Option Value) (C : Addr) : Prop extends TxtR K C where
  b_len : mg "len" = none
  b_tuple : mg "tuple" = none
  c_END : ∃ t, mg "END" = some (.str "end" t)
  c_DEEPEST : ∃ t, mg "DEEPEST" = some (.int 7 t)
  c_MOST_CELLS : ∃ t, mg "MOST_CELLS" = some (.int 6 t)
section
variable {P : Program} {w : World} {K : PySem.W.Frag} {mg : Str → Option Value} {base : Heap} {C : Addr}
abbrev RR := List PyData → List Str → Nat → Nat → PyData → Prop
def RPeek : RR := fun ds ws i j d => ds = [] ∧ j = i ∧ ∃ x, ws[i]? = some x ∧ d = .str x
def RAcc : RR := fun ds ws i j d => ∃ x, ds = [.str x] ∧ j = i + 1 ∧ ws[i]? = some x ∧ d = .none
def RSym : RR := fun ds ws i j d => ds = [] ∧ j = i + 1 ∧ ∃ x, ws[i]? = some x ∧ Sy x ∧ d = .str x
def RDelim : RR := fun ds ws i j d => ds = [] ∧ j = i + 1 ∧ ∃ x, ws[i]? = some x ∧ Sy x ∧ d = optD (optW x)
theorem scPeek : FnScope ["self"] ["self"] (defScope sPeek) := ⟨rfl, rfl, rfl, by decide +kernel, rfl, by decide +kernel, by decide +kernel⟩
theorem ok_peek {f : Addr} {fd : FuncData} (F : Fun K "_peek" "Reader._peek" sPeek f fd) (T : TxtRd K mg C) : FnOk P w K mg base CX0 1 f fd ["self"] (spRd K C RPeek) := by
  have sc := scPeek
  refine F.ok scPeek (fun vs H Q E h => ?_) (fun cdv A outer s H vs Q E hr h => ?_)
  · obtain ⟨p, tl, ws, i, j, us, ds, d, rfl, l, a, ⟨rfl, _⟩, _⟩ := h
    cases l
    rfl
  · obtain ⟨p, tl, ws, i, j, us, ds, d, rfl, l, a, ⟨rfl, rfl, x, hx, rfl⟩, k⟩ := h
    cases l
    refine ⟨_, (pss_one (ps_ret (pe_ix ix_tup (pe_ix ix_list (pe_fld (pv 0) rfl) (pe_fld (pv 0) rfl) (fun _ _ => rfl)) pe_int (fun _ _ => rfl)))), ?_⟩
    obtain ⟨xs, b, n, h1, h2, h3⟩ := a.tok hx
    obtain ⟨dx, hp⟩ := a.ob
    exact ⟨_, rfl, p, C, dx, _, _, rfl, hp, T.cl, T.nT, rf_tok _ _, _, rfl, p, C, dx, _, _, rfl, hp, T.cl, T.nA, rf_at _ _, tl, xs, _, _, rfl, rfl, SqL.of h1, h2, b, _, 1, .str x, rfl, rfl, h3, rfl, k _ _ (.refl _ _) a (.str x)⟩
theorem scAccept : FnScope ["self", "wanted", "place", "word"] ["self", "wanted"] (defScope sAccept) := ⟨rfl, rfl, rfl, by decide +kernel, rfl, by decide +kernel, by decide +kernel⟩
theorem ok_accept {f : Addr} {fd : FuncData} (F : Fun K "_accept" "Reader._accept" sAccept f fd) (T : TxtRd K mg C) : FnOk P w K mg base CX0 1 f fd ["self", "wanted"] (spRd K C RAcc) := by
  have sc := scAccept
  refine F.ok scAccept (fun vs H Q E h => ?_) (fun cdv A outer s H vs Q E hr h => ?_)
  · obtain ⟨p, tl, ws, i, j, us, ds, d, rfl, l, a, ⟨x, rfl, _⟩, _⟩ := h
    cases l with
    | cons _ l => cases l; rfl
  · obtain ⟨p, tl, ws, i, j, us, ds, d, rfl, l, a, ⟨x, rfl, rfl, hx, rfl⟩, k⟩ := h
    cases l with
    | cons t l => cases l with
    | nil =>
    cases tp_str t
    refine ⟨_, (pss_cons (ps_asg (pe_ix ix_list (pe_fld (pv 0) rfl) (pe_fld (pv 0) rfl) (fun _ _ => rfl)) (pg_tup rfl (pgs_cons (pg_name (i := 2) sc.nd rfl (Or.inl rfl)) (pgs_cons (pg_name (i := 3) sc.nd rfl (Or.inl rfl)) pgs_nil))))
  (pss_cons (ps_if (pt_cmpR op_ne (pv 3) (pv 1) (nomark _))
  (pss_one ps_never)
  pss_nil)
  (pss_one (ps_fldaug (pv 0) pe_int in_add)))), ?_⟩
    obtain ⟨xs, b, n, h1, h2, h3⟩ := a.tok hx
    obtain ⟨dx, hp⟩ := a.ob
    refine ⟨_, rfl, p, C, dx, _, _, rfl, hp, T.cl, T.nT, rf_tok _ _, _, rfl, p, C, dx, _, _, rfl, hp, T.cl, T.nA, rf_at _ _, tl, xs, _, _, rfl, rfl, SqL.of h1, h2, b, _, rfl, h3, rfl, V.int _, _, rfl, V.str _, _, rfl, rfl, ?_⟩
    refine q_no (K := K) (b := !decide (x = x)) (t_test (e_op (e_var rfl (.str x)) (e_var rfl (.str x)) r_neS)) (by simp) fun H1 s1 => ?_
    have a1 := a.same s1
    have hp1 := s1 _ _ hp
    refine ⟨_, rfl, p, C, dx, _, _, rfl, hp1, T.cl, T.nA, rf_at _ _, _, _, rfl, rfl, dx, _, hp1, (by show 2 < 1000; decide), ?_⟩
    have e : putF "_at" (.int ((i : Int) + 1)) (rf tl i) = rf tl (i + 1) := rf_put tl i (i + 1)
    rw [e]
    exact k _ _ ((KeepB.of s1).trans keep_upd) (a1.next hp1) .non
theorem scRSymbol : FnScope ["self", "place", "word"] ["self"] (defScope sRSymbol) := ⟨rfl, rfl, rfl, by decide +kernel, rfl, by decide +kernel, by decide +kernel⟩
theorem ok_rsymbol {f : Addr} {fd : FuncData} (F : Fun K "_symbol" "Reader._symbol" sRSymbol f fd) (T : TxtRd K mg C) (C_is_symbol : Cal P w K mg base CX0 2 "is_symbol" ["word"] spIsSymbol) : FnOk P w K mg base CX0 3 f fd ["self"] (spRd K C RSym) := by
  have sc := scRSymbol
  refine F.ok scRSymbol (fun vs H Q E h => ?_) (fun cdv A outer s H vs Q E hr h => ?_)
  · obtain ⟨p, tl, ws, i, j, us, ds, d, rfl, l, a, ⟨rfl, _⟩, _⟩ := h
    cases l
    rfl
  · obtain ⟨p, tl, ws, i, j, us, ds, d, rfl, l, a, ⟨rfl, rfl, x, hx, ⟨xl, xs'⟩, rfl⟩, k⟩ := h
    cases l
    refine ⟨_, (pss_cons (ps_asg (pe_ix ix_list (pe_fld (pv 0) rfl) (pe_fld (pv 0) rfl) (fun _ _ => rfl)) (pg_tup rfl (pgs_cons (pg_name (i := 1) sc.nd rfl (Or.inl rfl)) (pgs_cons (pg_name (i := 2) sc.nd rfl (Or.inl rfl)) pgs_nil))))
  (pss_cons (ps_if (pt_not (pt_val (pe_cal C_is_symbol (hr.mono (by omega)) rfl pass0 (pa_cons (pv 2) pa_nil))))
  (pss_one ps_never)
  pss_nil)
  (pss_cons (ps_fldaug (pv 0) pe_int in_add)
  (pss_one (ps_ret (pv 2)))))), ?_⟩
    obtain ⟨xs, b, n, h1, h2, h3⟩ := a.tok hx
    obtain ⟨dx, hp⟩ := a.ob
    refine ⟨_, rfl, p, C, dx, _, _, rfl, hp, T.cl, T.nT, rf_tok _ _, _, rfl, p, C, dx, _, _, rfl, hp, T.cl, T.nA, rf_at _ _, tl, xs, _, _, rfl, rfl, SqL.of h1, h2, b, _, rfl, h3, rfl, V.int _, _, rfl, V.str _, _, rfl, rfl, ?_⟩
    dsimp only
    refine q_no (K := K) (b := !true) (t_not (t_B (e_callV (us := [.str x]) (fun H1 s1 Q q => ⟨_, rfl, q H1 (.refl _)⟩) fun H1 s1 Q q => ⟨x, rfl, xl, fun H2 s2 => q _ H2 s2 (by rw [xs']; exact .bl true)⟩))) rfl fun H1 s1 => ?_
    have a1 := a.same s1
    have hp1 := s1 _ _ hp
    refine ⟨_, rfl, p, C, dx, _, _, rfl, hp1, T.cl, T.nA, rf_at _ _, _, _, rfl, rfl, dx, _, hp1, (by show 2 < 1000; decide), ?_⟩
    have e : putF "_at" (.int ((i : Int) + 1)) (rf tl i) = rf tl (i + 1) := rf_put tl i (i + 1)
    rw [e]
    exact ⟨_, rfl, k _ _ ((KeepB.of s1).trans keep_upd) (a1.next hp1) (.str x)⟩
theorem scDelimiter : FnScope ["self", "name"] ["self"] (defScope sDelimiter) := ⟨rfl, rfl, rfl, by decide +kernel, rfl, by decide +kernel, by decide +kernel⟩
theorem ok_delimiter {f : Addr} {fd : FuncData} (F : Fun K "_delimiter" "Reader._delimiter" sDelimiter f fd) (T : TxtRd K mg C) (C_symbol : CalM P w K mg base CX0 3 C "_symbol" ["self"] (spRd K C RSym)) : FnOk P w K mg base CX0 4 f fd ["self"] (spRd K C RDelim) := by
  have sc := scDelimiter
  refine F.ok scDelimiter (fun vs H Q E h => ?_) (fun cdv A outer s H vs Q E hr h => ?_)
  · obtain ⟨p, tl, ws, i, j, us, ds, d, rfl, l, a, ⟨rfl, _⟩, _⟩ := h
    cases l
    rfl
  · obtain ⟨p, tl, ws, i, j, us, ds, d, rfl, l, a, ⟨rfl, rfl, x, hx, sx, rfl⟩, k⟩ := h
    cases l
    refine ⟨_, (pss_cons (ps_set (i := 1) sc.nd rfl (Or.inl rfl) (pe_calm0 (pv 0) T.cl C_symbol (hr.mono (by omega)) pass0))
  (pss_one (ps_ret (pe_ifExp (pt_cmpR op_eq (pv 1) pe_str (nomark _)) pe_non (pv 1))))), ?_⟩
    refine g_set (r_call rfl (by decide +kernel) (by decide +kernel) ra_nil (⟨rfl, rfl, x, hx, sx, rfl⟩ : RSym [] ws i (i + 1) (.str x))) a fun v H1 k1 a1 t1 => ?_
    cases tp_str t1
    refine g_ret (j := i + 1) (d := optD (optW x)) (r_if (b := decide (x = ".")) (rt_eq (r_var a1 rfl (.str x)) r_eqS) (fun z => ?_) fun z => ?_) a1 fun v H2 k2 a2 t2 => k v H2 (k1.trans k2) a2 t2
    · have z := of_decide_eq_true z
      subst z
      exact r_pure fun _ _ => e_non
    · have z := of_decide_eq_false z
      rw [show optW x = some x from if_neg z]
      exact r_var a1 rfl (.str x)
/-! check_depth, where nothing is raised -/
def spCheckDepth0 : Sp := fun vs H Q _ => ∃ n : Int, vs = [.int n] ∧ n ≤ 7 ∧ Q .non H
theorem scCheckDepth0 : FnScope ["depth"] ["depth"] (defScope sCheckDepth0) := ⟨rfl, rfl, rfl, by decide +kernel, rfl, by decide +kernel, by decide +kernel⟩
theorem ok_checkdepth0 {f : Addr} {fd : FuncData} (F : Fun K "check_depth" "check_depth" sCheckDepth0 f fd) (T : TxtRd K mg C) : FnOk P w K mg base CX0 1 f fd ["depth"] spCheckDepth0 := by
  have sc := scCheckDepth0
  refine F.ok scCheckDepth0 (fun vs H Q E h => ?_) (fun cdv A outer s H vs Q E hr h => ?_)
  · obtain ⟨n, rfl, _⟩ := h
    rfl
  · obtain ⟨n, rfl, hn, k⟩ := h
    refine ⟨_, (pss_one (ps_if (pt_cmpR op_gt (pv 0) (pe_gint rfl T.c_DEEPEST) (nomark _)) (pss_one ps_never) pss_nil)), ?_⟩
    exact ⟨_, rfl, _, _, rfl, rfl, _, rfl, iteN (by simp; omega) k⟩
/-! cell_stops -/
def RStops (ds : List PyData) (d : PyData) : Prop := ∃ (c : Int) (m : PyData) (ends : List Str), ds = [.int c, m, .tuple (ends.map .str)] ∧ ends.length ≤ 10 ∧ ((m = .none ∧ d = if c < 6 then .tuple ((("&" : Str) :: ends).map .str) else .tuple (ends.map .str)) ∨ ∃ n : Int, m = .int n ∧ d = if c < n then .tuple [.str "&"] else .tuple (ends.map .str))
theorem scCellStops : FnScope ["count", "many", "ends"] ["count", "many", "ends"] (defScope sCellStops) := ⟨rfl, rfl, rfl, by decide +kernel, rfl, by decide +kernel, by decide +kernel⟩
theorem a_is {σ : L2.St} {H : Hp} {tas : TA} {ds es : List PyData} (h : EvDA K tas σ H ds) (e : ds = es) : EvDA K tas σ H es := e ▸ h
theorem e_star {σ : L2.St} {H : Hp} {te : TE} {tas : TA} {ds es : List PyData} (h : EvD K te σ H (.tuple ds)) (hs : EvDA K tas σ H es) : EvDA K (tStar K te tas) σ H (ds ++ es) := fun H1 s Q q =>
  h H1 s _ fun v H2 s2 hd => by
    obtain ⟨p, xs, rfl, sq, l⟩ := hd.inv
    exact ⟨p, xs, rfl, .inl sq, hs H2 (s.trans s2) _ fun vs H3 s3 hds => q _ H3 (s2.trans s3) ((l.stay (.of s3)).app hds)⟩
theorem ok_cellstops {f : Addr} {fd : FuncData} (F : Fun K "cell_stops" "cell_stops" sCellStops f fd) (T : TxtRd K mg C) : FnOk P w K mg base CX0 1 f fd ["count", "many", "ends"] (spR K RStops) := by
  have sc := scCellStops
  refine F.ok scCellStops (fun vs H Q E h => ?_) (fun cdv A outer s H vs Q E hr h => ?_)
  · obtain ⟨ds, d, l, ⟨c, m, ends, rfl, _⟩, _⟩ := h
    cases l with
    | cons _ l => cases l with
    | cons _ l => cases l with
    | cons _ l => cases l; rfl
  · obtain ⟨ds, d, l, ⟨c, m, ends, rfl, hl, hc⟩, k⟩ := h
    cases l with
    | cons t1 l => cases l with
    | cons t2 l => cases l with
    | cons t3 l => cases l with
    | nil =>
    cases tp_int t1
    refine ⟨_, (pss_cons (ps_if (pt_cmpR op_isN (pv 1) pe_non (nomark _))
  (pss_one (ps_ret (pe_ifExp (pt_cmpR op_lt (pv 0) (pe_gint rfl T.c_MOST_CELLS) (nomark _)) (pe_tup (pa_cons pe_str (pa_star (pv 2) pa_nil))) (pv 2))))
  pss_nil)
  (pss_one (ps_ret (pe_ifExp (pt_cmpR op_lt (pv 0) (pv 1) (nomark _)) (pe_tup (pa_cons pe_str pa_nil)) (pv 2))))), ?_⟩
    rcases hc with ⟨rfl, e⟩ | ⟨n, rfl, e⟩
    · refine q_yes (b := noneD .none) (t_test (e_op (e_var rfl t2) e_non r_isN)) rfl fun H1 s1 => ?_
      refine retD k s1 (d := d) (e_if (b := decide (c < 6)) (t_test (e_op (e_var rfl (.int c)) e_int r_I0b)) (fun z => ?_) fun z => ?_) rfl
      · rw [e, if_pos (of_decide_eq_true z)]
        refine e_tup (a_cons e_str (a_is (e_star (e_var rfl (t3.stay (.of s1))) a_nil) (List.append_nil _))) ?_
        rw [List.length_map, List.length_cons]
        omega
      · rw [e, if_neg (of_decide_eq_false z)]
        exact e_var rfl (t3.stay (.of s1))
    · refine q_no (b := noneD (.int n)) (t_test (e_op (e_var rfl t2) e_non r_isN)) rfl fun H1 s1 => ?_
      refine retD k s1 (d := d) (e_if (b := decide (c < n)) (t_test (e_op (e_var rfl (.int c)) (e_var rfl (t2.stay (.of s1))) r_I0b)) (fun z => ?_) fun z => ?_) rfl
      · rw [e, if_pos (of_decide_eq_true z)]
        exact e_tup (a_cons e_str a_nil) (by decide)
      · rw [e, if_neg (of_decide_eq_false z)]
        exact e_var rfl (t3.stay (.of s1))
end
end Mg

set_option Elab.async false
set_option linter.all false
set_option maxRecDepth 100000
set_option maxHeartbeats 1000000
namespace Mg
open PySem L2 StX
section
variable {K : PySem.W.Frag} {C p tl q : Addr} {ws us : List Str} {i j k : Nat} {H H' H0 H1 : Hp} {σ : L2.St} {te ta tb : TE} {tas : TA} {d : PyData} {ds es : List PyData} {tz tu tw : TS} {D : Ends} {x : Str} {E : XK} {m : Str}
theorem keepB_new {o : HO} (s : KeepB p H H') (h : H q = none) : KeepB p H (upd H' q o) := fun b x e n => by
  rw [upd_ne (ne_of_none e h)]
  exact s b x e n
theorem rt_notIn {n : Nat} {v : V} {stops : List Str} (h : EvR K C p tl ws te σ H i i (.str x)) (a : RdAt K C p tl ws k H) (hv : σ[n]? = some (some v)) (tv : Tp K H v (.tuple (stops.map .str))) : EvRT K C p tl ws (tTest (tOp (rIn K true) te (tVar n))) σ H i (!(stops.any fun r => r == x)) := fun H1 kb b Q q => h H1 kb b _ fun v2 H2 k2 a2 t => by
  cases tp_str t
  obtain ⟨c, xs, rfl, sq, l⟩ := (tv.stay (a.tup (kb.trans k2))).inv
  obtain rfl := l.strs
  refine ⟨_, hv, c, _, rfl, .inr sq, rfl, flat_strs2 _, !(stops.any fun r => r == x), ?_, q H2 k2 a2⟩
  show V.bl (!inV (V.str x) _) = _
  rw [in_strs]
theorem rt_none {n : Nat} {v : V} {d : PyData} (a : RdAt K C p tl ws k H) (hv : σ[n]? = some (some v)) (tv : Tp K H v d) : EvRT K C p tl ws (tTest (tOp (fun x y H Q => y = .non ∧ Q (.bl (decide (x = .non))) H) (tVar n) (tC .non))) σ H i (noneD d) := fun H1 kb b Q q =>
  ⟨v, hv, rfl, _, (by rw [none_dec (tv.stay (a.tup kb))]), q H1 (.refl _ _) b⟩
theorem rt_and {t u : TT} {b c : Bool} (h : EvRT K C p tl ws t σ H i b) (h2 : b = true → EvRT K C p tl ws u σ H i c) : EvRT K C p tl ws (tAnd t u) σ H i (b && c) := fun H1 kb a Q q => h H1 kb a _ fun H2 k2 a2 => by
  cases b with
  | true => exact iteT (h2 rfl H2 (kb.trans k2) a2 Q fun H3 k3 a3 => q H3 (k2.trans k3) a3)
  | false => exact iteF (q H2 k2 a2)
theorem rt_is {t : TT} {b c : Bool} (h : EvRT K C p tl ws t σ H i b) (e : b = c) : EvRT K C p tl ws t σ H i c := e ▸ h
theorem g_if {t : TT} {b : Bool} (h : EvRT K C p tl ws t σ H i b) (a : RdAt K C p tl ws i H) (h1 : b = true → ∀ H', KeepB p H H' → RdAt K C p tl ws i H' → tu D σ H') (h2 : b = false → ∀ H', KeepB p H H' → RdAt K C p tl ws i H' → tw D σ H') : tIfS t tu tw D σ H := h H (.refl _ _) a _ fun H' kb a' => by
  cases b with
  | true => exact iteT (h1 rfl H' kb a')
  | false => exact iteF (h2 rfl H' kb a')
theorem g_app {n : Nat} {xs : List V} {as : List PyData} (hq : σ[n]? = some (some (.ref q))) (e : H q = some (.lst xs)) (l : TpL K H xs as) (np : q ≠ p) (nt : q ≠ tl) (h : EvR K C p tl ws te σ H i j d) (a : RdAt K C p tl ws i H) (z : as.length < 1000000)
    (f : ∀ v H1, KeepB p H H1 → RdAt K C p tl ws j (upd H1 q (.lst (xs ++ [v]))) → TpL K (upd H1 q (.lst (xs ++ [v]))) (xs ++ [v]) (as ++ [d]) → D.nx σ (upd H1 q (.lst (xs ++ [v])))) : tDrop (tBM K "list" rAppend (tVar n) (tCons te tNil)) D σ H := by
  refine ⟨_, hq, .inl ⟨rfl, _, SqL.of e⟩, h H (.refl _ _) a _ fun v H1 kb a1 tv => ?_⟩
  have e1 := kb _ _ e np
  exact ⟨q, xs, v, rfl, rfl, e1, by rw [l.len]; exact sz6 z, f v H1 kb (a1.upd e1 nt) (((l.stay (a.tup kb)).app (.one tv)).stay (.keep keep_upd e1))⟩
end
/-! what the methods read -/
def RBraced (n : Nat) : RR := fun ds ws i j d => ∃ (r : CRow) (dep : Int), ds = [.int dep] ∧ r.ok ∧ r.h < n ∧ dep + (r.h : Int) ≤ 7 ∧ At ws i ("{" :: (r.ws ++ [("}" : Str)])) ∧ j = i + (r.ws.length + 2) ∧ d = r.f.d
def RArg (n : Nat) : RR := fun ds ws i j d => ∃ (r : CArg) (dep : Int), ds = [.int dep] ∧ r.ok ∧ r.h < n ∧ dep + (r.h : Int) ≤ 7 ∧ At ws i r.ws ∧ j = i + r.ws.length ∧ d = r.f.d
def RRow (n : Nat) : RR := fun ds ws i j d => ∃ (r : CRow) (dep : Int) (stops : List Str), ds = [.int dep, .tuple (stops.map .str)] ∧ (∀ x ∈ stops, x ∈ stopWs) ∧ r.ok ∧ r.h < n ∧ dep + (r.h : Int) ≤ 7 ∧ (∃ x : Str, x ∈ stops ∧ At ws i (r.ws ++ [x])) ∧ j = i + r.ws.length ∧ d = r.f.d
def RFence (n : Nat) : RR := fun ds ws i j d => ∃ (o c : Str) (r : CRow) (dep : Int), ds = [.int dep] ∧ Sy o ∧ Sy c ∧ r.ok ∧ r.h < n ∧ dep + (r.h : Int) ≤ 7 ∧ At ws i (CNuc.fence o c r).ws ∧ j = i + (CNuc.fence o c r).ws.length ∧ d = (CNuc.fence o c r).f.d
def restW : List CRow → List Str
  | [] => []
  | r :: rs => "&" :: (r.ws ++ restW rs)
def cellW : List CRow → List Str
  | [] => []
  | r :: rs => r.ws ++ restW rs
def RCells (n : Nat) : RR := fun ds ws i j d => ∃ (rs : List CRow) (dep : Int) (m : PyData) (ends : List Str), ds = [.int dep, m, .tuple (ends.map .str)] ∧ (∀ x ∈ ends, x ∈ stopWs) ∧ ends.length ≤ 5 ∧ 1 ≤ rs.length ∧ rs.length ≤ 6 ∧ (∀ r ∈ rs, r.ok ∧ r.h < n ∧ dep + (r.h : Int) ≤ 7) ∧ (m = .none ∨ m = .int (rs.length : Int)) ∧
  (∃ x : Str, x ∈ ends ∧ x ≠ "&" ∧ At ws i (cellW rs ++ [x])) ∧ j = i + (cellW rs).length ∧ d = .tuple (rs.map fun r => r.f.d)
def RGrid (n : Nat) : RR := fun ds ws i j d => ∃ (g : CGrid) (dep : Int), ds = [.int dep] ∧ (CNuc.grid g).ok ∧ g.h ≤ n ∧ dep + (g.h : Int) ≤ 8 ∧ At ws i (CNuc.grid g).ws ∧ j = i + (CNuc.grid g).ws.length ∧ d = (CNuc.grid g).f.d
def RNuc (n : Nat) : RR := fun ds ws i j d => ∃ (r : CNuc) (dep : Int), ds = [.int dep] ∧ r.ok ∧ r.h ≤ n ∧ dep + (r.h : Int) ≤ 7 ∧ At ws i r.ws ∧ j = i + r.ws.length ∧ d = r.f.d
def RItem (n : Nat) : RR := fun ds ws i j d => ∃ (r : CItem) (dep : Int), ds = [.int dep] ∧ r.ok ∧ r.h ≤ n ∧ dep + (r.h : Int) ≤ 7 ∧ (∃ x : Str, x ≠ "_" ∧ x ≠ "^" ∧ At ws i (r.ws ++ [x])) ∧ j = i + r.ws.length ∧ d = r.f.d
/-! cells in their lines -/
theorem cells_restW : ∀ c : CCells, c.ws "&" = restW c.rows
  | .nil => rfl
  | .cons r c => by rw [CCells.ws, CCells.rows, restW, cells_restW c]
theorem cells_cellW {s : Str} : ∀ c : CCells, c.rows ≠ [] → c.ws s = s :: cellW c.rows
  | .nil, h => absurd rfl h
  | .cons r c, _ => by rw [CCells.ws, CCells.rows, cellW, cells_restW c]
section
variable {P : Program} {w : World} {K : PySem.W.Frag} {mg : Str → Option Value} {base : Heap} {C : Addr}
theorem scRBraced : FnScope ["self", "depth", "row"] ["self", "depth"] (defScope sRBraced) := ⟨rfl, rfl, rfl, by decide +kernel, rfl, by decide +kernel, by decide +kernel⟩
theorem ok_rbraced {n : Nat} {f : Addr} {fd : FuncData} (F : Fun K "_braced" "Reader._braced" sRBraced f fd) (T : TxtRd K mg C) (C_accept : CalM P w K mg base CX0 1 C "_accept" ["self", "wanted"] (spRd K C RAcc)) (C_row : CalM P w K mg base CX0 (6 * n + 4) C "_row" ["self", "depth", "stops"] (spRd K C (RRow n))) : FnOk P w K mg base CX0 (6 * n + 5) f fd ["self", "depth"] (spRd K C (RBraced n)) := by
  have sc := scRBraced
  refine F.ok scRBraced (fun vs H Q E h => ?_) (fun cdv A outer s H vs Q E hr h => ?_)
  · obtain ⟨p, tl, ws, i, j, us, ds, d, rfl, l, a, ⟨r, dep, rfl, _⟩, _⟩ := h
    cases l with
    | cons _ l => cases l; rfl
  · obtain ⟨p, tl, ws, i, j, us, ds, d, rfl, l, a, ⟨r, dep, rfl, ok, hn, hd, hw, rfl, rfl⟩, k⟩ := h
    cases l with
    | cons t l => cases l with
    | nil =>
    cases tp_int t
    refine ⟨_, (pss_cons (ps_expr (pe_calm (pv 0) T.cl C_accept (hr.mono (by omega)) pass0 (pa_cons pe_str pa_nil)))
  (pss_cons (ps_set (i := 2) sc.nd rfl (Or.inl rfl) (pe_calm (pv 0) T.cl C_row (hr.mono (by omega)) pass0 (pa_cons (pv 1) (pa_cons (pe_tup (pa_cons pe_str pa_nil)) pa_nil))))
  (pss_cons (ps_expr (pe_calm (pv 0) T.cl C_accept (hr.mono (by omega)) pass0 (pa_cons pe_str pa_nil)))
  (pss_one (ps_ret (pv 2)))))), ?_⟩
    obtain ⟨w1, w2⟩ := at_cons.mp hw
    obtain ⟨w3, w4⟩ := at_app.mp w2
    obtain ⟨w5, _⟩ := at_cons.mp w4
    refine g_drop (r_call rfl (by decide +kernel) (by decide +kernel) (ra_pure fun _ _ => a_cons e_str a_nil) (⟨"{", rfl, rfl, w1, rfl⟩ : RAcc [.str "{"] ws i (i + 1) .none)) a fun H1 k1 a1 => ?_
    refine g_set (r_call rfl (by decide +kernel) (by decide +kernel) (ra_pure fun _ _ => a_cons (e_var rfl (.int dep)) (a_cons (e_tup (ds := [.str "}"]) (a_cons e_str a_nil) (by decide)) a_nil)) (⟨r, dep, ["}"], rfl, by decide +kernel, ok, hn, hd, ⟨"}", by decide +kernel, w2⟩, rfl, rfl⟩ : RRow n _ ws (i + 1) (i + 1 + r.ws.length) r.f.d)) a1 fun v H2 k2 a2 t2 => ?_
    refine g_drop (r_call rfl (by decide +kernel) (by decide +kernel) (ra_pure fun _ _ => a_cons e_str a_nil) (⟨"}", rfl, rfl, w5, rfl⟩ : RAcc [.str "}"] ws (i + 1 + r.ws.length) (i + 1 + r.ws.length + 1) .none)) a2 fun H3 k3 a3 => ?_
    refine g_ret (r_var (i := i + 1 + r.ws.length + 1) a3 rfl (t2.stay (a2.tup k3))) a3 fun v' H4 k4 a4 t4 => k v' H4 (((k1.trans k2).trans k3).trans k4) ?_ t4
    rw [show i + (r.ws.length + 2) = i + 1 + r.ws.length + 1 by omega]
    exact a4
theorem scArgument : FnScope ["self", "depth", "name"] ["self", "depth"] (defScope sArgument) := ⟨rfl, rfl, rfl, by decide +kernel, rfl, by decide +kernel, by decide +kernel⟩
theorem ok_argument {n : Nat} {f : Addr} {fd : FuncData} (F : Fun K "_argument" "Reader._argument" sArgument f fd) (T : TxtRd K mg C) (C_peek : CalM P w K mg base CX0 1 C "_peek" ["self"] (spRd K C RPeek)) (C_symbol : CalM P w K mg base CX0 3 C "_symbol" ["self"] (spRd K C RSym)) (C_check_depth : Cal P w K mg base CX0 1 "check_depth" ["depth"] spCheckDepth0) (C_braced : CalM P w K mg base CX0 (6 * n + 5) C "_braced" ["self", "depth"] (spRd K C (RBraced n))) :
    FnOk P w K mg base CX0 (6 * n + 6) f fd ["self", "depth"] (spRd K C (RArg n)) := by
  have sc := scArgument
  refine F.ok scArgument (fun vs H Q E h => ?_) (fun cdv A outer s H vs Q E hr h => ?_)
  · obtain ⟨p, tl, ws, i, j, us, ds, d, rfl, l, a, ⟨r, dep, rfl, _⟩, _⟩ := h
    cases l with
    | cons _ l => cases l; rfl
  · obtain ⟨p, tl, ws, i, j, us, ds, d, rfl, l, a, ⟨r, dep, rfl, ok, hn, hd, hw, rfl, rfl⟩, k⟩ := h
    cases l with
    | cons t l => cases l with
    | nil =>
    cases tp_int t
    refine ⟨_, (pss_cons (ps_if (pt_cmpR op_eq (pe_calm0 (pv 0) T.cl C_peek (hr.mono (by omega)) pass0) pe_str (nomark _))
  (pss_one (ps_ret (pe_calm (pv 0) T.cl C_braced (hr.mono (by omega)) pass0 (pa_cons (pv 1) pa_nil))))
  pss_nil)
  (pss_cons (ps_set (i := 2) sc.nd rfl (Or.inl rfl) (pe_calm0 (pv 0) T.cl C_symbol (hr.mono (by omega)) pass0))
  (pss_cons (ps_expr (pe_cal C_check_depth (hr.mono (by omega)) rfl pass0 (pa_cons (pv 1) pa_nil)))
  (pss_one (ps_ret (pe_tup (pa_cons (pe_tup (pa_cons (pe_tup (pa_cons pe_str (pa_cons (pv 2) pa_nil))) (pa_cons pe_non (pa_cons pe_non pa_nil)))) pa_nil))))))), ?_⟩
    have pk : ∀ {x : Str} {H : Hp} {E : XK}, ws[i]? = some x → EvR K C p tl ws (tMeth C "_peek" (spRd K C RPeek) [] E (tVar 0) tNil) (L2.start ["self", "depth", "name"] [.ref p, .int dep]) H i i (.str x) := fun hx => r_call rfl (by decide +kernel) (by decide +kernel) ra_nil ⟨rfl, rfl, _, hx, rfl⟩
    cases r with
    | brace r =>
      refine g_when (b := decide (("{" : Str) = "{")) (rt_eq (pk (at_cons.mp hw).1) r_eqS) a (fun _ H1 k1 a1 => ?_) (fun z => absurd z (by decide +kernel))
      refine g_ret (r_call rfl (by decide +kernel) (by decide +kernel) (ra_pure fun _ _ => a_cons (e_var rfl (.int dep)) a_nil) (⟨r, dep, rfl, ok, hn, hd, hw, rfl, rfl⟩ : RBraced n _ ws i (i + (r.ws.length + 2)) r.f.d)) a1 fun v' H4 k4 a4 t4 => k v' H4 (k1.trans k4) ?_ t4
      rw [show (CArg.brace r).ws.length = r.ws.length + 2 by simp [CArg.ws]]
      exact a4
    | one x =>
      have hx : ws[i]? = some x := (at_cons.mp hw).1
      have ok : Sy x := ok
      refine g_when (b := decide (x = "{")) (rt_eq (pk hx) r_eqS) a (fun z => absurd (of_decide_eq_true z) (sy_ne ok (by decide +kernel))) fun _ H1 k1 a1 => ?_
      refine g_set (r_call rfl (by decide +kernel) (by decide +kernel) ra_nil (⟨rfl, rfl, x, hx, ok, rfl⟩ : RSym [] ws i (i + 1) (.str x))) a1 fun v H2 k2 a2 t2 => ?_
      cases tp_str t2
      refine ⟨_, rfl, dep, rfl, by have : (0 : Int) ≤ ((CArg.one x).h : Int) := Int.ofNat_nonneg _; omega, ?_⟩
      refine g_ret (i := i + 1) (r_pure fun _ _ => e_tup (ds := [.tuple [.tuple [.str "symbol", .str x], .none, .none]]) (a_cons (e_tup (a_cons (e_tup (a_cons e_str (a_cons (e_var rfl (.str x)) a_nil)) (Nat.le_of_ble_eq_true rfl)) (a_cons e_non (a_cons e_non a_nil))) (Nat.le_of_ble_eq_true rfl)) a_nil) (Nat.le_of_ble_eq_true rfl)) a2 fun v' H4 k4 a4 t4 => k v' H4 ((k1.trans k2).trans k4) a4 t4
theorem scRFence : FnScope ["self", "depth", "opening", "row"] ["self", "depth"] (defScope sRFence) := ⟨rfl, rfl, rfl, by decide +kernel, rfl, by decide +kernel, by decide +kernel⟩
theorem ok_rfence {n : Nat} {f : Addr} {fd : FuncData} (F : Fun K "_fence" "Reader._fence" sRFence f fd) (T : TxtRd K mg C) (C_accept : CalM P w K mg base CX0 1 C "_accept" ["self", "wanted"] (spRd K C RAcc)) (C_delimiter : CalM P w K mg base CX0 4 C "_delimiter" ["self"] (spRd K C RDelim)) (C_row : CalM P w K mg base CX0 (6 * n + 4) C "_row" ["self", "depth", "stops"] (spRd K C (RRow n))) :
    FnOk P w K mg base CX0 (6 * n + 5) f fd ["self", "depth"] (spRd K C (RFence n)) := by
  have sc := scRFence
  refine F.ok scRFence (fun vs H Q E h => ?_) (fun cdv A outer s H vs Q E hr h => ?_)
  · obtain ⟨p, tl, ws, i, j, us, ds, d, rfl, l, a, ⟨o, c, r, dep, rfl, _⟩, _⟩ := h
    cases l with
    | cons _ l => cases l; rfl
  · obtain ⟨p, tl, ws, i, j, us, ds, d, rfl, l, a, ⟨o, c, r, dep, rfl, so, sc', ok, hn, hd, hw, rfl, rfl⟩, k⟩ := h
    cases l with
    | cons t l => cases l with
    | nil =>
    cases tp_int t
    refine ⟨_, (pss_cons (ps_expr (pe_calm (pv 0) T.cl C_accept (hr.mono (by omega)) pass0 (pa_cons pe_str pa_nil)))
  (pss_cons (ps_set (i := 2) sc.nd rfl (Or.inl rfl) (pe_calm0 (pv 0) T.cl C_delimiter (hr.mono (by omega)) pass0))
  (pss_cons (ps_set (i := 3) sc.nd rfl (Or.inl rfl) (pe_calm (pv 0) T.cl C_row (hr.mono (by omega)) pass0 (pa_cons (pv 1) (pa_cons (pe_tup (pa_cons pe_str pa_nil)) pa_nil))))
  (pss_cons (ps_expr (pe_calm (pv 0) T.cl C_accept (hr.mono (by omega)) pass0 (pa_cons pe_str pa_nil)))
  (pss_one (ps_ret (pe_tup (pa_cons pe_str (pa_cons (pv 2) (pa_cons (pe_calm0 (pv 0) T.cl C_delimiter (hr.mono (by omega)) pass0) (pa_cons (pv 3) pa_nil))))))))))), ?_⟩
    obtain ⟨w1, w2⟩ := at_cons.mp hw
    obtain ⟨w2, w3⟩ := at_cons.mp w2
    obtain ⟨w4, w5⟩ := at_app.mp w3
    obtain ⟨w5, w6⟩ := at_cons.mp w5
    obtain ⟨w6, _⟩ := at_cons.mp w6
    have w7 : At ws (i + 1 + 1) (r.ws ++ [("@right" : Str)]) := at_app.mpr ⟨w4, at_cons.mpr ⟨w5, at_nil⟩⟩
    refine g_drop (r_call rfl (by decide +kernel) (by decide +kernel) (ra_pure fun _ _ => a_cons e_str a_nil) (⟨"@left", rfl, rfl, w1, rfl⟩ : RAcc [.str "@left"] ws i (i + 1) .none)) a fun H1 k1 a1 => ?_
    refine g_set (r_call rfl (by decide +kernel) (by decide +kernel) ra_nil (⟨rfl, rfl, o, w2, so, rfl⟩ : RDelim [] ws (i + 1) (i + 1 + 1) (optD (optW o)))) a1 fun v2 H2 k2 a2 t2 => ?_
    refine g_set (r_call rfl (by decide +kernel) (by decide +kernel) (ra_pure fun _ _ => a_cons (e_var rfl (.int dep)) (a_cons (e_tup (ds := [.str "@right"]) (a_cons e_str a_nil) (by decide)) a_nil)) (⟨r, dep, ["@right"], rfl, by decide +kernel, ok, hn, hd, ⟨"@right", by decide +kernel, w7⟩, rfl, rfl⟩ : RRow n _ ws (i + 1 + 1) (i + 1 + 1 + r.ws.length) r.f.d)) a2 fun v3 H3 k3 a3 t3 => ?_
    refine g_drop (r_call rfl (by decide +kernel) (by decide +kernel) (ra_pure fun _ _ => a_cons e_str a_nil) (⟨"@right", rfl, rfl, w5, rfl⟩ : RAcc [.str "@right"] ws (i + 1 + 1 + r.ws.length) (i + 1 + 1 + r.ws.length + 1) .none)) a3 fun H4 k4 a4 => ?_
    refine g_ret (r_tup (ds := [.str "fence", optD (optW o), optD (optW c), r.f.d]) (ra_cons (r_pure fun _ _ => e_str) (ra_cons (r_var a4 rfl ((t2.stay (a2.tup k3)).stay (a3.tup k4))) (ra_cons (r_call rfl (by decide +kernel) (by decide +kernel) ra_nil (⟨rfl, rfl, c, w6, sc', rfl⟩ : RDelim [] ws (i + 1 + 1 + r.ws.length + 1) (i + 1 + 1 + r.ws.length + 1 + 1) (optD (optW c)))) (ra_cons (r_var a4 rfl (t3.stay (a3.tup k4))) ra_nil)))) (Nat.le_of_ble_eq_true rfl)) a4 fun v' H5 k5 a5 t5 => k v' H5 ((((k1.trans k2).trans k3).trans k4).trans k5) ?_ t5
    rw [show (CNuc.fence o c r).ws.length = r.ws.length + 4 by simp [CNuc.ws], show i + (r.ws.length + 4) = i + 1 + 1 + r.ws.length + 1 + 1 by omega]
    exact a5
end
end Mg

set_option Elab.async false
set_option linter.all false
set_option maxRecDepth 100000
set_option maxHeartbeats 1000000
namespace Mg
open PySem L2 StX
section
variable {P : Program} {w : World} {K : PySem.W.Frag} {mg : Str → Option Value} {base : Heap} {C : Addr}
theorem scRRow : FnScope ["self", "depth", "stops", "items"] ["self", "depth", "stops"] (defScope sRRow) := ⟨rfl, rfl, rfl, by decide +kernel, rfl, by decide +kernel, by decide +kernel⟩
theorem ok_rrow {n : Nat} {f : Addr} {fd : FuncData} (F : Fun K "_row" "Reader._row" sRRow f fd) (T : TxtRd K mg C) (C_peek : CalM P w K mg base CX0 1 C "_peek" ["self"] (spRd K C RPeek)) (C_check_depth : Cal P w K mg base CX0 1 "check_depth" ["depth"] spCheckDepth0) (C_item : CalM P w K mg base CX0 (6 * n + 8) C "_item" ["self", "depth"] (spRd K C (RItem n))) :
    FnOk P w K mg base CX0 (6 * n + 10) f fd ["self", "depth", "stops"] (spRd K C (RRow (n + 1))) := by
  have sc := scRRow
  refine F.ok scRRow (fun vs H Q E h => ?_) (fun cdv A outer s H vs Q E hr h => ?_)
  · obtain ⟨p, tl, ws, i, j, us, ds, d, rfl, l, a, ⟨r, dep, stops, rfl, _⟩, _⟩ := h
    cases l with
    | cons _ l => cases l with
    | cons _ l => cases l; rfl
  · obtain ⟨p, tl, ws, i, j, us, ds, d, rfl, l, a, ⟨r, dep, stops, rfl, hst, ok, hn, hd, ⟨x, hx, hw⟩, rfl, rfl⟩, k⟩ := h
    cases l with
    | cons t l => cases l with
    | cons t2 l => cases l with
    | nil =>
    rename_i vst
    cases tp_int t
    refine ⟨_, (pss_cons (ps_expr (pe_cal C_check_depth (hr.mono (by omega)) rfl pass0 (pa_cons (pv 1) pa_nil)))
  (pss_cons (ps_set (i := 3) sc.nd rfl (Or.inl rfl) (pe_lst pa_nil))
  (pss_cons (ps_while PassesOwn.never (pt_cmpR op_notIn_seq (pe_calm0 (pv 0) T.cl C_peek (hr.mono (by omega)) pass0) (pv 2) (by rfl))
  (pss_one (ps_expr (pe_bm PySem.F.plainAttrs_list PySem.F.slot_list_append PySem.F.type_list_append mt_append (pv 3) (pa_cons (pe_calm (pv 0) T.cl C_item (hr.mono (by omega)) pass0 (pa_cons (pv 1) pa_nil)) pa_nil)))))
  (pss_one (ps_ret (pe_callTy call_tuple_of (by rfl) T.b_tuple (by decide +kernel) (pa_cons (pv 3) pa_nil))))))), ?_⟩
    have h0 : (0 : Int) ≤ (r.h : Int) := Int.ofNat_nonneg _
    refine ⟨_, rfl, dep, rfl, by omega, ?_⟩
    refine ⟨Nat.zero_le _, fun q nq => ?_⟩
    have ne1 : q ≠ p := fun e => by
      obtain ⟨dx, hp⟩ := a.ob
      rw [e, hp] at nq
      cases nq
    have ne2 : q ≠ tl := fun e => by
      obtain ⟨xs, hp, _⟩ := a.tk
      rw [e, hp] at nq
      cases nq
    have okI := CRow.ok_iff.mp ok
    have hI := (CRow.h_le (n := r.h)).mp (Nat.le_refl _)
    have hL : r.items.length ≤ 1000000 := by
      have h1 : r.items.length ≤ r.ws.length := by
        rw [CRow.ws_eq]
        have : ∀ L : List CItem, (∀ z ∈ L, z.ok) → L.length ≤ (L.flatMap CItem.ws).length := by
          intro L
          induction L with
          | nil => intro _; exact Nat.zero_le _
          | cons z L ih =>
            intro h
            obtain ⟨y, r', e, _⟩ := CItem.first (h z (List.mem_cons_self))
            have := ih fun y hy => h y (List.mem_cons_of_mem _ hy)
            rw [List.flatMap_cons, List.length_append, List.length_cons, e, List.length_cons]
            omega
        exact this r.items okI
      have h2 : r.ws.length ≤ ws.length := by
        obtain ⟨z, hz⟩ := hw
        have := congrArg List.length hz
        rw [List.length_append, List.length_append, List.length_drop] at this
        omega
      exact Nat.le_trans h1 (Nat.le_trans h2 a.sz)
    refine ⟨fun m σ H' => ∃ (done rest : List CItem) (xs : List V), m = rest.length ∧ r.items = done ++ rest ∧ σ = [some (.ref p), some (.int dep), some vst, some (.ref q)] ∧ KeepB p H H' ∧ RdAt K C p tl ws (i + (done.flatMap CItem.ws).length) H' ∧ H' q = some (.lst xs) ∧ TpL K H' xs (done.map fun z => z.f.d),
      ⟨_, [], r.items, [], rfl, rfl, rfl, KeepB.of (same_new nq), a.same (same_new nq), upd_same, .nil⟩, ?_⟩
    rintro m σ H' ⟨done, rest, xs, rfl, er, rfl, kb, a1, eq, lx⟩
    have hw' : At ws (i + (done.flatMap CItem.ws).length) (rest.flatMap CItem.ws ++ [x]) := by
      rw [CRow.ws_eq, er, List.flatMap_append, List.append_assoc] at hw
      exact (at_app.mp hw).2
    have tst := t2.stay (a.tup kb)
    have pk : ∀ {y : Str}, ws[i + (done.flatMap CItem.ws).length]? = some y → EvRT K C p tl ws (tTest (tOp (rIn K true) (tMeth C "_peek" (spRd K C RPeek) [] E0 (tVar 0) tNil) (tVar 2))) [some (.ref p), some (.int dep), some vst, some (.ref q)] H' (i + (done.flatMap CItem.ws).length) (!(stops.any fun r => r == y)) := fun hy =>
      rt_notIn (r_call rfl (by decide +kernel) (by decide +kernel) ra_nil ⟨rfl, rfl, _, hy, rfl⟩) a1 rfl tst
    cases rest with
    | nil =>
      have hx0 := (at_cons.mp hw').1
      refine pk hx0 H' (.refl _ _) a1 _ fun H2 k2 a2 => ?_
      have e : (!(stops.any fun r => r == x)) = false := by
        have : (stops.any fun r => r == x) = true := List.any_eq_true.mpr ⟨x, hx, by simp⟩
        rw [this]
        rfl
      refine iteN (by rw [e]; decide) ?_
      have eq2 := k2 _ _ eq ne1
      rw [List.append_nil] at er
      refine ⟨_, rfl, q, xs, rfl, .inl ⟨SqL.of eq2, fun c hc => ?_⟩⟩
      refine k _ _ ((kb.trans k2).trans (.of (same_new hc))) ?_ ?_
      · rw [CRow.ws_eq, er]
        exact a2.same (same_new hc)
      · show Tp K _ _ (.tuple r.f.ds)
        rw [CRow.ds_eq, er]
        exact .mk (SqT.of upd_same) ((lx.stay (a1.tup k2)).stay (.of (same_new hc)))
    | cons it rest =>
      have oki := okI it (by rw [er]; simp)
      obtain ⟨y, r', ey, fy⟩ := CItem.first oki
      have hw2 : At ws (i + (done.flatMap CItem.ws).length) (it.ws ++ (rest.flatMap CItem.ws ++ [x])) := by
        rw [List.flatMap_cons, List.append_assoc] at hw'
        exact hw'
      have hy : ws[i + (done.flatMap CItem.ws).length]? = some y := by
        rw [ey] at hw2
        exact (at_cons.mp hw2).1
      refine pk hy H' (.refl _ _) a1 _ fun H2 k2 a2 => ?_
      have e : (!(stops.any fun r => r == y)) = true := by
        have : (stops.any fun r => r == y) = false := List.any_eq_false.mpr fun z hz => by
          have : z ≠ y := fun e => fy.1 (e ▸ hst z hz)
          simpa using this
        rw [this]
        rfl
      refine iteP e ?_
      have nxt : ∃ z : Str, z ≠ "_" ∧ z ≠ "^" ∧ At ws (i + (done.flatMap CItem.ws).length) (it.ws ++ [z]) := by
        obtain ⟨g1, g2⟩ := at_app.mp hw2
        cases rest with
        | nil =>
          have hs := hst x hx
          refine ⟨x, fun e => ?_, fun e => ?_, at_app.mpr ⟨g1, g2⟩⟩
          · rw [e] at hs; exact absurd hs (by decide +kernel)
          · rw [e] at hs; exact absurd hs (by decide +kernel)
        | cons it2 rest =>
          obtain ⟨y2, r2, ey2, fy2⟩ := CItem.first (okI it2 (by rw [er]; simp))
          rw [List.flatMap_cons, ey2] at g2
          exact ⟨y2, fy2.2.1, fy2.2.2, at_app.mpr ⟨g1, at_cons.mpr ⟨(at_cons.mp g2).1, at_nil⟩⟩⟩
      have hit : it.h ≤ r.h := hI it (by rw [er]; simp)
      have eq2 := k2 _ _ eq ne1
      have len : done.length + (rest.length + 1) = r.items.length := by rw [er, List.length_append, List.length_cons]
      refine ⟨_, fun σ' H'' h => h, g_app (n := 3) rfl eq2 (lx.stay (a1.tup k2)) ne1 ne2 (r_call (R := RItem n) (j := i + (done.flatMap CItem.ws).length + it.ws.length) (d := it.f.d) rfl (by decide +kernel) (by decide +kernel) (ra_pure fun _ _ => a_cons (e_var rfl (.int dep)) a_nil) ⟨it, dep, rfl, oki, by omega, by omega, nxt, rfl, rfl⟩) a2 (by rw [List.length_map]; omega) fun v H3 k3 a3 l3 => ?_⟩
      refine ⟨rest.length, Nat.lt_succ_self _, done ++ [it], rest, _, rfl, by rw [er, List.append_assoc]; rfl, rfl, keepB_new ((kb.trans k2).trans k3) nq, ?_, upd_same, ?_⟩
      · rw [List.flatMap_append, List.length_append, ← Nat.add_assoc, List.flatMap_cons, List.flatMap_nil, List.append_nil]
        exact a3
      · rw [List.map_append]
        exact l3
end
end Mg

set_option Elab.async false
set_option linter.all false
set_option maxRecDepth 100000
set_option maxHeartbeats 1000000
namespace Mg
open PySem L2 StX
/-! scripts as they come -/
def CScr.pcs : CScr → List (Bool × CArg)
  | .no => []
  | .b x => [(false, x)]
  | .a x => [(true, x)]
  | .ba x y => [(false, x), (true, y)]
  | .ab x y => [(true, x), (false, y)]
def pcW : Bool × CArg → List Str
  | (false, x) => "_" :: x.ws
  | (true, x) => "^" :: x.ws
def pcsOk : List (Bool × CArg) → FScr → FScr → Prop
  | [], _, _ => True
  | (false, x) :: r, lo, hi => lo = .no ∧ pcsOk r (.yes x.f) hi
  | (true, x) :: r, lo, hi => hi = .no ∧ pcsOk r lo (.yes x.f)
def pcsFin : List (Bool × CArg) → FScr → FScr → FScr × FScr
  | [], lo, hi => (lo, hi)
  | (false, x) :: r, _, hi => pcsFin r (.yes x.f) hi
  | (true, x) :: r, lo, _ => pcsFin r lo (.yes x.f)
theorem CScr.pcs_ws : ∀ s : CScr, s.ws = s.pcs.flatMap pcW
  | .no => rfl
  | .b x => by simp [CScr.ws, CScr.pcs, pcW]
  | .a x => by simp [CScr.ws, CScr.pcs, pcW]
  | .ba x y => by simp [CScr.ws, CScr.pcs, pcW]
  | .ab x y => by simp [CScr.ws, CScr.pcs, pcW]
theorem CScr.pcs_ok : ∀ s : CScr, pcsOk s.pcs .no .no
  | .no => trivial
  | .b x => ⟨rfl, trivial⟩
  | .a x => ⟨rfl, trivial⟩
  | .ba x y => ⟨rfl, rfl, trivial⟩
  | .ab x y => ⟨rfl, rfl, trivial⟩
theorem CScr.pcs_fin : ∀ s : CScr, pcsFin s.pcs .no .no = (s.lo, s.hi)
  | .no => rfl
  | .b x => rfl
  | .a x => rfl
  | .ba x y => rfl
  | .ab x y => rfl
theorem CScr.pcs_mem : ∀ {s : CScr} {z : Bool × CArg}, z ∈ s.pcs → s.ok → z.2.ok ∧ z.2.h + 1 ≤ s.h
  | .no, z, h, _ => nomatch h
  | .b x, z, h, o => by
    cases List.mem_singleton.mp h
    exact ⟨o, Nat.le_refl _⟩
  | .a x, z, h, o => by
    cases List.mem_singleton.mp h
    exact ⟨o, Nat.le_refl _⟩
  | .ba x y, z, h, o => by
    simp only [CScr.pcs, List.mem_cons, List.not_mem_nil, or_false] at h
    rcases h with rfl | rfl
    · exact ⟨o.1, Nat.le_max_left _ _⟩
    · exact ⟨o.2, Nat.le_max_right _ _⟩
  | .ab x y, z, h, o => by
    simp only [CScr.pcs, List.mem_cons, List.not_mem_nil, or_false] at h
    rcases h with rfl | rfl
    · exact ⟨o.1, Nat.le_max_left _ _⟩
    · exact ⟨o.2, Nat.le_max_right _ _⟩
section
variable {P : Program} {w : World} {K : PySem.W.Frag} {mg : Str → Option Value} {base : Heap} {C : Addr}
theorem scRItem : FnScope ["self", "depth", "nucleus", "below", "above"] ["self", "depth"] (defScope sRItem) := ⟨rfl, rfl, rfl, by decide +kernel, rfl, by decide +kernel, by decide +kernel⟩
theorem ok_ritem {n : Nat} {f : Addr} {fd : FuncData} (F : Fun K "_item" "Reader._item" sRItem f fd) (T : TxtRd K mg C) (C_peek : CalM P w K mg base CX0 1 C "_peek" ["self"] (spRd K C RPeek)) (C_accept : CalM P w K mg base CX0 1 C "_accept" ["self", "wanted"] (spRd K C RAcc)) (C_argument : CalM P w K mg base CX0 (6 * n + 6) C "_argument" ["self", "depth"] (spRd K C (RArg n)))
    (C_nucleus : CalM P w K mg base CX0 (6 * n + 7) C "_nucleus" ["self", "depth"] (spRd K C (RNuc n))) : FnOk P w K mg base CX0 (6 * n + 8) f fd ["self", "depth"] (spRd K C (RItem n)) := by
  have sc := scRItem
  refine F.ok scRItem (fun vs H Q E h => ?_) (fun cdv A outer s H vs Q E hr h => ?_)
  · obtain ⟨p, tl, ws, i, j, us, ds, d, rfl, l, a, ⟨r, dep, rfl, _⟩, _⟩ := h
    cases l with
    | cons _ l => cases l; rfl
  · obtain ⟨p, tl, ws, i, j, us, ds, d, rfl, l, a, ⟨⟨nu, scr⟩, dep, rfl, ok, hn, hd, ⟨x, x1, x2, hw⟩, rfl, rfl⟩, k⟩ := h
    cases l with
    | cons t l => cases l with
    | nil =>
    cases tp_int t
    refine ⟨_, (pss_cons (ps_set (i := 2) sc.nd rfl (Or.inl rfl) (pe_calm (pv 0) T.cl C_nucleus (hr.mono (by omega)) pass0 (pa_cons (pv 1) pa_nil)))
  (pss_cons (ps_set (i := 3) sc.nd rfl (Or.inl rfl) pe_non)
  (pss_cons (ps_set (i := 4) sc.nd rfl (Or.inl rfl) pe_non)
  (pss_one (ps_while PassesOwn.never (pt_val pe_bl)
  (pss_one (ps_if (PW.pt (pw_and (pt_cmpR op_eq (pe_calm0 (pv 0) T.cl C_peek (hr.mono (by omega)) pass0) pe_str (nomark _)) (pw_and1 (pt_cmpR op_isN (pv 3) pe_non (nomark _)))))
  (pss_cons (ps_expr (pe_calm (pv 0) T.cl C_accept (hr.mono (by omega)) pass0 (pa_cons pe_str pa_nil)))
  (pss_one (ps_set (i := 3) sc.nd rfl (Or.inl rfl) (pe_calm (pv 0) T.cl C_argument (hr.mono (by omega)) pass0 (pa_cons (pe_op op_add (pv 1) pe_int) pa_nil)))))
  (pss_one (ps_if (PW.pt (pw_and (pt_cmpR op_eq (pe_calm0 (pv 0) T.cl C_peek (hr.mono (by omega)) pass0) pe_str (nomark _)) (pw_and1 (pt_cmpR op_isN (pv 4) pe_non (nomark _)))))
  (pss_cons (ps_expr (pe_calm (pv 0) T.cl C_accept (hr.mono (by omega)) pass0 (pa_cons pe_str pa_nil)))
  (pss_one (ps_set (i := 4) sc.nd rfl (Or.inl rfl) (pe_calm (pv 0) T.cl C_argument (hr.mono (by omega)) pass0 (pa_cons (pe_op op_add (pv 1) pe_int) pa_nil)))))
  (pss_one (ps_ret (pe_tup (pa_cons (pv 2) (pa_cons (pv 3) (pa_cons (pv 4) pa_nil))))))))))))))), ?_⟩
    have hnu : nu.h ≤ (CItem.mk nu scr).h := Nat.le_max_left _ _
    have hsc : scr.h ≤ (CItem.mk nu scr).h := Nat.le_max_right _ _
    rw [show (CItem.mk nu scr).ws = nu.ws ++ scr.ws from rfl, List.append_assoc] at hw
    obtain ⟨w1, w2⟩ := at_app.mp hw
    rw [CScr.pcs_ws] at w2
    refine g_set (r_call (R := RNuc n) (j := i + nu.ws.length) (d := nu.f.d) rfl (by decide +kernel) (by decide +kernel) (ra_pure fun _ _ => a_cons (e_var rfl (.int dep)) a_nil) ⟨nu, dep, rfl, ok.1, by omega, by omega, w1, rfl, rfl⟩) a fun v2 H1 k1 a1 t2 => ?_
    refine ⟨fun m σ H' => ∃ (rest : List (Bool × CArg)) (lo hi : FScr) (v3 v4 : V) (i' : Nat), m = rest.length ∧ σ = [some (.ref p), some (.int dep), some v2, some v3, some v4] ∧ KeepB p H1 H' ∧ RdAt K C p tl ws i' H' ∧ At ws i' (rest.flatMap pcW ++ [x]) ∧ i' + (rest.flatMap pcW).length = i + nu.ws.length + (scr.pcs.flatMap pcW).length ∧
        Tp K H' v3 lo.d ∧ Tp K H' v4 hi.d ∧ pcsOk rest lo hi ∧ pcsFin rest lo hi = (scr.lo, scr.hi) ∧ ∀ z ∈ rest, z ∈ scr.pcs, ⟨_, scr.pcs, .no, .no, .non, .non, _, rfl, rfl, .refl _ _, a1, w2, rfl, .non, .non, CScr.pcs_ok _, CScr.pcs_fin _, fun _ h => h⟩, ?_⟩
    rintro m σ H' ⟨rest, lo, hi, v3, v4, i', rfl, rfl, kb, a2, w3, hl, t3, t4, po, pf, pm⟩
    refine ⟨true, rfl, iteP rfl ?_⟩
    refine ⟨_, fun σ' H'' h => h, ?_⟩
    have pk : ∀ {y z : Str} {H : Hp} {b : Bool}, ws[i']? = some y → b = decide (y = z) → EvRT K C p tl ws (tTest (tOp rEq (tMeth C "_peek" (spRd K C RPeek) [] E0 (tVar 0) tNil) (tC (.str z)))) [some (.ref p), some (.int dep), some v2, some v3, some v4] H i' b := fun hy e =>
      e ▸ rt_eq (r_call rfl (by decide +kernel) (by decide +kernel) ra_nil ⟨rfl, rfl, _, hy, rfl⟩) r_eqS
    cases rest with
    | nil =>
      have hx0 := (at_cons.mp w3).1
      refine g_if (b := false && false) (rt_and (pk hx0 (decide_eq_false x1).symm) (fun z => nomatch z)) a2 (fun z => nomatch z) fun _ H3 k3 a3 => ?_
      refine g_if (b := false && false) (rt_and (pk hx0 (decide_eq_false x2).symm) (fun z => nomatch z)) a3 (fun z => nomatch z) fun _ H4 k4 a4 => ?_
      have kk := k3.trans k4
      refine g_ret (i := i') (r_tup (ds := [nu.f.d, lo.d, hi.d]) (ra_cons (r_var a4 rfl (t2.stay (a1.tup (kb.trans kk)))) (ra_cons (r_var a4 rfl (t3.stay (a2.tup kk))) (ra_cons (r_var a4 rfl (t4.stay (a2.tup kk))) ra_nil))) (Nat.le_of_ble_eq_true rfl)) a4 fun v' H5 k5 a5 t5 => k v' H5 (((k1.trans kb).trans kk).trans k5) ?_ ?_
      · rw [show (CItem.mk nu scr).ws.length = nu.ws.length + (scr.pcs.flatMap pcW).length by rw [show (CItem.mk nu scr).ws = nu.ws ++ scr.ws from rfl, List.length_append, CScr.pcs_ws]]
        have e : i' = i + (nu.ws.length + (scr.pcs.flatMap pcW).length) := by
          rw [List.flatMap_nil, List.length_nil] at hl
          omega
        rw [← e]
        exact a5
      · have e1 : lo = scr.lo := congrArg Prod.fst pf
        have e2 : hi = scr.hi := congrArg Prod.snd pf
        rw [e1, e2] at t5
        exact t5
    | cons z rest =>
      obtain ⟨b, y⟩ := z
      obtain ⟨oky, hy⟩ := CScr.pcs_mem (pm _ (List.mem_cons_self)) ok.2
      have oky : y.ok := oky
      have hy : y.h + 1 ≤ scr.h := hy
      cases b with
      | false =>
        have w3 : At ws i' ((("_" : Str) :: y.ws) ++ (rest.flatMap pcW ++ [x])) := by
          rw [List.flatMap_cons, List.append_assoc] at w3
          exact w3
        obtain ⟨g1, g2⟩ := at_app.mp w3
        obtain ⟨g0, g1⟩ := at_cons.mp g1
        obtain ⟨rfl, po⟩ := po
        refine g_if (b := true && true) (rt_and (pk g0 rfl) (fun _ => rt_none a2 rfl t3)) a2 (fun _ H3 k3 a3 => ?_) (fun z => nomatch z)
        refine g_drop (r_call rfl (by decide +kernel) (by decide +kernel) (ra_pure fun _ _ => a_cons e_str a_nil) (⟨"_", rfl, rfl, g0, rfl⟩ : RAcc [.str "_"] ws i' (i' + 1) .none)) a3 fun H4 k4 a4 => ?_
        refine (r_call (R := RArg n) (H := H4) (j := i' + 1 + y.ws.length) (d := y.f.d) rfl (by decide +kernel) (by decide +kernel) (ra_pure fun _ _ => a_cons (e_op (e_var rfl (.int dep)) e_int r_I0i) a_nil) ⟨y, dep + 1, rfl, oky, by omega, by omega, g1, rfl, rfl⟩ : EvR K C p tl ws _ _ _ _ _ _) H4 (.refl _ _) a4 _ fun v H5 k5 a5 t5 => ?_
        have kk := (k3.trans k4).trans k5
        refine ⟨rest.length, Nat.lt_succ_self _, rest, .yes y.f, hi, v, v4, _, rfl, rfl, kb.trans kk, a5, ?_, ?_, t5, t4.stay (a2.tup kk), po, pf, fun z hz => pm z (List.mem_cons_of_mem _ hz)⟩
        · rw [show i' + 1 + y.ws.length = i' + (("_" : Str) :: y.ws).length by rw [List.length_cons]; omega]
          exact g2
        · rw [← hl, List.flatMap_cons, List.length_append, show pcW (false, y) = ("_" : Str) :: y.ws from rfl, List.length_cons]
          omega
      | true =>
        have w3 : At ws i' ((("^" : Str) :: y.ws) ++ (rest.flatMap pcW ++ [x])) := by
          rw [List.flatMap_cons, List.append_assoc] at w3
          exact w3
        obtain ⟨g1, g2⟩ := at_app.mp w3
        obtain ⟨g0, g1⟩ := at_cons.mp g1
        obtain ⟨rfl, po⟩ := po
        refine g_if (b := false && false) (rt_and (pk g0 (by decide +kernel)) (fun z => nomatch z)) a2 (fun z => nomatch z) fun _ H2 k2 a2' => ?_
        refine g_if (b := true && true) (rt_and (pk g0 rfl) (fun _ => rt_none a2' rfl (t4.stay (a2.tup k2)))) a2' (fun _ H3 k3 a3 => ?_) (fun z => nomatch z)
        refine g_drop (r_call rfl (by decide +kernel) (by decide +kernel) (ra_pure fun _ _ => a_cons e_str a_nil) (⟨"^", rfl, rfl, g0, rfl⟩ : RAcc [.str "^"] ws i' (i' + 1) .none)) a3 fun H4 k4 a4 => ?_
        refine (r_call (R := RArg n) (H := H4) (j := i' + 1 + y.ws.length) (d := y.f.d) rfl (by decide +kernel) (by decide +kernel) (ra_pure fun _ _ => a_cons (e_op (e_var rfl (.int dep)) e_int r_I0i) a_nil) ⟨y, dep + 1, rfl, oky, by omega, by omega, g1, rfl, rfl⟩ : EvR K C p tl ws _ _ _ _ _ _) H4 (.refl _ _) a4 _ fun v H5 k5 a5 t5 => ?_
        have kk := ((k2.trans k3).trans k4).trans k5
        refine ⟨rest.length, Nat.lt_succ_self _, rest, lo, .yes y.f, v3, v, _, rfl, rfl, kb.trans kk, a5, ?_, ?_, t3.stay (a2.tup kk), t5, po, pf, fun z hz => pm z (List.mem_cons_of_mem _ hz)⟩
        · rw [show i' + 1 + y.ws.length = i' + (("^" : Str) :: y.ws).length by rw [List.length_cons]; omega]
          exact g2
        · rw [← hl, List.flatMap_cons, List.length_append, show pcW (true, y) = ("^" : Str) :: y.ws from rfl, List.length_cons]
          omega
end
end Mg

set_option Elab.async false
set_option linter.all false
set_option maxRecDepth 100000
set_option maxHeartbeats 1000000
namespace Mg
open PySem L2 StX
section
variable {P : Program} {w : World} {K : PySem.W.Frag} {mg : Str → Option Value} {base : Heap} {C : Addr}
theorem scRNucleus : FnScope ["self", "depth", "word", "over"] ["self", "depth"] (defScope sRNucleus) := ⟨rfl, rfl, rfl, by decide +kernel, rfl, by decide +kernel, by decide +kernel⟩
theorem ok_rnucleus {n : Nat} {f : Addr} {fd : FuncData} (F : Fun K "_nucleus" "Reader._nucleus" sRNucleus f fd) (T : TxtRd K mg C) (C_peek : CalM P w K mg base CX0 1 C "_peek" ["self"] (spRd K C RPeek)) (C_accept : CalM P w K mg base CX0 1 C "_accept" ["self", "wanted"] (spRd K C RAcc)) (C_symbol : CalM P w K mg base CX0 3 C "_symbol" ["self"] (spRd K C RSym))
    (C_braced : CalM P w K mg base CX0 (6 * n + 5) C "_braced" ["self", "depth"] (spRd K C (RBraced n))) (C_argument : CalM P w K mg base CX0 (6 * n + 6) C "_argument" ["self", "depth"] (spRd K C (RArg n))) (C_fence : CalM P w K mg base CX0 (6 * n + 5) C "_fence" ["self", "depth"] (spRd K C (RFence n))) (C_grid : CalM P w K mg base CX0 (6 * n + 6) C "_grid" ["self", "depth"] (spRd K C (RGrid n))) :
    FnOk P w K mg base CX0 (6 * n + 7) f fd ["self", "depth"] (spRd K C (RNuc n)) := by
  have sc := scRNucleus
  refine F.ok scRNucleus (fun vs H Q E h => ?_) (fun cdv A outer s H vs Q E hr h => ?_)
  · obtain ⟨p, tl, ws, i, j, us, ds, d, rfl, l, a, ⟨r, dep, rfl, _⟩, _⟩ := h
    cases l with
    | cons _ l => cases l; rfl
  · obtain ⟨p, tl, ws, i, j, us, ds, d, rfl, l, a, ⟨r, dep, rfl, ok, hn, hd, hw, rfl, rfl⟩, k⟩ := h
    cases l with
    | cons t l => cases l with
    | nil =>
    cases tp_int t
    refine ⟨_, (pss_cons (ps_set (i := 2) sc.nd rfl (Or.inl rfl) (pe_calm0 (pv 0) T.cl C_peek (hr.mono (by omega)) pass0))
  (pss_cons (ps_if (pt_cmpR op_eq (pv 2) pe_str (nomark _))
  (pss_one (ps_ret (pe_tup (pa_cons pe_str (pa_cons (pe_calm (pv 0) T.cl C_braced (hr.mono (by omega)) pass0 (pa_cons (pe_op op_add (pv 1) pe_int) pa_nil)) pa_nil)))))
  pss_nil)
  (pss_cons (ps_if (pt_cmpR op_eq (pv 2) pe_str (nomark _))
  (pss_cons (ps_expr (pe_calm (pv 0) T.cl C_accept (hr.mono (by omega)) pass0 (pa_cons pe_str pa_nil)))
  (pss_cons (ps_set (i := 3) sc.nd rfl (Or.inl rfl) (pe_calm (pv 0) T.cl C_argument (hr.mono (by omega)) pass0 (pa_cons (pe_op op_add (pv 1) pe_int) pa_nil)))
  (pss_one (ps_ret (pe_tup (pa_cons pe_str (pa_cons (pv 3) (pa_cons (pe_calm (pv 0) T.cl C_argument (hr.mono (by omega)) pass0 (pa_cons (pe_op op_add (pv 1) pe_int) pa_nil)) pa_nil))))))))
  pss_nil)
  (pss_cons (ps_if (pt_cmpR op_eq (pv 2) pe_str (nomark _))
  (pss_cons (ps_expr (pe_calm (pv 0) T.cl C_accept (hr.mono (by omega)) pass0 (pa_cons pe_str pa_nil)))
  (pss_one (ps_ret (pe_tup (pa_cons pe_str (pa_cons (pe_calm (pv 0) T.cl C_argument (hr.mono (by omega)) pass0 (pa_cons (pe_op op_add (pv 1) pe_int) pa_nil)) pa_nil))))))
  pss_nil)
  (pss_cons (ps_if (pt_cmpR op_eq (pv 2) pe_str (nomark _))
  (pss_one (ps_ret (pe_calm (pv 0) T.cl C_fence (hr.mono (by omega)) pass0 (pa_cons (pe_op op_add (pv 1) pe_int) pa_nil))))
  pss_nil)
  (pss_cons (ps_if (pt_cmpR op_eq (pv 2) pe_str (nomark _))
  (pss_one (ps_ret (pe_calm (pv 0) T.cl C_grid (hr.mono (by omega)) pass0 (pa_cons (pe_op op_add (pv 1) pe_int) pa_nil))))
  pss_nil)
  (pss_one (ps_ret (pe_tup (pa_cons pe_str (pa_cons (pe_calm0 (pv 0) T.cl C_symbol (hr.mono (by omega)) pass0) pa_nil))))))))))), ?_⟩
    have st : ∀ {y : Str} {tz : TS} {D : Ends}, ws[i]? = some y → (∀ v H1, KeepB p H H1 → RdAt K C p tl ws i H1 → v = .str y → tz D (List.set (L2.start ["self", "depth", "word", "over"] [.ref p, .int dep]) 2 (some v)) H1) → tSeq (tAsg (tMeth C "_peek" (spRd K C RPeek) [] E0 (tVar 0) tNil) (gName 2)) tz D (L2.start ["self", "depth", "word", "over"] [.ref p, .int dep]) H := fun hy h =>
      g_set (r_call rfl (by decide +kernel) (by decide +kernel) ra_nil (⟨rfl, rfl, _, hy, rfl⟩ : RPeek [] ws i i (.str _))) a fun v H1 k1 a1 t1 => h v H1 k1 a1 (tp_str t1)
    cases r with
    | sym x =>
      have sx : Sy x := ok
      have hx : ws[i]? = some x := (at_cons.mp hw).1
      refine st hx fun v H1 k1 a1 e => ?_
      subst e
      refine q_noS rfl (sy_ne sx (by decide +kernel)) (q_noS rfl (sy_ne sx (by decide +kernel)) (q_noS rfl (sy_ne sx (by decide +kernel)) (q_noS rfl (sy_ne sx (by decide +kernel)) (q_noS rfl (sy_ne sx (by decide +kernel)) ?_))))
      exact g_ret (r_tup (ds := [.str "symbol", .str x]) (ra_cons (r_pure fun _ _ => e_str) (ra_cons (r_call rfl (by decide +kernel) (by decide +kernel) ra_nil (⟨rfl, rfl, x, hx, sx, rfl⟩ : RSym [] ws i (i + 1) (.str x))) ra_nil)) (Nat.le_of_ble_eq_true rfl)) a1 fun v H2 k2 a2 t2 => k v H2 (k1.trans k2) a2 t2
    | group r =>
      refine st (at_cons.mp hw).1 fun v H1 k1 a1 e => ?_
      subst e
      refine q_yesS rfl ?_
      have hn : r.h + 1 ≤ n := hn
      have hd : dep + ((r.h + 1 : Nat) : Int) ≤ 7 := hd
      refine g_ret (r_tup (ds := [.str "group", r.f.d]) (ra_cons (r_pure fun _ _ => e_str) (ra_cons (r_call rfl (by decide +kernel) (by decide +kernel) (ra_pure fun _ _ => a_cons (e_op (e_var rfl (.int dep)) e_int r_I0i) a_nil) (⟨r, dep + 1, rfl, ok, by omega, by omega, hw, rfl, rfl⟩ : RBraced n [.int (dep + 1)] ws i (i + (r.ws.length + 2)) r.f.d)) ra_nil)) (Nat.le_of_ble_eq_true rfl)) a1 fun v H2 k2 a2 t2 => k v H2 (k1.trans k2) ?_ t2
      rw [show (CNuc.group r).ws.length = r.ws.length + 2 by simp [CNuc.ws]]
      exact a2
    | frac o u =>
      obtain ⟨w1, w2⟩ := at_cons.mp hw
      obtain ⟨w2, w3⟩ := at_app.mp w2
      refine st w1 fun v H1 k1 a1 e => ?_
      subst e
      refine q_noS rfl (by decide +kernel) (q_yesS rfl ?_)
      have hn : max (o.h + 1) (u.h + 1) ≤ n := hn
      have hd : dep + ((max (o.h + 1) (u.h + 1) : Nat) : Int) ≤ 7 := hd
      refine g_drop (r_call rfl (by decide +kernel) (by decide +kernel) (ra_pure fun _ _ => a_cons e_str a_nil) (⟨"@frac", rfl, rfl, w1, rfl⟩ : RAcc [.str "@frac"] ws i (i + 1) .none)) a1 fun H2 k2 a2 => ?_
      refine g_set (r_call rfl (by decide +kernel) (by decide +kernel) (ra_pure fun _ _ => a_cons (e_op (e_var rfl (.int dep)) e_int r_I0i) a_nil) (⟨o, dep + 1, rfl, ok.1, by omega, by omega, w2, rfl, rfl⟩ : RArg n [.int (dep + 1)] ws (i + 1) (i + 1 + o.ws.length) o.f.d)) a2 fun v3 H3 k3 a3 t3 => ?_
      refine g_ret (r_tup (ds := [.str "frac", o.f.d, u.f.d]) (ra_cons (r_pure fun _ _ => e_str) (ra_cons (r_var a3 rfl t3) (ra_cons (r_call rfl (by decide +kernel) (by decide +kernel) (ra_pure fun _ _ => a_cons (e_op (e_var rfl (.int dep)) e_int r_I0i) a_nil) (⟨u, dep + 1, rfl, ok.2, by omega, by omega, w3, rfl, rfl⟩ : RArg n [.int (dep + 1)] ws (i + 1 + o.ws.length) (i + 1 + o.ws.length + u.ws.length) u.f.d)) ra_nil))) (Nat.le_of_ble_eq_true rfl)) a3 fun v H4 k4 a4 t4 => k v H4 (((k1.trans k2).trans k3).trans k4) ?_ t4
      rw [show (CNuc.frac o u).ws.length = o.ws.length + u.ws.length + 1 by simp [CNuc.ws], show i + (o.ws.length + u.ws.length + 1) = i + 1 + o.ws.length + u.ws.length by omega]
      exact a4
    | root r =>
      obtain ⟨w1, w2⟩ := at_cons.mp hw
      refine st w1 fun v H1 k1 a1 e => ?_
      subst e
      refine q_noS rfl (by decide +kernel) (q_noS rfl (by decide +kernel) (q_yesS rfl ?_))
      have hn : r.h + 1 ≤ n := hn
      have hd : dep + ((r.h + 1 : Nat) : Int) ≤ 7 := hd
      refine g_drop (r_call rfl (by decide +kernel) (by decide +kernel) (ra_pure fun _ _ => a_cons e_str a_nil) (⟨"@root", rfl, rfl, w1, rfl⟩ : RAcc [.str "@root"] ws i (i + 1) .none)) a1 fun H2 k2 a2 => ?_
      refine g_ret (r_tup (ds := [.str "root", r.f.d]) (ra_cons (r_pure fun _ _ => e_str) (ra_cons (r_call rfl (by decide +kernel) (by decide +kernel) (ra_pure fun _ _ => a_cons (e_op (e_var rfl (.int dep)) e_int r_I0i) a_nil) (⟨r, dep + 1, rfl, ok, by omega, by omega, w2, rfl, rfl⟩ : RArg n [.int (dep + 1)] ws (i + 1) (i + 1 + r.ws.length) r.f.d)) ra_nil)) (Nat.le_of_ble_eq_true rfl)) a2 fun v H3 k3 a3 t3 => k v H3 ((k1.trans k2).trans k3) ?_ t3
      rw [show (CNuc.root r).ws.length = r.ws.length + 1 by simp [CNuc.ws], show i + (r.ws.length + 1) = i + 1 + r.ws.length by omega]
      exact a3
    | fence o c r =>
      obtain ⟨w1, w2⟩ := at_cons.mp hw
      refine st w1 fun v H1 k1 a1 e => ?_
      subst e
      refine q_noS rfl (by decide +kernel) (q_noS rfl (by decide +kernel) (q_noS rfl (by decide +kernel) (q_yesS rfl ?_)))
      have hn : r.h + 1 ≤ n := hn
      have hd : dep + ((r.h + 1 : Nat) : Int) ≤ 7 := hd
      exact g_ret (r_call rfl (by decide +kernel) (by decide +kernel) (ra_pure fun _ _ => a_cons (e_op (e_var rfl (.int dep)) e_int r_I0i) a_nil) (⟨o, c, r, dep + 1, rfl, ok.1, ok.2.1, ok.2.2, by omega, by omega, hw, rfl, rfl⟩ : RFence n [.int (dep + 1)] ws i _ _)) a1 fun v H3 k3 a3 t3 => k v H3 (k1.trans k3) a3 t3
    | grid g =>
      obtain ⟨w1, w2⟩ := at_cons.mp hw
      refine st w1 fun v H1 k1 a1 e => ?_
      subst e
      refine q_noS rfl (by decide +kernel) (q_noS rfl (by decide +kernel) (q_noS rfl (by decide +kernel) (q_noS rfl (by decide +kernel) (q_yesS rfl ?_))))
      have hn : g.h ≤ n := hn
      have hd : dep + ((g.h : Nat) : Int) ≤ 7 := hd
      exact g_ret (r_call rfl (by decide +kernel) (by decide +kernel) (ra_pure fun _ _ => a_cons (e_op (e_var rfl (.int dep)) e_int r_I0i) a_nil) (⟨g, dep + 1, rfl, ok, by omega, by omega, hw, rfl, rfl⟩ : RGrid n [.int (dep + 1)] ws i _ _)) a1 fun v H3 k3 a3 t3 => k v H3 (k1.trans k3) a3 t3
theorem e_lenV {σ : L2.St} {H : Hp} {n m : Nat} {q : Addr} {xs : List V} {r : List V → Hp → VK → Prop} (hr : ∀ p xs H Q, (SqL K H p xs ∨ SqT K H p xs) → Q (V.int xs.length) H → r [.ref p] H Q) (hq : σ[n]? = some (some (.ref q))) (e : H q = some (.lst xs)) (hm : xs.length = m) : EvD K (tCB r (tCons (tVar n) tNil)) σ H (.int (m : Int)) := fun H1 s Q q' =>
  ⟨_, hq, hr _ xs _ _ (.inl (SqL.of (s _ _ e))) (by rw [hm]; exact q' _ H1 (.refl _) (.int _))⟩
theorem scRCells : FnScope ["self", "depth", "many", "ends", "cells"] ["self", "depth", "many", "ends"] (defScope sRCells) := ⟨rfl, rfl, rfl, by decide +kernel, rfl, by decide +kernel, by decide +kernel⟩
theorem ok_rcells {n : Nat} {f : Addr} {fd : FuncData} (F : Fun K "_cells" "Reader._cells" sRCells f fd) (T : TxtRd K mg C) (C_peek : CalM P w K mg base CX0 1 C "_peek" ["self"] (spRd K C RPeek)) (C_accept : CalM P w K mg base CX0 1 C "_accept" ["self", "wanted"] (spRd K C RAcc)) (C_cell_stops : Cal P w K mg base CX0 1 "cell_stops" ["count", "many", "ends"] (spR K RStops))
    (C_row : CalM P w K mg base CX0 (6 * n + 4) C "_row" ["self", "depth", "stops"] (spRd K C (RRow n))) : FnOk P w K mg base CX0 (6 * n + 5) f fd ["self", "depth", "many", "ends"] (spRd K C (RCells n)) := by
  have sc := scRCells
  refine F.ok scRCells (fun vs H Q E h => ?_) (fun cdv A outer s H vs Q E hr h => ?_)
  · obtain ⟨p, tl, ws, i, j, us, ds, d, rfl, l, a, ⟨rs, dep, m, ends, rfl, _⟩, _⟩ := h
    cases l with
    | cons _ l => cases l with
    | cons _ l => cases l with
    | cons _ l => cases l; rfl
  · obtain ⟨p, tl, ws, i, j, us, ds, d, rfl, l, a, ⟨rs, dep, m, ends, rfl, hst, he5, h1, h6, hr1, hm, ⟨x, hx, xa, hw⟩, rfl, rfl⟩, k⟩ := h
    cases l with
    | cons t l => cases l with
    | cons tm l => cases l with
    | cons te l => cases l with
    | nil =>
    cases tp_int t
    rename_i vm ve
    refine ⟨_, (pss_cons (ps_set (i := 4) sc.nd rfl (Or.inl rfl) (pe_lst pa_nil))
  (pss_one (ps_while PassesOwn.never (pt_val pe_bl)
  (pss_cons (ps_expr (pe_bm PySem.F.plainAttrs_list PySem.F.slot_list_append PySem.F.type_list_append mt_append (pv 4) (pa_cons (pe_calm (pv 0) T.cl C_row (hr.mono (by omega)) pass0 (pa_cons (pv 1) (pa_cons (pe_cal C_cell_stops (hr.mono (by omega)) rfl pass0 (pa_cons (pe_op op_add (pe_callB call_len_sq (by rfl) T.b_len PySem.boot_len (pa_cons (pv 4) pa_nil)) pe_int) (pa_cons (pv 2) (pa_cons (pv 3) pa_nil)))) pa_nil))) pa_nil)))
  (pss_cons (ps_if (pt_cmpR op_ne (pe_calm0 (pv 0) T.cl C_peek (hr.mono (by omega)) pass0) pe_str (nomark _))
  (pss_one (ps_ret (pe_callTy call_tuple_of (by rfl) T.b_tuple (by decide +kernel) (pa_cons (pv 4) pa_nil))))
  pss_nil)
  (pss_one (ps_expr (pe_calm (pv 0) T.cl C_accept (hr.mono (by omega)) pass0 (pa_cons pe_str pa_nil))))))))), ?_⟩
    refine ⟨Nat.zero_le _, fun q nq => ?_⟩
    have ne1 : q ≠ p := fun e => by
      obtain ⟨dx, hp⟩ := a.ob
      rw [e, hp] at nq
      cases nq
    have ne2 : q ≠ tl := fun e => by
      obtain ⟨xs, hp, _⟩ := a.tk
      rw [e, hp] at nq
      cases nq
    refine ⟨fun m' σ H' => ∃ (done rest : List CRow) (r : CRow) (xs : List V) (i' : Nat), m' = rest.length ∧ rs = done ++ r :: rest ∧ σ = [some (.ref p), some (.int dep), some vm, some ve, some (.ref q)] ∧ KeepB p H H' ∧ RdAt K C p tl ws i' H' ∧ At ws i' (cellW (r :: rest) ++ [x]) ∧ i' + (cellW (r :: rest)).length = i + (cellW rs).length ∧ H' q = some (.lst xs) ∧ TpL K H' xs (done.map fun z => z.f.d), ?_, ?_⟩
    · cases rs with
      | nil => simp at h1
      | cons r rest => exact ⟨_, [], rest, r, [], i, rfl, rfl, rfl, KeepB.of (same_new nq), a.same (same_new nq), hw, rfl, upd_same, .nil⟩
    rintro m' σ H' ⟨done, rest, r, xs, i', rfl, er, rfl, kb, a1, hw1, hl, eq, lx⟩
    refine ⟨true, rfl, iteP rfl ?_⟩
    refine ⟨_, fun σ' H'' h => h, ?_⟩
    have tm1 := tm.stay (a.tup kb)
    have te1 := te.stay (a.tup kb)
    obtain ⟨okr, hr2, hr3⟩ := hr1 r (by rw [er]; simp)
    have ld : done.length + (rest.length + 1) = rs.length := by rw [er, List.length_append, List.length_cons]
    rw [show cellW (r :: rest) = r.ws ++ restW rest from rfl, List.append_assoc] at hw1
    obtain ⟨g1, g2⟩ := at_app.mp hw1
    obtain ⟨stops, hs, hsd, y, hy, gy⟩ : ∃ (stops : List Str) (hs : ∀ z ∈ stops, z ∈ stopWs) (_ : RStops [.int ((done.length : Int) + 1), m, .tuple (ends.map .str)] (.tuple (stops.map .str))) (y : Str), y ∈ stops ∧ ws[i' + r.ws.length]? = some y := by
      cases rest with
      | nil =>
        have gx : ws[i' + r.ws.length]? = some x := (at_cons.mp g2).1
        rcases hm with rfl | rfl
        · by_cases c : (done.length : Int) + 1 < 6
          · refine ⟨"&" :: ends, fun z hz => ?_, ⟨_, _, ends, rfl, by omega, .inl ⟨rfl, by rw [if_pos c]⟩⟩, x, List.mem_cons_of_mem _ hx, gx⟩
            rcases List.mem_cons.mp hz with rfl | hz
            · decide +kernel
            · exact hst z hz
          · exact ⟨ends, hst, ⟨_, _, ends, rfl, by omega, .inl ⟨rfl, by rw [if_neg c]⟩⟩, x, hx, gx⟩
        · refine ⟨ends, hst, ⟨_, _, ends, rfl, by omega, .inr ⟨_, rfl, ?_⟩⟩, x, hx, gx⟩
          rw [if_neg (by rw [List.length_nil] at ld; omega)]
      | cons r2 rest =>
        have gx : ws[i' + r.ws.length]? = some "&" := (at_cons.mp g2).1
        rcases hm with rfl | rfl
        · have c : (done.length : Int) + 1 < 6 := by rw [List.length_cons] at ld; omega
          refine ⟨"&" :: ends, fun z hz => ?_, ⟨_, _, ends, rfl, by omega, .inl ⟨rfl, by rw [if_pos c]⟩⟩, "&", List.mem_cons_self, gx⟩
          rcases List.mem_cons.mp hz with rfl | hz
          · decide +kernel
          · exact hst z hz
        · refine ⟨["&"], by decide +kernel, ⟨_, _, ends, rfl, by omega, .inr ⟨_, rfl, ?_⟩⟩, "&", List.mem_cons_self, gx⟩
          rw [if_pos (by rw [List.length_cons] at ld; omega)]
          rfl
    have wr : At ws i' (r.ws ++ [y]) := at_app.mpr ⟨g1, at_cons.mpr ⟨gy, at_nil⟩⟩
    refine g_app (n := 4) rfl eq lx ne1 ne2 (r_call (R := RRow n) (k := i') (j := i' + r.ws.length) (d := r.f.d) rfl (by decide +kernel) (by decide +kernel) (ra_pure fun H2 k2 => a_cons (e_var rfl (.int dep)) (a_cons (e_call (a_cons (e_op (e_lenV (fun p ys H Q h k => ⟨p, ys, rfl, h, fun _ => k⟩) rfl (k2 _ _ eq ne1) (by rw [lx.len, List.length_map])) e_int r_I0i) (a_cons (e_var rfl (tm1.stay (a1.tup k2))) (a_cons (e_var rfl (te1.stay (a1.tup k2))) a_nil))) hsd) a_nil)) ⟨r, dep, stops, rfl, hs, okr, hr2, hr3, ⟨y, hy, wr⟩, rfl, rfl⟩) a1 (by rw [List.length_map]; omega) fun v H3 k3 a3 l3 => ?_
    have kb3 : KeepB p H (upd H3 q (.lst (xs ++ [v]))) := keepB_new (kb.trans k3) nq
    have eq3 : upd H3 q (.lst (xs ++ [v])) q = some (.lst (xs ++ [v])) := upd_same
    have pk : ∀ {y : Str} {H4 : Hp}, ws[i' + r.ws.length]? = some y → EvRT K C p tl ws (tTest (tOp rNe (tMeth C "_peek" (spRd K C RPeek) [] E0 (tVar 0) tNil) (tC (.str "&")))) [some (.ref p), some (.int dep), some vm, some ve, some (.ref q)] H4 (i' + r.ws.length) (!decide (y = "&")) := fun hy =>
      rt_eq (r_call rfl (by decide +kernel) (by decide +kernel) ra_nil ⟨rfl, rfl, _, hy, rfl⟩) r_neS
    cases rest with
    | nil =>
      have gx : ws[i' + r.ws.length]? = some x := (at_cons.mp g2).1
      refine g_when (pk gx) a3 (fun _ H5 k5 a5 => ?_) (fun z => absurd z (by simpa using xa))
      have eq5 := k5 _ _ eq3 ne1
      refine ⟨_, rfl, q, _, rfl, .inl ⟨SqL.of eq5, fun c hc => ?_⟩⟩
      refine k _ _ ((kb3.trans k5).trans (.of (same_new hc))) ?_ ?_
      · rw [← hl, show (cellW [r]).length = r.ws.length by rw [show cellW [r] = r.ws ++ [] from rfl, List.append_nil]]
        exact a5.same (same_new hc)
      · rw [er, List.map_append]
        exact .mk (SqT.of upd_same) ((l3.stay (a3.tup k5)).stay (.of (same_new hc)))
    | cons r2 rest =>
      have g2 : At ws (i' + r.ws.length) (("&" : Str) :: (cellW (r2 :: rest) ++ [x])) := g2
      obtain ⟨gx, g3⟩ := at_cons.mp g2
      refine g_when (pk gx) a3 (fun z => absurd z (by decide +kernel)) (fun _ H5 k5 a5 => ?_)
      refine g_dropE (r_call rfl (by decide +kernel) (by decide +kernel) (ra_pure fun _ _ => a_cons e_str a_nil) (⟨"&", rfl, rfl, gx, rfl⟩ : RAcc [.str "&"] ws (i' + r.ws.length) (i' + r.ws.length + 1) .none)) a5 fun H6 k6 a6 => ?_
      refine ⟨rest.length, Nat.lt_succ_self _, done ++ [r], rest, r2, _, _, rfl, by rw [er, List.append_assoc]; rfl, rfl, (kb3.trans k5).trans k6, a6, g3, ?_, k6 _ _ (k5 _ _ eq3 ne1) ne1, ?_⟩
      · rw [← hl, show cellW (r :: r2 :: rest) = r.ws ++ (("&" : Str) :: cellW (r2 :: rest)) from rfl, List.length_append, List.length_cons]
        omega
      · rw [List.map_append]
        exact (l3.stay (a3.tup k5)).stay (a5.tup k6)
end
end Mg

set_option Elab.async false
set_option linter.all false
set_option maxRecDepth 100000
set_option maxHeartbeats 1000000
namespace Mg
open PySem L2 StX
def lineW : List CCells → List Str
  | [] => []
  | c :: cs => "~" :: (cellW c.rows ++ lineW cs)
theorem grid_lineW : ∀ g : CGrid, (∀ c ∈ g.lines, c.rows ≠ []) → g.ws "~" = lineW g.lines
  | .nil, _ => rfl
  | .cons c g, h => by
    rw [CGrid.ws, CGrid.lines, lineW, grid_lineW g fun c hc => h c (List.mem_cons_of_mem _ hc), cells_cellW c (h c List.mem_cons_self)]
    rfl
section
variable {P : Program} {w : World} {K : PySem.W.Frag} {mg : Str → Option Value} {base : Heap} {C : Addr}
theorem g_setLst {n : Nat} {p tl : Addr} {ws : List Str} {i j : Nat} {σ : L2.St} {H : Hp} {tas : TA} {ds : List PyData} {tz : TS} {D : Ends} (h : EvRA K C p tl ws tas σ H i j ds) (a : RdAt K C p tl ws i H) (hl : ds.length ≤ 1000) (q : ∀ vs H' r, KeepB p H H' → RdAt K C p tl ws j H' → TpL K H' vs ds → H' r = none → tz D (σ.set n (some (.ref r))) (upd H' r (.lst vs))) : tSeq (tAsg (tLst tas) (gName n)) tz D σ H := h H (.refl _ _) a _ fun vs H' kb a' l =>
  ⟨by rw [l.len]; exact sz5 (by omega), fun r hr => q vs H' r kb a' l hr⟩
theorem scRGrid : FnScope ["self", "depth", "rows", "ends"] ["self", "depth"] (defScope sRGrid) := ⟨rfl, rfl, rfl, by decide +kernel, rfl, by decide +kernel, by decide +kernel⟩
theorem ok_rgrid {n : Nat} {f : Addr} {fd : FuncData} (F : Fun K "_grid" "Reader._grid" sRGrid f fd) (T : TxtRd K mg C) (C_peek : CalM P w K mg base CX0 1 C "_peek" ["self"] (spRd K C RPeek)) (C_accept : CalM P w K mg base CX0 1 C "_accept" ["self", "wanted"] (spRd K C RAcc))
    (C_cells : CalM P w K mg base CX0 (6 * n + 5) C "_cells" ["self", "depth", "many", "ends"] (spRd K C (RCells n))) : FnOk P w K mg base CX0 (6 * n + 6) f fd ["self", "depth"] (spRd K C (RGrid n)) := by
  have sc := scRGrid
  refine F.ok scRGrid (fun vs H Q E h => ?_) (fun cdv A outer s H vs Q E hr h => ?_)
  · obtain ⟨p, tl, ws, i, j, us, ds, d, rfl, l, a, ⟨g, dep, rfl, _⟩, _⟩ := h
    cases l with
    | cons _ l => cases l; rfl
  · obtain ⟨p, tl, ws, i, j, us, ds, d, rfl, l, a, ⟨g, dep, rfl, ok, hn, hd, hw, rfl, rfl⟩, k⟩ := h
    cases l with
    | cons t l => cases l with
    | nil =>
    cases tp_int t
    refine ⟨_, (pss_cons (ps_expr (pe_calm (pv 0) T.cl C_accept (hr.mono (by omega)) pass0 (pa_cons pe_str pa_nil)))
  (pss_cons (ps_expr (pe_calm (pv 0) T.cl C_accept (hr.mono (by omega)) pass0 (pa_cons pe_str pa_nil)))
  (pss_cons (ps_set (i := 2) sc.nd rfl (Or.inl rfl) (pe_lst (pa_cons (pe_calm (pv 0) T.cl C_cells (hr.mono (by omega)) pass0 (pa_cons (pv 1) (pa_cons pe_non (pa_cons (pe_tup (pa_cons pe_str (pa_cons pe_str pa_nil))) pa_nil)))) pa_nil)))
  (pss_cons (ps_while PassesOwn.never (pt_cmpR op_eq (pe_calm0 (pv 0) T.cl C_peek (hr.mono (by omega)) pass0) pe_str (nomark _))
  (pss_cons (ps_expr (pe_calm (pv 0) T.cl C_accept (hr.mono (by omega)) pass0 (pa_cons pe_str pa_nil)))
  (pss_cons (ps_set (i := 3) sc.nd rfl (Or.inl rfl) (pe_ifExp (pt_cmpR op_lt (pe_op op_add (pe_callB call_len_sq (by rfl) T.b_len PySem.boot_len (pa_cons (pv 2) pa_nil)) pe_int) (pe_gint rfl T.c_MOST_CELLS) (nomark _)) (pe_tup (pa_cons pe_str (pa_cons pe_str pa_nil))) (pe_tup (pa_cons pe_str pa_nil))))
  (pss_one (ps_expr (pe_bm PySem.F.plainAttrs_list PySem.F.slot_list_append PySem.F.type_list_append mt_append (pv 2) (pa_cons (pe_calm (pv 0) T.cl C_cells (hr.mono (by omega)) pass0 (pa_cons (pv 1) (pa_cons (pe_callB call_len_sq (by rfl) T.b_len PySem.boot_len (pa_cons (pe_ix ix_list (pv 2) pe_int (fun _ _ => rfl)) pa_nil)) (pa_cons (pv 3) pa_nil)))) pa_nil)))))))
  (pss_cons (ps_expr (pe_calm (pv 0) T.cl C_accept (hr.mono (by omega)) pass0 (pa_cons pe_str pa_nil)))
  (pss_one (ps_ret (pe_tup (pa_cons pe_str (pa_cons (pe_callTy call_tuple_of (by rfl) T.b_tuple (by decide +kernel) (pa_cons (pv 2) pa_nil)) pa_nil)))))))))), ?_⟩
    obtain ⟨gok, ⟨l1, l6⟩, m, m1, m6, hm⟩ := ok
    have gok := CGrid.ok_iff.mp gok
    have gh := (CGrid.h_le (n := g.h)).mp (Nat.le_refl _)
    have hrow : ∀ c ∈ g.lines, ∀ r ∈ c.rows, r.ok ∧ r.h < n ∧ dep + (r.h : Int) ≤ 7 := fun c hc r hr => by
      have h1 := CCells.ok_iff.mp (gok c hc) r hr
      have h2 := (CCells.h_le.mp (gh c hc)) r hr
      exact ⟨h1, by omega, by omega⟩
    have hne : ∀ c ∈ g.lines, c.rows ≠ [] := fun c hc e => by
      have := hm c hc
      rw [e, List.length_nil] at this
      omega
    cases g with
    | nil => simp [CGrid.lines] at l1
    | cons c0 g0 =>
    have hm0 : ∀ c ∈ g0.lines, c.rows.length = m := fun c hc => hm c (List.mem_cons_of_mem _ hc)
    have ew : (CNuc.grid (.cons c0 g0)).ws = ("@grid" : Str) :: ("{" : Str) :: (cellW c0.rows ++ (lineW g0.lines ++ [("}" : Str)])) := by
      show ("@grid" : Str) :: ((c0.ws "{" ++ g0.ws "~") ++ [("}" : Str)]) = _
      rw [cells_cellW c0 (hne c0 List.mem_cons_self), grid_lineW g0 fun c hc => hne c (List.mem_cons_of_mem _ hc), List.append_assoc]
      rfl
    rw [ew] at hw k
    obtain ⟨w1, w2⟩ := at_cons.mp hw
    obtain ⟨w2, w3⟩ := at_cons.mp w2
    obtain ⟨w3, w4⟩ := at_app.mp w3
    refine g_drop (r_call rfl (by decide +kernel) (by decide +kernel) (ra_pure fun _ _ => a_cons e_str a_nil) (⟨"@grid", rfl, rfl, w1, rfl⟩ : RAcc [.str "@grid"] ws i (i + 1) .none)) a fun H1 k1 a1 => ?_
    refine g_drop (r_call rfl (by decide +kernel) (by decide +kernel) (ra_pure fun _ _ => a_cons e_str a_nil) (⟨"{", rfl, rfl, w2, rfl⟩ : RAcc [.str "{"] ws (i + 1) (i + 1 + 1) .none)) a1 fun H2 k2 a2 => ?_
    have nextW : ∀ (cs : List CCells) (i' : Nat), At ws i' (lineW cs ++ [("}" : Str)]) → ∃ y : Str, ws[i']? = some y ∧ y ≠ "&" ∧ (y = "~" ∧ cs ≠ [] ∨ y = "}") := fun cs i' h => by
      cases cs with
      | nil => exact ⟨"}", (at_cons.mp h).1, by decide +kernel, .inr rfl⟩
      | cons c cs =>
        have h : At ws i' (("~" : Str) :: ((cellW c.rows ++ lineW cs) ++ [("}" : Str)])) := h
        exact ⟨"~", (at_cons.mp h).1, by decide +kernel, .inl ⟨rfl, by simp⟩⟩
    have cellAt : ∀ {i' : Nat} {y : Str} {rs : List CRow}, At ws i' (cellW rs) → ws[i' + (cellW rs).length]? = some y → At ws i' (cellW rs ++ [y]) := fun h1 h2 => at_app.mpr ⟨h1, at_cons.mpr ⟨h2, at_nil⟩⟩
    obtain ⟨y0, hy0, hy1, hy2⟩ := nextW _ _ w4
    have e1 : ∀ {σ : L2.St} {H : Hp}, EvD K (tTup (tCons (tC (.str "~")) (tCons (tC (.str "}")) tNil))) σ H (.tuple ([("~" : Str), "}"].map .str)) := e_tup (a_cons e_str (a_cons e_str a_nil)) (by decide)
    have e2 : ∀ {σ : L2.St} {H : Hp}, EvD K (tTup (tCons (tC (.str "}")) tNil)) σ H (.tuple ([("}" : Str)].map .str)) := e_tup (a_cons e_str a_nil) (by decide)
    have hc0 := hm c0 List.mem_cons_self
    have R0 : RCells n [.int dep, .none, .tuple ([("~" : Str), "}"].map .str)] ws (i + 1 + 1) (i + 1 + 1 + (cellW c0.rows).length) c0.f.d := by
      refine ⟨c0.rows, dep, .none, ["~", "}"], rfl, by decide +kernel, by decide, by omega, by omega, hrow c0 List.mem_cons_self, .inl rfl, ⟨y0, ?_, hy1, cellAt w3 hy0⟩, rfl, ?_⟩
      · rcases hy2 with ⟨rfl, _⟩ | rfl <;> decide +kernel
      · show PyData.tuple c0.f.ds = _
        rw [CCells.ds_eq]
    refine g_setLst (ra_cons (r_call (R := RCells n) rfl (by decide +kernel) (by decide +kernel) (ra_pure fun H3 k3 => a_cons (e_var rfl (.int dep)) (a_cons e_non (a_cons e1 a_nil))) R0) ra_nil) a2 (Nat.le_of_ble_eq_true rfl) fun vs H3 q k3 a3 l3 nq => ?_
    have kb3 := (k1.trans k2).trans k3
    have nq0 : H q = none := by
      cases e : H q with
      | none => rfl
      | some o =>
        by_cases z : q = p
        · subst z
          obtain ⟨dx, hp⟩ := a3.ob
          rw [hp] at nq
          cases nq
        · rw [kb3 _ _ e z] at nq
          cases nq
    have ne1 : q ≠ p := fun e => by
      obtain ⟨dx, hp⟩ := a3.ob
      rw [e, hp] at nq
      cases nq
    have ne2 : q ≠ tl := fun e => by
      obtain ⟨xs, hp, _⟩ := a3.tk
      rw [e, hp] at nq
      cases nq
    refine ⟨fun m' σ H' => ∃ (done rest : List CCells) (xs : List V) (x3 : Option V) (i' : Nat), m' = rest.length ∧ g0.lines = done ++ rest ∧ σ = [some (.ref p), some (.int dep), some (.ref q), x3] ∧ KeepB p H H' ∧ RdAt K C p tl ws i' H' ∧ At ws i' (lineW rest ++ [("}" : Str)]) ∧ i' + (lineW rest).length = i + 1 + 1 + (cellW c0.rows).length + (lineW g0.lines).length ∧ H' q = some (.lst xs) ∧ TpL K H' xs ((c0 :: done).map fun z => z.f.d),
      ⟨_, [], g0.lines, _, none, _, rfl, rfl, rfl, kb3.trans (.of (same_new nq)), a3.same (same_new nq), w4, rfl, upd_same, l3.stay (.of (same_new nq))⟩, ?_⟩
    rintro m' σ H' ⟨done, rest, xs, x3, i', rfl, er, rfl, kb, a4, w5, hl, eq, lx⟩
    have ll : done.length + rest.length = g0.lines.length := by rw [er, List.length_append]
    have l7 : g0.lines.length + 1 ≤ 6 := l6
    have pk : ∀ {y : Str} {H : Hp} {b : Bool}, ws[i']? = some y → b = decide (y = "~") → EvRT K C p tl ws (tTest (tOp rEq (tMeth C "_peek" (spRd K C RPeek) [] E0 (tVar 0) tNil) (tC (.str "~")))) [some (.ref p), some (.int dep), some (.ref q), x3] H i' b := fun hy e =>
      e ▸ rt_eq (r_call rfl (by decide +kernel) (by decide +kernel) ra_nil ⟨rfl, rfl, _, hy, rfl⟩) r_eqS
    cases rest with
    | nil =>
      have gx : ws[i']? = some "}" := (at_cons.mp w5).1
      refine pk (b := false) gx (by decide +kernel) H' (.refl _ _) a4 _ fun H5 k5 a5 => ?_
      refine iteN (by decide) ?_
      refine g_drop (r_call rfl (by decide +kernel) (by decide +kernel) (ra_pure fun _ _ => a_cons e_str a_nil) (⟨"}", rfl, rfl, gx, rfl⟩ : RAcc [.str "}"] ws i' (i' + 1) .none)) a5 fun H6 k6 a6 => ?_
      have eq6 := k6 _ _ (k5 _ _ eq ne1) ne1
      rw [List.append_nil] at er
      refine ⟨_, rfl, q, xs, rfl, .inl ⟨SqL.of eq6, fun c hc => ?_⟩⟩
      refine ⟨(by show 2 ≤ sizeLine; decide), fun c2 hc2 => ?_⟩
      have s1 := same_new (H := H6) (o := .tup xs) hc
      have s2 := same_new (H := upd H6 c (.tup xs)) (o := .tup [.str "grid", .ref c]) hc2
      refine k _ _ ((((kb.trans k5).trans k6).trans (.of s1)).trans (.of s2)) ?_ ?_
      · rw [show i + (("@grid" : Str) :: ("{" : Str) :: (cellW c0.rows ++ (lineW g0.lines ++ [("}" : Str)]))).length = i' + 1 by
          rw [List.length_cons, List.length_cons, List.length_append, List.length_append, List.length_singleton]
          rw [show (lineW []).length = 0 from rfl] at hl
          omega]
        exact (a6.same s1).same s2
      · have lx6 := (lx.stay (a4.tup k5)).stay (a5.tup k6)
        refine .mk (ds := [.str "grid", .tuple (CGrid.cons c0 g0).f.ds]) (SqT.of upd_same) (.cons (.str _) (.one ?_))
        rw [CGrid.ds_eq, show (CGrid.cons c0 g0).lines = c0 :: g0.lines from rfl, er]
        exact (Tp.mk (SqT.of upd_same) (lx6.stay (.of s1))).stay (.of s2)
    | cons c rest =>
      have w5 : At ws i' (("~" : Str) :: ((cellW c.rows ++ lineW rest) ++ [("}" : Str)])) := w5
      obtain ⟨gx, w6⟩ := at_cons.mp w5
      rw [List.append_assoc] at w6
      obtain ⟨w6, w7⟩ := at_app.mp w6
      obtain ⟨y, hy, hya, hyb⟩ := nextW _ _ w7
      have mc : c ∈ g0.lines := by rw [er]; simp
      have hc := hm0 c mc
      refine pk (b := true) gx rfl H' (.refl _ _) a4 _ fun H5 k5 a5 => ?_
      refine iteP rfl ⟨_, fun σ' H'' h => h, ?_⟩
      refine g_drop (r_call rfl (by decide +kernel) (by decide +kernel) (ra_pure fun _ _ => a_cons e_str a_nil) (⟨"~", rfl, rfl, gx, rfl⟩ : RAcc [.str "~"] ws i' (i' + 1) .none)) a5 fun H6 k6 a6 => ?_
      have eq6 := k6 _ _ (k5 _ _ eq ne1) ne1
      have lx6 := (lx.stay (a4.tup k5)).stay (a5.tup k6)
      obtain ⟨ends, hends⟩ : ∃ ends : List Str, ends = if (done.length : Int) + 1 + 1 < 6 then [("~" : Str), "}"] else [("}" : Str)] := ⟨_, rfl⟩
      rw [List.length_cons] at ll
      refine q_set (K := K) (d := .tuple (ends.map .str)) (e_if (b := decide ((done.length : Int) + 1 + 1 < 6)) (t_test (e_op (e_op (e_lenV (m := done.length + 1) (fun p ys H Q h k => ⟨p, ys, rfl, h, fun _ => k⟩) rfl eq6 (by rw [lx6.len, List.length_map, List.length_cons])) e_int r_I0i) e_int r_I0b)) (fun z => ?_) fun z => ?_) fun v3 H7 s7 t7 => ?_
      · rw [hends, if_pos (of_decide_eq_true z)]
        exact e1
      · rw [hends, if_neg (of_decide_eq_false z)]
        exact e2
      have a7 := a6.same s7
      have eq7 := s7 _ _ eq6
      have lx7 := lx6.stay (.of s7)
      have R1 : RCells n [.int dep, .int ((c.rows.length : Nat) : Int), .tuple (ends.map .str)] ws (i' + 1) (i' + 1 + (cellW c.rows).length) c.f.d := by
        refine ⟨c.rows, dep, _, ends, rfl, ?_, ?_, by omega, by omega, hrow c (List.mem_cons_of_mem _ mc), .inr rfl, ⟨y, ?_, hya, cellAt w6 hy⟩, rfl, ?_⟩
        · rw [hends]
          split <;> decide +kernel
        · rw [hends]
          split <;> decide
        · rw [hends]
          rcases hyb with ⟨rfl, hr2⟩ | rfl
          · have : 1 ≤ rest.length := by
              cases rest with
              | nil => exact absurd rfl hr2
              | cons _ _ => simp
            rw [if_pos (by omega)]
            decide +kernel
          · split <;> decide +kernel
        · show PyData.tuple c.f.ds = _
          rw [CCells.ds_eq]
      have hix : EvD K (tOp (rIxL K) (tVar 2) (tC (.int 0))) [some (.ref p), some (.int dep), some (.ref q), some v3] H7 (.tuple (c0.f.ds)) := e_ixL rfl eq7 lx7 e_int atI0
      refine g_app (n := 2) rfl eq7 lx7 ne1 ne2 (r_call (R := RCells n) (k := i' + 1) (j := i' + 1 + (cellW c.rows).length) (d := c.f.d) rfl (by decide +kernel) (by decide +kernel) (ra_pure fun H8 k8 => a_cons (e_var rfl (.int dep)) (a_cons (e_is (e_lenT (fun p ys H Q h k => ⟨p, ys, rfl, h, fun _ => k⟩) (e_ixL rfl (k8 _ _ eq7 ne1) (lx7.stay (a7.tup k8)) e_int atI0)) (by rw [CCells.ds_eq, List.length_map, hc0, hc])) (a_cons (e_var rfl (t7.stay (a7.tup k8))) a_nil))) R1) a7 (by rw [List.length_map, List.length_cons]; omega) fun v H9 k9 a9 l9 => ?_
      refine ⟨rest.length, Nat.lt_succ_self _, done ++ [c], rest, _, _, _, rfl, by rw [er, List.append_assoc]; rfl, rfl, keepB_new ((((kb.trans k5).trans k6).trans (.of s7)).trans k9) nq0, a9, w7, ?_, upd_same, ?_⟩
      · rw [← hl, show lineW (c :: rest) = ("~" : Str) :: (cellW c.rows ++ lineW rest) from rfl, List.length_cons, List.length_append]
        omega
      · rw [← List.cons_append, List.map_append]
        exact l9
end
end Mg

set_option Elab.async false
set_option linter.all false
set_option maxRecDepth 100000
set_option maxHeartbeats 1000000
namespace Mg
open PySem L2 StX
section
variable {P : Program} {w : World} {K : PySem.W.Frag} {mg : Str → Option Value} {base : Heap} {C : Addr}
/-! __init__, read -/
theorem scRInit : FnScope ["self", "text"] ["self", "text"] (defScope sRInit) := ⟨rfl, rfl, rfl, by decide +kernel, rfl, by decide +kernel, by decide +kernel⟩
def spRInit (K : PySem.W.Frag) (C : Addr) : Sp := fun vs H Q _ => ∃ (p dx : Addr) (t : Str), vs = [.ref p, .str t] ∧ H p = some (.ins C dx []) ∧ t.length ≤ 1000 ∧ ∀ tl H', KeepB p H H' → RdAt K C p tl ((toksAt t.cps.toList 0).map Prod.snd) 0 H' → Q .non H'
theorem toks_len (l : List Nat) (n : Nat) (h : n ≤ l.length) : (toksAt l n).length ≤ l.length - n + 1 := by
  rw [toksAt.eq_1]
  by_cases c : n < l.length
  · rw [dif_pos c]
    split
    · have := toks_len l (n + 1) c
      omega
    · split
      · simp
      · rename_i hb
        obtain ⟨w1, w2⟩ := tokAt_len c hb
        have := toks_len l (n + max 1 (tokAt l n).length) (by omega)
        rw [List.length_cons]
        omega
  · rw [dif_neg c]
    simp
termination_by l.length - n
theorem ok_rinit {f : Addr} {fd : FuncData} (F : Fun K "__init__" "Reader.__init__" sRInit f fd) (T : TxtRd K mg C) (C_tokens_of : Cal P w K mg base CX0 4 "tokens_of" ["text"] (spTokensOf K)) : FnOk P w K mg base CX0 5 f fd ["self", "text"] (spRInit K C) := by
  have sc := scRInit
  refine F.ok scRInit (fun vs H Q E h => ?_) (fun cdv A outer s H vs Q E hr h => ?_)
  · obtain ⟨p, dx, t, rfl, _⟩ := h
    rfl
  · obtain ⟨p, dx, t, rfl, hp, ht, k⟩ := h
    refine ⟨_, (pss_cons (ps_fld (pv 0) (pe_cal C_tokens_of (hr.mono (by omega)) rfl pass0 (pa_cons (pv 1) pa_nil)) rfl)
  (pss_one (ps_fld (pv 0) pe_int rfl))), ?_⟩
    refine ⟨_, rfl, t, rfl, ht, fun tl xs H1 n1 s1 e1 tk => ?_⟩
    have hp1 := s1 _ _ hp
    have np : tl ≠ p := fun e => by
      rw [e, hp] at n1
      cases n1
    refine ⟨_, rfl, p, C, dx, _, rfl, hp1, T.cl, T.nT, by decide, ?_⟩
    refine ⟨_, rfl, p, C, dx, _, rfl, upd_same, T.cl, T.nA, (by show 1 < 1000; decide), ?_⟩
    have e0 : putF "_at" (.int 0) (putF "_tokens" (.ref tl) []) = rf tl 0 := rf_new tl 0
    rw [e0]
    have kb : KeepB p H (upd (upd H1 p (.ins C dx (putF "_tokens" (.ref tl) []))) p (.ins C dx (rf tl 0))) := ((KeepB.of s1).trans keep_upd).trans keep_upd
    have tup : TupK H1 (upd (upd H1 p (.ins C dx (putF "_tokens" (.ref tl) []))) p (.ins C dx (rf tl 0))) := fun b ys h => by
      have n : ∀ o, H1 b = some o → (∀ D x f, o ≠ .ins D x f) → b ≠ p := fun o e z q => by
        rw [q, hp1] at e
        exact z _ _ _ (Option.some.inj e).symm
      rcases h with h | ⟨o, h⟩
      · have nb := n _ h fun _ _ _ z => nomatch z
        exact .inl (by rw [upd_ne nb, upd_ne nb]; exact h)
      · have nb := n _ h fun _ _ _ z => nomatch z
        exact .inr ⟨o, by rw [upd_ne nb, upd_ne nb]; exact h⟩
    refine k tl _ kb ⟨⟨dx, upd_same⟩, ⟨xs, ?_, ?_, fun j v x h1 h2 => ?_⟩, ?_⟩
    · rw [upd_ne np, upd_ne np]
      exact e1
    · rw [tk.1, List.length_map]
    · obtain ⟨y, hy, rfl⟩ := get_map h2
      obtain ⟨b, rfl, sq⟩ := tk.2 j v y h1 hy
      exact ⟨b, _, rfl, tup.seq sq⟩
    · rw [List.length_map]
      have := toks_len t.cps.toList 0 (Nat.zero_le _)
      have e : t.length = t.cps.toList.length := rfl
      omega
theorem scRRead : FnScope ["self"] ["self"] (defScope sRRead) := ⟨rfl, rfl, rfl, by decide +kernel, rfl, by decide +kernel, by decide +kernel⟩
def RRead (n : Nat) : RR := fun ds ws i j d => ∃ (r : CRow), ds = [] ∧ i = 0 ∧ r.ok ∧ r.h < n ∧ r.h ≤ 7 ∧ At ws 0 (r.ws ++ [("end" : Str)]) ∧ j = r.ws.length ∧ d = r.f.d
theorem ok_rread {n : Nat} {f : Addr} {fd : FuncData} (F : Fun K "read" "Reader.read" sRRead f fd) (T : TxtRd K mg C) (C_row : CalM P w K mg base CX0 (6 * n + 4) C "_row" ["self", "depth", "stops"] (spRd K C (RRow n))) : FnOk P w K mg base CX0 (6 * n + 5) f fd ["self"] (spRd K C (RRead n)) := by
  have sc := scRRead
  refine F.ok scRRead (fun vs H Q E h => ?_) (fun cdv A outer s H vs Q E hr h => ?_)
  · obtain ⟨p, tl, ws, i, j, us, ds, d, rfl, l, a, ⟨r, rfl, _⟩, _⟩ := h
    cases l
    rfl
  · obtain ⟨p, tl, ws, i, j, us, ds, d, rfl, l, a, ⟨r, rfl, rfl, ok, hn, h7, hw, rfl, rfl⟩, k⟩ := h
    cases l
    refine ⟨_, (pss_one (ps_ret (pe_calm (pv 0) T.cl C_row (hr.mono (by omega)) pass0 (pa_cons pe_int (pa_cons (pe_tup (pa_cons (pe_gstr rfl T.c_END) pa_nil)) pa_nil))))), ?_⟩
    refine g_ret (r_call rfl (by decide +kernel) (by decide +kernel) (ra_pure fun _ _ => a_cons e_int (a_cons (e_tup (ds := [.str "end"]) (a_cons e_str a_nil) (by decide)) a_nil)) (⟨r, 0, ["end"], rfl, by decide +kernel, ok, hn, by omega, ⟨"end", by decide +kernel, hw⟩, (Nat.zero_add _).symm, rfl⟩ : RRow n _ ws 0 r.ws.length r.f.d)) a k
/-! all of them, by how deep rows lie in rows -/
structure ReadOk (P : Program) (w : World) (K : PySem.W.Frag) (mg : Str → Option Value) (base : Heap) (C : Addr) (n : Nat) : Prop where
  row : CalM P w K mg base CX0 (6 * n + 4) C "_row" ["self", "depth", "stops"] (spRd K C (RRow n))
def MC (K : PySem.W.Frag) (C : Addr) (m : Str) (f : Addr) (fd : FuncData) (ps : List Str) : Prop := Meth K C m f ∧ Binds K fd ps []
theorem read_ok {f1 f2 f3 f4 f5 f6 f7 f8 : Addr} {d1 d2 d3 d4 d5 d6 d7 d8 : FuncData} (T : TxtRd K mg C) (C_peek : CalM P w K mg base CX0 1 C "_peek" ["self"] (spRd K C RPeek)) (C_accept : CalM P w K mg base CX0 1 C "_accept" ["self", "wanted"] (spRd K C RAcc)) (C_symbol : CalM P w K mg base CX0 3 C "_symbol" ["self"] (spRd K C RSym)) (C_delimiter : CalM P w K mg base CX0 4 C "_delimiter" ["self"] (spRd K C RDelim))
    (C_check_depth : Cal P w K mg base CX0 1 "check_depth" ["depth"] spCheckDepth0) (C_cell_stops : Cal P w K mg base CX0 1 "cell_stops" ["count", "many", "ends"] (spR K RStops))
    (F1 : Fun K "_row" "Reader._row" sRRow f1 d1) (F2 : Fun K "_item" "Reader._item" sRItem f2 d2) (F3 : Fun K "_nucleus" "Reader._nucleus" sRNucleus f3 d3) (F4 : Fun K "_braced" "Reader._braced" sRBraced f4 d4) (F5 : Fun K "_argument" "Reader._argument" sArgument f5 d5) (F6 : Fun K "_fence" "Reader._fence" sRFence f6 d6) (F7 : Fun K "_grid" "Reader._grid" sRGrid f7 d7) (F8 : Fun K "_cells" "Reader._cells" sRCells f8 d8)
    (c1 : MC K C "_row" f1 d1 ["self", "depth", "stops"]) (c2 : MC K C "_item" f2 d2 ["self", "depth"]) (c3 : MC K C "_nucleus" f3 d3 ["self", "depth"]) (c4 : MC K C "_braced" f4 d4 ["self", "depth"]) (c5 : MC K C "_argument" f5 d5 ["self", "depth"]) (c6 : MC K C "_fence" f6 d6 ["self", "depth"]) (c7 : MC K C "_grid" f7 d7 ["self", "depth"]) (c8 : MC K C "_cells" f8 d8 ["self", "depth", "many", "ends"]) :
    ∀ n, CalM P w K mg base CX0 (6 * n + 4) C "_row" ["self", "depth", "stops"] (spRd K C (RRow n))
  | 0 => ⟨f1, d1, FnOk.vac fun vs H Q E ⟨_, _, _, _, _, _, _, _, _, _, _, ⟨_, _, _, _, _, _, h, _⟩, _⟩ => Nat.not_lt_zero _ h, c1.1, c1.2⟩
  | n + 1 => by
    have row := read_ok T C_peek C_accept C_symbol C_delimiter C_check_depth C_cell_stops F1 F2 F3 F4 F5 F6 F7 F8 c1 c2 c3 c4 c5 c6 c7 c8 n
    have braced : CalM P w K mg base CX0 (6 * n + 5) C "_braced" ["self", "depth"] (spRd K C (RBraced n)) := ⟨f4, d4, ok_rbraced F4 T C_accept row, c4.1, c4.2⟩
    have arg : CalM P w K mg base CX0 (6 * n + 6) C "_argument" ["self", "depth"] (spRd K C (RArg n)) := ⟨f5, d5, ok_argument F5 T C_peek C_symbol C_check_depth braced, c5.1, c5.2⟩
    have fence : CalM P w K mg base CX0 (6 * n + 5) C "_fence" ["self", "depth"] (spRd K C (RFence n)) := ⟨f6, d6, ok_rfence F6 T C_accept C_delimiter row, c6.1, c6.2⟩
    have cells : CalM P w K mg base CX0 (6 * n + 5) C "_cells" ["self", "depth", "many", "ends"] (spRd K C (RCells n)) := ⟨f8, d8, ok_rcells F8 T C_peek C_accept C_cell_stops row, c8.1, c8.2⟩
    have grid : CalM P w K mg base CX0 (6 * n + 6) C "_grid" ["self", "depth"] (spRd K C (RGrid n)) := ⟨f7, d7, ok_rgrid F7 T C_peek C_accept cells, c7.1, c7.2⟩
    have nuc : CalM P w K mg base CX0 (6 * n + 7) C "_nucleus" ["self", "depth"] (spRd K C (RNuc n)) := ⟨f3, d3, ok_rnucleus F3 T C_peek C_accept C_symbol braced arg fence grid, c3.1, c3.2⟩
    have item : CalM P w K mg base CX0 (6 * n + 8) C "_item" ["self", "depth"] (spRd K C (RItem n)) := ⟨f2, d2, ok_ritem F2 T C_peek C_accept arg nuc, c2.1, c2.2⟩
    exact ⟨f1, d1, ok_rrow F1 T C_peek C_check_depth item, c1.1, c1.2⟩
end
end Mg

set_option Elab.async false
set_option linter.all false
set_option maxRecDepth 100000
set_option maxHeartbeats 1000000
namespace Mg
open PySem L2
/-! texts made of words, with spaces behind them: their tokens -/
def txt : List (Str × Nat) → List Nat
  | [] => []
  | (w, k) :: r => w.cps.toList ++ (List.replicate k 32 ++ txt r)
def Tw (w : Str) : Prop := (∃ c, w.cps.toList = [c] ∧ c ≠ 64 ∧ (c ∈ cSIGNS.cps.toList ∨ c ∈ cMARKS.cps.toList)) ∨ isCommand w = true
def TOk : List (Str × Nat) → Prop
  | [] => True
  | (w, k) :: r => Tw w ∧ (∀ w' k' r', r = (w', k') :: r' → isCommand w = true → headLet w' = true → 1 ≤ k) ∧ TOk r
theorem cmd_cps {w : Str} (h : isCommand w = true) : ∃ L, w.cps.toList = 64 :: L ∧ 1 ≤ L.length ∧ L.length ≤ 8 ∧ ∀ c ∈ L, c ∈ lets := by
  unfold isCommand at h
  simp only [Bool.and_eq_true, decide_eq_true_eq, List.all_eq_true] at h
  obtain ⟨⟨h1, h2, h3⟩, h4⟩ := h
  cases e : w.cps.toList with
  | nil =>
    rw [e] at h2
    simp at h2
  | cons c L =>
    rw [e] at h1 h2 h3 h4
    have h1 := eq_of_beq h1
    have h5 : [c] = [64] := congrArg (fun s : Str => s.cps.toList) h1
    cases h5
    exact ⟨L, rfl, h2, h3, h4⟩
theorem cmd_first {w : Str} (h : isCommand w = true) : ∃ L, w.cps.toList = 64 :: L := by
  obtain ⟨L, e, _⟩ := cmd_cps h
  exact ⟨L, e⟩
theorem run_app : ∀ {L rest : List Nat}, (∀ c ∈ L, c ∈ lets) → (∀ c, rest[0]? = some c → c ∉ lets) → runL (L ++ rest) = L.length
  | [], [], _, _ => rfl
  | [], c :: r, _, h => by
    show runL (c :: r) = 0
    unfold runL
    rw [if_neg (h c rfl)]
  | c :: L, rest, h1, h2 => by
    show runL (c :: (L ++ rest)) = L.length + 1
    unfold runL
    rw [if_pos (h1 c List.mem_cons_self), run_app (fun d hd => h1 d (List.mem_cons_of_mem _ hd)) h2]
theorem tw_pos {w : Str} (h : Tw w) : 1 ≤ w.cps.toList.length := by
  rcases h with ⟨c, e, _⟩ | h
  · rw [e]
    exact Nat.le_refl _
  · obtain ⟨L, e, _⟩ := cmd_cps h
    rw [e, List.length_cons]
    omega
theorem tw_bad {w : Str} (h : Tw w) : w ≠ "bad" := fun z => by
  subst z
  rcases h with ⟨c, e, _⟩ | h
  · have := congrArg List.length e
    have e3 : (("bad" : Str).cps.toList).length = 3 := by decide +kernel
    rw [e3] at this
    cases this
  · exact absurd h (by decide +kernel)
theorem at64 : (⟨#[64]⟩ : Str) = "@" := by decide +kernel
theorem at_ne {c : Nat} (h : c ≠ 64) : (⟨#[c]⟩ : Str) ≠ "@" := fun z => by
  have := congrArg (fun s : Str => s.cps.toList) z
  have e : [c] = [64] := this
  cases e
  exact h rfl
theorem tw_space {w : Str} {c : Nat} {L : List Nat} (h : Tw w) (e : w.cps.toList = c :: L) : c ≠ 32 := by
  rcases h with ⟨d, e2, _, h⟩ | h
  · rw [e2] at e
    cases e
    intro z
    subst z
    revert h
    decide +kernel
  · obtain ⟨M, e2⟩ := cmd_first h
    rw [e2] at e
    cases e
    decide
theorem str_of_cps {w : Str} {l : List Nat} (h : w.cps.toList = l) : w = ⟨l.toArray⟩ := by
  subst h
  rfl
theorem tok_word {l : List Nat} {n : Nat} {w : Str} {rest : List Nat} (h : Tw w) (hd : l.drop n = w.cps.toList ++ rest) (hr : isCommand w = true → ∀ c, rest[0]? = some c → c ∉ lets) : tokAt l n = w := by
  have g : ∀ c L, w.cps.toList = c :: L → l[n]? = some c := fun c L e => by
    have : (l.drop n)[0]? = some c := by rw [hd, e]; rfl
    rwa [List.getElem?_drop, Nat.add_zero] at this
  rcases h with ⟨c, e, c64, hc⟩ | h
  · unfold tokAt
    rw [g c [] e]
    show (if (⟨#[c]⟩ : Str) = "@" then cmdAt l n else if c ∈ cSIGNS.cps.toList ∨ c ∈ cMARKS.cps.toList then ⟨#[c]⟩ else "bad") = w
    rw [if_neg (at_ne c64), if_pos hc]
    exact (str_of_cps e).symm
  · obtain ⟨L, e, _, _, hL⟩ := cmd_cps h
    unfold tokAt
    rw [g 64 L e]
    show (if (⟨#[64]⟩ : Str) = "@" then cmdAt l n else _) = w
    rw [if_pos at64]
    have hd1 : l.drop (n + 1) = L ++ rest := by
      rw [← List.drop_drop, hd, e]
      rfl
    have ew : cmdW l n = w := by
      unfold cmdW
      rw [hd1, run_app hL (hr h), hd, e]
      have : (64 :: L ++ rest).take (1 + L.length) = 64 :: L := by
        rw [Nat.add_comm, List.cons_append, List.take_succ_cons, List.take_left]
      rw [this]
      exact (str_of_cps e).symm
    unfold cmdAt
    rw [ew, if_pos h]
theorem toks_spaces {l : List Nat} {t : List Nat} : ∀ (k n : Nat), l.drop n = List.replicate k 32 ++ t → toksAt l n = toksAt l (n + k)
  | 0, n, _ => rfl
  | k + 1, n, h => by
    have hn : n < l.length := by
      apply Nat.lt_of_not_le
      intro z
      rw [List.drop_eq_nil_of_le z] at h
      cases h
    have h2 : l[n]? = some 32 := by
      have : (l.drop n)[0]? = some 32 := by rw [h]; rfl
      rwa [List.getElem?_drop, Nat.add_zero] at this
    have h3 : l[n] = 32 := (List.getElem?_eq_some_iff.mp h2).2
    have h4 : l.drop (n + 1) = List.replicate k 32 ++ t := by
      rw [← List.drop_drop, h]
      rfl
    rw [toksAt.eq_1, dif_pos hn, if_pos (by rw [h3]; decide +kernel), toks_spaces k (n + 1) h4, show n + 1 + k = n + (k + 1) by omega]
theorem headLet_of {w : Str} {c : Nat} {L : List Nat} (e : w.cps.toList = c :: L) : headLet w = decide (c ∈ lets) := by
  unfold headLet
  rw [e]
  rfl
theorem toks_txt {l : List Nat} : ∀ {ws : List (Str × Nat)} {n : Nat}, TOk ws → l.drop n = txt ws → (toksAt l n).map Prod.snd = ws.map Prod.fst ++ [("end" : Str)]
  | [], n, _, h => by
    have hn : ¬ n < l.length := fun z => by
      have := congrArg List.length h
      rw [List.length_drop] at this
      have e : (txt []).length = 0 := rfl
      omega
    rw [toksAt.eq_1, dif_neg hn]
    rfl
  | (w, k) :: r, n, ⟨tw, hs, tr⟩, h => by
    have hp := tw_pos tw
    have hd : l.drop n = w.cps.toList ++ (List.replicate k 32 ++ txt r) := h
    have hn : n < l.length := by
      apply Nat.lt_of_not_le
      intro z
      rw [List.drop_eq_nil_of_le z] at hd
      have := congrArg List.length hd
      rw [List.length_append] at this
      rw [List.length_nil] at this
      omega
    obtain ⟨c, L, e⟩ : ∃ c L, w.cps.toList = c :: L := by
      cases e : w.cps.toList with
      | nil => rw [e] at hp; cases hp
      | cons c L => exact ⟨c, L, rfl⟩
    have h2 : l[n]? = some c := by
      have : (l.drop n)[0]? = some c := by rw [hd, e]; rfl
      rwa [List.getElem?_drop, Nat.add_zero] at this
    have h3 : l[n] = c := (List.getElem?_eq_some_iff.mp h2).2
    have tk : tokAt l n = w := tok_word tw hd fun hc d hd2 => by
      cases k with
      | succ k =>
        have : d = 32 := by
          have e : (List.replicate (k + 1) 32 ++ txt r)[0]? = some 32 := rfl
          rw [e] at hd2
          exact (Option.some.inj hd2).symm
        subst this
        decide +kernel
      | zero =>
        cases r with
        | nil => cases hd2
        | cons q r' =>
          obtain ⟨w', k'⟩ := q
          have tw' : Tw w' := tr.1
          obtain ⟨c', L', e'⟩ : ∃ c L, w'.cps.toList = c :: L := by
            have hp' := tw_pos tw'
            cases e : w'.cps.toList with
            | nil => rw [e] at hp'; cases hp'
            | cons c L => exact ⟨c, L, rfl⟩
          have : d = c' := by
            have e2 : (List.replicate 0 32 ++ txt ((w', k') :: r'))[0]? = some c' := by
              show (w'.cps.toList ++ _)[0]? = _
              rw [e']
              rfl
            rw [e2] at hd2
            exact (Option.some.inj hd2).symm
          subst this
          intro hl
          have := hs w' k' r' rfl hc (by rw [headLet_of e']; exact decide_eq_true hl)
          omega
    have ne : (⟨#[l[n]]⟩ : Str) ≠ " " := fun z => by
      rw [h3] at z
      have := congrArg (fun s : Str => s.cps.toList) z
      have e5 : [c] = [32] := this
      cases e5
      exact tw_space tw e rfl
    have el : w.length = w.cps.toList.length := rfl
    rw [toksAt.eq_1, dif_pos hn, if_neg ne, tk, if_neg (tw_bad tw), List.map_cons, Nat.max_eq_right (by rw [el]; exact hp)]
    have hd2 : l.drop (n + w.length) = List.replicate k 32 ++ txt r := by
      rw [← List.drop_drop, hd, el, List.drop_left]
    rw [toks_spaces k _ hd2, toks_txt (n := n + w.length + k) tr (by rw [← List.drop_drop, hd2]; exact List.drop_left' (List.length_replicate))]
    rfl
/-! which words are tokens -/
theorem sy_tw {x : Str} (h : Sy x) : Tw x := by
  have h := h.2
  unfold isSymbol at h
  split at h
  · rename_i hl
    cases e : x.cps.toList with
    | nil => rw [e] at hl; cases hl
    | cons c L =>
      rw [e] at hl h
      cases L with
      | cons _ _ => simp at hl
      | nil =>
        have hc : c ∈ cSIGNS.cps.toList := by simpa using h
        exact .inl ⟨c, e, fun z => absurd (z ▸ hc) (by decide +kernel), .inl hc⟩
  · rw [Bool.and_eq_true] at h
    exact .inr h.1
def marks : List Str := ["{", "}", "_", "^", "&", "~", "@frac", "@root", "@left", "@right", "@grid"]
theorem mark_tw {x : Str} (h : x ∈ marks) : Tw x := by
  have h1 : ∀ x ∈ (["{", "}", "_", "^", "&", "~"] : List Str), x.cps.toList.length = 1 ∧ ∀ c ∈ x.cps.toList, c ≠ 64 ∧ c ∈ cMARKS.cps.toList := by decide +kernel
  have h2 : ∀ x ∈ (["@frac", "@root", "@left", "@right", "@grid"] : List Str), isCommand x = true := by decide +kernel
  have h3 : x ∈ (["{", "}", "_", "^", "&", "~"] : List Str) ∨ x ∈ (["@frac", "@root", "@left", "@right", "@grid"] : List Str) := by
    have e : marks = (["{", "}", "_", "^", "&", "~"] : List Str) ++ (["@frac", "@root", "@left", "@right", "@grid"] : List Str) := rfl
    rw [e] at h
    exact List.mem_append.mp h
  rcases h3 with h | h
  · obtain ⟨a, b⟩ := h1 x h
    cases e : x.cps.toList with
    | nil => rw [e] at a; cases a
    | cons c L =>
      cases L with
      | cons _ _ => rw [e] at a; simp at a
      | nil => exact .inl ⟨c, e, (b c (by rw [e]; simp)).1, .inr (b c (by rw [e]; simp)).2⟩
  · exact .inr (h2 x h)
end Mg

set_option Elab.async false
set_option linter.all false
set_option maxRecDepth 100000
set_option maxHeartbeats 1000000
namespace Mg
open PySem L2
theorem flat_congr {α β : Type} {f g : α → List β} : ∀ {l : List α}, (∀ a ∈ l, f a = g a) → l.flatMap f = l.flatMap g
  | [], _ => rfl
  | a :: l, h => by rw [List.flatMap_cons, List.flatMap_cons, h a List.mem_cons_self, flat_congr fun b hb => h b (List.mem_cons_of_mem _ hb)]
theorem if_ne {α β : Type} {b : Bool} {x : α} {l : List α} {u v : β} : (if b = true ∧ x :: l ≠ [] then u else v) = if b = true then u else v := by simp
/-! the normal text as words with spaces -/
def spW : List Str → List (Str × Nat)
  | [] => []
  | [w] => [(w, 0)]
  | w :: w' :: r => (w, if (headLet w' && Txt.startswith w "@") = true then 1 else 0) :: spW (w' :: r)
theorem spW_fst : ∀ ws : List Str, (spW ws).map Prod.fst = ws
  | [] => rfl
  | [w] => rfl
  | w :: w' :: r => by rw [spW, List.map_cons, spW_fst (w' :: r)]
theorem join_cps : ∀ l : List Str, (Str.join "" l).cps.toList = l.flatMap fun x => x.cps.toList
  | [] => rfl
  | [x] => by simp [Str.join]
  | x :: y :: r => by
    show (x ++ ("" : Str) ++ Str.join "" (y :: r)).cps.toList = _
    rw [List.flatMap_cons, ← join_cps (y :: r)]
    show ((x.cps ++ (#[] : Array Nat)) ++ (Str.join "" (y :: r)).cps).toList = _
    simp
def spP (prev : Option Str) (ws : List Str) : Nat → Bool
  | 0 => match prev with
    | none => false
    | some p => headLet (ws.getD 0 "") && Txt.startswith p "@"
  | k + 1 => headLet (ws.getD (k + 1) "") && Txt.startswith (ws.getD k "") "@"
def gU (prev : Option Str) (ws : List Str) : List Nat := (List.range ws.length).flatMap fun k => (if spP prev ws k = true then [32] else []) ++ (ws.getD k "").cps.toList
theorem gU_cons (prev : Option Str) (w : Str) (r : List Str) : gU prev (w :: r) = (if spP prev (w :: r) 0 = true then [32] else []) ++ w.cps.toList ++ gU (some w) r := by
  unfold gU
  rw [List.length_cons, List.range_succ_eq_map, List.flatMap_cons, List.flatMap_map]
  congr 1
  refine flat_congr fun k _ => ?_
  cases k <;> rfl
theorem gU_txt : ∀ (p : Str) (ws : List Str), gU (some p) ws = (if spP (some p) ws 0 = true ∧ ws ≠ [] then [32] else []) ++ txt (spW ws)
  | p, [] => by
    rw [if_neg (fun z => z.2 rfl)]
    rfl
  | p, [w] => by
    rw [gU_cons]
    by_cases c : spP (some p) [w] 0 = true
    · rw [if_pos c, if_pos ⟨c, by simp⟩]
      simp [gU, spW, txt]
    · rw [if_neg c, if_neg (fun z => c z.1)]
      simp [gU, spW, txt]
  | p, w :: w' :: r => by
    rw [gU_cons, gU_txt w (w' :: r)]
    have e : txt (spW (w :: w' :: r)) = w.cps.toList ++ ((if spP (some w) (w' :: r) 0 = true ∧ w' :: r ≠ [] then [32] else []) ++ txt (spW (w' :: r))) := by
      rw [spW, txt]
      congr 2
      have e2 : spP (some w) (w' :: r) 0 = (headLet w' && Txt.startswith w "@") := rfl
      rw [e2]
      by_cases c : (headLet w' && Txt.startswith w "@") = true
      · rw [if_pos c, if_pos ⟨c, by simp⟩]
        rfl
      · rw [if_neg c, if_neg (fun z => c z.1)]
        rfl
    rw [e, List.append_assoc, if_ne, if_ne]
theorem glue_txt (ws : List Str) : (glueW ws).cps.toList = txt (spW ws) := by
  have e1 : (glueW ws).cps.toList = gU none ws := by
    unfold glueW
    rw [TL.join_eq, join_cps]
    unfold partsW gU
    rw [List.flatMap_assoc]
    refine flat_congr fun k _ => ?_
    unfold partAt
    have e2 : spaceAt ws k = spP none ws k := by
      cases k with
      | zero => rfl
      | succ k =>
        unfold spaceAt spP
        rw [decide_eq_true (Nat.succ_pos k), Bool.true_and]
        rfl
    rw [e2]
    split
    · show [(" " : Str), ws.getD k ""].flatMap _ = _
      rw [List.flatMap_cons, List.flatMap_cons, List.flatMap_nil, List.append_nil]
      rfl
    · show [ws.getD k ""].flatMap _ = _
      rw [List.flatMap_cons, List.flatMap_nil, List.append_nil]
      rfl
  rw [e1]
  cases ws with
  | nil => rfl
  | cons w r =>
    rw [gU_cons, gU_txt]
    have e0 : spP none (w :: r) 0 = false := rfl
    rw [e0, if_neg (by decide), List.nil_append]
    cases r with
    | nil =>
      rw [if_neg (fun z => z.2 rfl)]
      simp [spW, txt]
    | cons w' r =>
      have e2 : spP (some w) (w' :: r) 0 = (headLet w' && Txt.startswith w "@") := rfl
      rw [e2, spW, txt]
      congr 2
      by_cases c : (headLet w' && Txt.startswith w "@") = true
      · rw [if_pos c, if_pos ⟨c, by simp⟩]
        rfl
      · rw [if_neg c, if_neg (fun z => c z.1)]
        rfl
theorem starts_at {w : Str} (h : isCommand w = true) : Txt.startswith w "@" = true := by
  obtain ⟨L, e⟩ := cmd_first h
  rw [str_of_cps e]
  unfold Txt.startswith
  rw [Bool.and_eq_true]
  refine ⟨decide_eq_true ?_, ?_⟩
  · show 0 + 1 ≤ (64 :: L).length
    simp
  · simp [PySem.Builtin.Str.subAt]
    rfl
theorem spW_ok : ∀ {ws : List Str}, (∀ x ∈ ws, Tw x) → TOk (spW ws)
  | [], _ => trivial
  | [w], h => ⟨h w (by simp), (fun _ _ _ e => by cases e), trivial⟩
  | w :: w' :: r, h => by
    refine ⟨h w (by simp), fun v k r' e hc hl => ?_, spW_ok fun x hx => h x (List.mem_cons_of_mem _ hx)⟩
    have e2 : v = w' := by
      have := congrArg (fun l => l.map Prod.fst) e
      rw [spW_fst, List.map_cons] at this
      injection this with a b
      exact a.symm
    subst e2
    rw [if_pos (by rw [hl, starts_at hc]; rfl)]
    exact Nat.le_refl 1
end Mg

set_option Elab.async false
set_option linter.all false
set_option maxRecDepth 100000
set_option maxHeartbeats 1000000
namespace Mg
open PySem L2 StX
abbrev sParse : Stmt := top 28
structure MkR (P : Program) (w : World) (K : PySem.W.Frag) (mg : Str → Option Value) (base : Heap) (C : Addr) : Prop where
  ex : ∃ (f : Addr) (fd : FuncData), FnOk P w K mg base CX0 5 f fd ["self", "text"] (spRInit K C) ∧ Mk K C f ∧ Binds K fd ["self", "text"] []
section
variable {X : Cx} {C : Addr} {p pos : Pos} {e : Expr} {es : List Expr} {t : TA}
theorem pe_mkR (M : MkR X.prog X.w X.K X.mg X.base C) (hr : Room 6 X.A) (hg : Gl X "Reader") (hm : X.mg "Reader" = some (.ref C)) (ha : PA X (e :: es) t)
    (he : starEach (e :: es) X.env = (false, eval e X.env) :: starEach es X.env := by rfl) (hpl : (backTo pos (starEach es X.env)).any (·.1) = false := by rfl) :
    PE X (.Call (.Name "Reader" p) (e :: es) [] pos) (tMake C (spRInit X.K C) [] E0 t) := by
  obtain ⟨f, fd, F, mk, hb⟩ := M.ex
  exact pe_make mk F hr hg hm hb .nil pass0 ha (by decide) he hpl
end
structure TxtP (P : Program) (w : World) (K : PySem.W.Frag) (mg : Str → Option Value) (base : Heap) (C : Addr) : Prop extends TxtSrc mg where
  cl : Cls K C
  g_Reader : mg "Reader" = some (.ref C)
  mkR : MkR P w K mg base C
section
variable {P : Program} {w : World} {K : PySem.W.Frag} {mg : Str → Option Value} {base : Heap} {C : Addr}
/-- a formula within the limits -/
structure InLim (n : Nat) (r : FRow) : Prop where
  dep : r.dep < n
  dep7 : r.dep ≤ 7
  len : r.words.length ≤ 100000
  wk : ∀ x ∈ r.words, 1 ≤ x.length ∧ x.length ≤ 9
  count : r.count ≤ 80
  glue : (glueW r.words).length ≤ 400
def RCheck0 (n : Nat) (ds : List PyData) (d : PyData) : Prop := ∃ r : FRow, ds = [r.d] ∧ InLim n r ∧ d = .none
theorem ok_checkformula0 {n : Nat} {f : Addr} {fd : FuncData} (F : Fun K "check_formula" "check_formula" sCheckFormula f fd) (T : TxtSrc mg) (hn : 1 ≤ n) (C_check_depth : Cal P w K mg base CX0 1 "check_depth" ["depth"] spCheckDepth0)
    (C_depth_of : Cal P w K mg base CX0 (n + 2) "depth_of" ["row"] (spDepthOf K n)) (C_rows_of : Cal P w K mg base CX0 (n + 2) "rows_of" ["formula"] (spRowsOf K n)) (C_text_of : Cal P w K mg base CX0 (3 * n + 1) "text_of" ["formula"] (spTextOf K n)) : FnOk P w K mg base CX0 (3 * n + 2) f fd ["formula"] (spR K (RCheck0 n)) := by
  have sc := scCheckFormula
  refine F.ok scCheckFormula (fun vs H Q E h => ?_) (fun cdv A outer s H vs Q E hr h => ?_)
  · obtain ⟨ds, d, l, ⟨r, rfl, _⟩, _⟩ := h
    cases l with
    | cons _ l => cases l; rfl
  · obtain ⟨ds, d, l, ⟨r, rfl, ⟨dep, dep7, bnd, wk, k80, k400⟩, rfl⟩, k⟩ := h
    cases l with
    | cons t l => cases l with
    | nil =>
    refine ⟨_, (pss_cons (ps_expr (pe_cal C_check_depth (hr.mono (by omega)) rfl pass0 (pa_cons (pe_cal C_depth_of (hr.mono (by omega)) rfl pass0 (pa_cons (pv 0) pa_nil)) pa_nil)))
  (pss_cons (ps_set (i := 1) sc.nd rfl (Or.inl rfl) (pe_callB (cr_sum rfl) (by rfl) T.b_sum (by decide +kernel) (pa_cons (pe_lc (own := [("row", 2)]) rfl sc.nd (pi_list (pe_cal C_rows_of (hr.mono (by omega)) rfl pass0 (pa_cons (pv 0) pa_nil))) (blkOk_by (own := [("row", 2)]) (N := ["formula", "items", "row"]) (sc := defScope sCheckFormula) (by decide +kernel)) (fun _ _ _ _ _ => (pg_name (i := 2) sc.nd rfl (Or.inl rfl))) (fun _ _ _ _ _ => pts_nil) (fun _ _ _ _ _ => (pe_callB (r := rLenQ K) call_lenK (by rfl) T.b_len PySem.boot_len (pa_cons (pv 2) pa_nil)))) pa_nil)))
  (pss_one (ps_if (PW.pt (pw_or (pt_cmpR op_gt (pv 1) (pe_gint rfl T.c_MOST_ITEMS) (nomark _)) (pw_or1 (pt_cmpR op_gt (pe_callB call_len_str (by rfl) T.b_len PySem.boot_len (pa_cons (pe_cal C_text_of (hr.mono (by omega)) rfl pass0 (pa_cons (pv 0) pa_nil)) pa_nil)) (pe_gint rfl T.c_LONGEST) (nomark _)))))
  (pss_one ps_never)
  pss_nil)))), ?_⟩
    refine e_call (a_cons (e_var rfl t) a_nil) ⟨r, rfl, rfl, dep, bnd⟩ H (Same.refl _) _ fun vd H1 s1 td => ?_
    obtain rfl := tp_int td
    refine ⟨_, rfl, by omega, ?_⟩
    have t1 := t.stay (.of s1)
    refine q_set (e_sum (ns := r.pre.map fun q => (q.items.length : Int)) (l_is (l_lcL (K := K) (es := (r.pre.map fun q => (q.items.length : Int)).map PyData.int) (l_call (a_cons (e_var rfl t1) a_nil) ⟨r, rfl, rfl, dep, bnd⟩) (by simp) ?_ (fun x => rfl) ?_) rfl)) fun v2 H2 s2 t2 => ?_
    · have := inn_row r
      simp [FRow.pre]
      omega
    · intro i d e x H2 h1 h2 s2 tx
      obtain ⟨q, hq, rfl⟩ := get_map h1
      rw [List.map_map] at h2
      obtain ⟨q', hq', rfl⟩ := get_map h2
      rw [hq] at hq'
      cases hq'
      have ex : q.d = .tuple (q.items.map FItem.d) := by rw [FRow.d, FRow.ds_eq]
      refine e_is (e_lenT (ds := q.items.map FItem.d) (fun p xs H Q h hq => ⟨p, xs, rfl, h, fun _ => hq⟩) (e_var rfl (ex ▸ tx))) ?_
      simp
    obtain rfl := tp_int t2
    have t2 := t1.stay (.of s2)
    have ec : (r.pre.map fun q => (q.items.length : Int)).sum = r.count := rfl
    rw [ec]
    refine s_if (K := K) (b := false || false) (t_or (t_is (t_test (e_op (e_var rfl (.int _)) e_int r_I0b)) (decide_eq_false (by omega))) fun h80 => t_is (t_test (e_op (d1 := .int (glueW r.words).length) ?_ e_int r_I0b)) (decide_eq_false (by omega))) (fun hb => nomatch hb) fun hb H3 s3 => ?_
    · intro H3 s3 Q3 q3
      refine e_call (a_cons (e_var rfl t2) a_nil) ⟨r, rfl, rfl, dep, bnd, wk⟩ H3 s3 _ fun v4 H4 s4 t4 => ?_
      obtain rfl := tp_str t4
      have := glue_len r.words fun x hx => (wk x hx).2
      exact ⟨_, rfl, sz5 (by omega), q3 _ H4 s4 (.int _)⟩
    · exact k _ H3 ((s1.trans s2).trans s3) .non
def RParse (n : Nat) (ds : List PyData) (d : PyData) : Prop := ∃ (t : Str) (k0 : Nat) (ts : List (Str × Nat)) (r : CRow), ds = [.str t] ∧ t.cps.toList = List.replicate k0 32 ++ txt ts ∧ TOk ts ∧ ts.map Prod.fst = r.ws ∧ t.length ≤ 400 ∧ r.ok ∧ r.h < n ∧ r.h ≤ 7 ∧ InLim n r.f ∧ d = r.f.d
theorem scParse : FnScope ["text", "formula"] ["text"] (defScope sParse) := ⟨rfl, rfl, rfl, by decide +kernel, rfl, by decide +kernel, by decide +kernel⟩
theorem ok_parse {n : Nat} {f : Addr} {fd : FuncData} (F : Fun K "parse" "parse" sParse f fd) (T : TxtP P w K mg base C) (hn : 1 ≤ n) (C_read : CalM P w K mg base CX0 (6 * n + 5) C "read" ["self"] (spRd K C (RRead n))) (C_check_formula : Cal P w K mg base CX0 (3 * n + 2) "check_formula" ["formula"] (spR K (RCheck0 n))) :
    FnOk P w K mg base CX0 (6 * n + 6) f fd ["text"] (spR K (RParse n)) := by
  have sc := scParse
  refine F.ok scParse (fun vs H Q E h => ?_) (fun cdv A outer s H vs Q E hr h => ?_)
  · obtain ⟨ds, d, l, ⟨t, k0, ts, r, rfl, _⟩, _⟩ := h
    cases l with
    | cons _ l => cases l; rfl
  · obtain ⟨ds, d, l, ⟨t, k0, ts, r, rfl, et, tok, tw, t4, ok, hh, h7, lim, rfl⟩, k⟩ := h
    cases l with
    | cons t0 l => cases l with
    | nil =>
    cases tp_str t0
    refine ⟨_, (pss_cons (ps_if (pt_cmpR op_gt (pe_callB call_len_str (by rfl) T.b_len PySem.boot_len (pa_cons (pv 0) pa_nil)) (pe_gint rfl T.c_LONGEST) (nomark _))
  (pss_one ps_never)
  pss_nil)
  (pss_cons (ps_set (i := 1) sc.nd rfl (Or.inl rfl) (pe_calm0 (pe_mkR T.mkR (hr.mono (by omega)) rfl T.g_Reader (pa_cons (pv 0) pa_nil)) T.cl C_read (hr.mono (by omega)) pass0))
  (pss_cons (ps_expr (pe_cal C_check_formula (hr.mono (by omega)) rfl pass0 (pa_cons (pv 1) pa_nil)))
  (pss_one (ps_ret (pv 1)))))), ?_⟩
    refine q_no (K := K) (b := decide ((t.length : Int) > 400)) (t_test (e_op (d1 := .int t.length) (fun H1 s1 Q q => ⟨_, rfl, t, rfl, sz5 (by omega), q _ H1 (.refl _) (.int _)⟩) e_int r_I0b)) (decide_eq_false (by omega)) fun H1 s1 => ?_
    have toks : (toksAt t.cps.toList 0).map Prod.snd = r.ws ++ [("end" : Str)] := by
      rw [toks_spaces k0 0 (by rw [List.drop_zero]; exact et), Nat.zero_add, toks_txt (n := k0) tok (by rw [et]; exact List.drop_left' List.length_replicate), tw]
    refine ⟨_, rfl, fun x dx nx ndx ne => ?_⟩
    have hx : upd (upd H1 dx (.own x)) x (.ins C dx []) x = some (.ins C dx []) := upd_same
    refine ⟨x, dx, t, rfl, hx, by omega, fun tl H2 k2 a2 => ⟨rfl, ?_⟩⟩
    obtain ⟨dx2, hp2⟩ := a2.ob
    refine ⟨x, dx2, _, rfl, hp2, rf_no (by decide +kernel) (by decide +kernel), ?_⟩
    rw [toks] at a2
    have sm : ∀ {H3 : Hp}, KeepB x (upd (upd H1 dx (.own x)) x (.ins C dx [])) H3 → Same H1 H3 := fun kb b o e => by
      have n1 : b ≠ x := fun z => by
        rw [z, nx] at e
        cases e
      have n2 : b ≠ dx := fun z => by
        rw [z, ndx] at e
        cases e
      exact kb b o (by rw [upd_ne n1, upd_ne n2]; exact e) n1
    refine ⟨x, tl, r.ws ++ [("end" : Str)], 0, r.ws.length, [], [], r.f.d, rfl, .nil, a2, ⟨r, rfl, rfl, ok, hh, h7, by unfold At; rw [List.drop_zero]; exact List.prefix_refl _, rfl, rfl⟩, fun v H3 k3 a3 t3 => ?_⟩
    have s3 := sm (k2.trans k3)
    refine e_call (K := K) (R := RCheck0 n) (d := .none) (a_cons (e_var rfl t3) a_nil) ⟨r.f, rfl, lim, rfl⟩ H3 (.refl _) _ fun v4 H4 s4 t4 => ?_
    exact ⟨_, rfl, k v H4 ((s1.trans s3).trans s4) (t3.stay (.of s4))⟩
end
end Mg

set_option Elab.async false
set_option linter.all false
set_option maxRecDepth 100000
set_option maxHeartbeats 1000000
namespace Mg
open PySem L2
abbrev sLRow : Stmt := top 46
abbrev sLNuc : Stmt := top 47
abbrev sLItem : Stmt := top 48
/-! draws: the stream goes on, all else stays -/
structure SK (st pd pl : Addr) (H H' : Hp) : Prop where
  s0 : Stream H st pd pl
  s1 : Stream H' st pd pl
  kb : KeepB pl H H'
section
variable {st pd pl : Addr} {H H1 H2 : Hp}
theorem SK.refl (S : Stream H st pd pl) : SK st pd pl H H := ⟨S, S, KeepB.refl _ _⟩
theorem SK.trans (a : SK st pd pl H H1) (b : SK st pd pl H1 H2) : SK st pd pl H H2 := ⟨a.s0, b.s1, a.kb.trans b.kb⟩
theorem SK.of (S : Stream H st pd pl) (s : Same H H1) : SK st pd pl H H1 := ⟨S, S.new s, .of s⟩
theorem SK.tup (a : SK st pd pl H H1) : TupK H H1 := by
  obtain ⟨k, hk⟩ := a.s0.pl
  exact .keep a.kb hk
theorem SK.free (a : SK st pd pl H H1) {p : Addr} (h : H1 p = none) : H p = none := by
  cases e : H p with
  | none => rfl
  | some o =>
    by_cases c : p = pl
    · subst c
      obtain ⟨k, hk⟩ := a.s1.pl
      rw [hk] at h
      cases h
    · rw [a.kb _ _ e c] at h
      cases h
theorem Stream.ne {p : Addr} (S : Stream H st pd pl) (h : H p = none) : p ≠ pl := fun e => by
  obtain ⟨k, hk⟩ := S.pl
  rw [← e, h] at hk
  cases hk
/-- an object of our own changes -/
theorem Stream.own {p : Addr} {o : HO} {H0 : Hp} (S0 : Stream H0 st pd pl) (hp : H0 p = none) (S : Stream H st pd pl) : Stream (upd H p o) st pd pl := by
  obtain ⟨n1, n2, ds, k, h1, h2, h3, r⟩ := S
  obtain ⟨_, _, ds0, k0, g1, g2, g3, _⟩ := S0
  have e : ∀ {a : Addr} {u : HO}, H0 a = some u → a ≠ p := fun h z => by
    rw [z, hp] at h
    cases h
  exact ⟨n1, n2, ds, k, by rw [upd_ne (e g1)]; exact h1, by rw [upd_ne (e g2)]; exact h2, by rw [upd_ne (e g3)]; exact h3, r⟩
theorem SK.own {p : Addr} {o : HO} (a : SK st pd pl H H1) (hp : H p = none) : SK st pd pl H (upd H1 p o) := ⟨a.s0, a.s0.own hp a.s1, keep_upd_new a.kb hp⟩
end
def EvN (K : PySem.W.Frag) (st pd pl : Addr) (te : TE) (σ : L2.St) (H : Hp) (P : PyData → Prop) : Prop := ∀ H1, SK st pd pl H H1 → ∀ Q : VK, (∀ v d H2, SK st pd pl H1 H2 → P d → Tp K H2 v d → Q v H2) → te σ H1 Q
def EvNA (K : PySem.W.Frag) (st pd pl : Addr) (ta : TA) (σ : L2.St) (H : Hp) (P : List PyData → Prop) : Prop := ∀ H1, SK st pd pl H H1 → ∀ Q : List V → Hp → Prop, (∀ vs ds H2, SK st pd pl H1 H2 → P ds → TpL K H2 vs ds → Q vs H2) → ta σ H1 Q
/-- a new list -/
def EvNL (K : PySem.W.Frag) (st pd pl : Addr) (te : TE) (σ : L2.St) (H : Hp) (P : List PyData → Prop) : Prop := ∀ H1, SK st pd pl H H1 → ∀ Q : VK, (∀ p xs ds H2, H1 p = none → SK st pd pl H1 H2 → P ds → H2 p = some (.lst xs) → TpL K H2 xs ds → Q (.ref p) H2) → te σ H1 Q
section
variable {K : PySem.W.Frag} {st pd pl : Addr} {σ : L2.St} {H H' : Hp} {te ta tb : TE} {tas : TA} {P P' : PyData → Prop} {R : List PyData → Prop} {v : V} {d : PyData} {ds : List PyData}
theorem EvN.mono (h : EvN K st pd pl te σ H P) (s : SK st pd pl H H') : EvN K st pd pl te σ H' P := fun H1 s1 Q q => h H1 (s.trans s1) Q q
theorem n_imp (h : EvN K st pd pl te σ H P) (i : ∀ d, P d → P' d) : EvN K st pd pl te σ H P' := fun H1 s Q q => h H1 s Q fun v d H2 s2 p t => q v d H2 s2 (i d p) t
theorem n_var {i : Nat} (h : σ[i]? = some (some v)) (t : Tp K H v d) (p : P d) : EvN K st pd pl (tVar i) σ H P := fun H1 s Q q => ⟨v, h, q v d H1 (.refl s.s1) p (t.stay s.tup)⟩
theorem n_c (t : ∀ H, Tp K H v d) (p : P d) : EvN K st pd pl (tC v) σ H P := fun H1 s Q q => q v d H1 (.refl s.s1) p (t _)
theorem na_nil : EvNA K st pd pl tNil σ H (fun ds => ds = []) := fun H1 s Q q => q _ _ H1 (.refl s.s1) rfl .nil
theorem na_cons (h : EvN K st pd pl te σ H P) (hs : EvNA K st pd pl tas σ H R) : EvNA K st pd pl (tCons te tas) σ H (fun ds => ∃ d r, ds = d :: r ∧ P d ∧ R r) := fun H1 s Q q =>
  h H1 s _ fun v d H2 s2 p t => hs H2 (s.trans s2) _ fun vs ds H3 s3 r ts => q _ _ H3 (s2.trans s3) ⟨d, ds, rfl, p, r⟩ (.cons (t.stay s3.tup) ts)
theorem n_tup (h : EvNA K st pd pl tas σ H R) (hl : ∀ ds, R ds → ds.length ≤ 1000) : EvN K st pd pl (tTup tas) σ H (fun d => ∃ ds, d = .tuple ds ∧ R ds) := fun H1 s Q q =>
  h H1 s _ fun vs ds H2 s2 r ts => ⟨by rw [ts.len]; exact sz5 (by have := hl ds r; omega), fun p hp => q _ _ _ (s2.trans (.of s2.s1 (same_new hp))) ⟨ds, rfl, r⟩ (.mk (SqT.of upd_same) (ts.stay (.of (same_new hp))))⟩
theorem n_call {sp : Sp} {E : XK} {vs : List V} (ha : ∀ (H : Hp) (Q : List V → Hp → Prop), Q vs H → tas σ H Q) (hs : ∀ H1, SK st pd pl H H1 → ∀ Q : VK, (∀ v d H2, SK st pd pl H1 H2 → P d → Tp K H2 v d → Q v H2) → sp vs H1 Q E) : EvN K st pd pl (tCall sp [] E tas) σ H P := fun H1 s Q q =>
  ha H1 _ (by rw [List.append_nil]; exact hs H1 s Q q)
theorem n_next {E : XK} {i : Nat} {m : Int} (hi : σ[i]? = some (some (.ref st))) (hm : 0 < m) : EvN K st pd pl (tCall spNext [] E (tCons (tVar i) (tCons (tC (.int m)) tNil))) σ H (fun d => ∃ v, d = .int v ∧ 0 ≤ v ∧ v < m) :=
  n_call (vs := [.ref st, .int m]) (fun H Q q => ⟨_, hi, q⟩) fun H1 s Q q => ⟨st, pd, pl, m, rfl, hm, s.s1, fun v H2 a b kb S => q _ _ H2 ⟨s.s1, S, kb⟩ ⟨v, rfl, a, b⟩ (.int _)⟩
theorem n_addI {f : Int → Int → Int} {A B : Int → Prop} (ha : EvN K st pd pl ta σ H fun d => ∃ v, d = .int v ∧ A v) (hb : EvN K st pd pl tb σ H fun d => ∃ v, d = .int v ∧ B v) : EvN K st pd pl (tOp (rI0 fun i j => .int (f i j)) ta tb) σ H (fun d => ∃ v, d = .int v ∧ ∃ i j, v = f i j ∧ A i ∧ B j) := fun H1 s Q q =>
  ha H1 s _ fun v1 d1 H2 s2 ⟨i, e1, a⟩ t1 => hb H2 (s.trans s2) _ fun v2 d2 H3 s3 ⟨j, e2, b⟩ t2 => by
    subst e1
    subst e2
    rw [tp_int t1, tp_int t2]
    exact ⟨i, j, rfl, rfl, q _ _ H3 (s2.trans s3) ⟨_, rfl, i, j, rfl, a, b⟩ (.int _)⟩
theorem n_intC {i : Int} {A : Int → Prop} (a : A i) : EvN K st pd pl (tC (.int i)) σ H (fun d => ∃ v, d = .int v ∧ A v) := n_c (fun _ => .int i) ⟨i, rfl, a⟩
/-- an item of a list made on the way, by a number drawn -/
theorem n_ixL {A : Int → Prop} (ha : EvNL K st pd pl ta σ H R) (hb : EvN K st pd pl tb σ H fun d => ∃ v, d = .int v ∧ A v) (hp : ∀ ds i, R ds → A i → ∃ d, atI ds i = some d ∧ P d) : EvN K st pd pl (tOp (rIxL K) ta tb) σ H P := fun H1 s Q q =>
  ha H1 s _ fun p xs ds H2 hp0 s2 r e l => hb H2 (s.trans s2) _ fun v2 d2 H3 s3 ⟨i, e2, b⟩ t2 => by
    subst e2
    rw [tp_int t2]
    obtain ⟨d, hd, pd'⟩ := hp ds i r b
    obtain ⟨n, x, h1, h2, h3⟩ := atI_get l.len hd
    exact ⟨p, xs, i, x, rfl, rfl, SqL.of (s3.kb _ _ e (s.s1.ne hp0)), h1, q _ _ H3 (s2.trans s3) pd' ((l.at h2 h3).stay s3.tup)⟩
theorem nl_lst (h : EvNA K st pd pl tas σ H R) (hl : ∀ ds, R ds → ds.length ≤ 1000) : EvNL K st pd pl (tLst tas) σ H R := fun H1 s Q q =>
  h H1 s _ fun vs ds H2 s2 r ts => ⟨by rw [ts.len]; exact sz5 (by have := hl ds r; omega), fun p hp => q p _ _ _ (s2.free hp) (s2.trans (.of s2.s1 (same_new hp))) r upd_same (ts.stay (.of (same_new hp)))⟩
theorem n_tupOf {r : List V → Hp → VK → Prop} (hr : ∀ p xs H Q, SqL K H p xs → (∀ l, H l = none → Q (V.ref l) (upd H l (.tup xs))) → r [.ref p] H Q) (h : EvNL K st pd pl te σ H R) : EvN K st pd pl (tCB r (tCons te tNil)) σ H (fun d => ∃ ds, d = .tuple ds ∧ R ds) := fun H1 s Q q => h H1 s _ fun p xs ds H2 hp s2 rr e l =>
  hr p xs H2 Q (SqL.of e) fun a ha => q _ _ _ (s2.trans (.of s2.s1 (same_new ha))) ⟨ds, rfl, rr⟩ (.mk (SqT.of upd_same) (l.stay (.of (same_new ha))))
/-- [e for k in range(n)], each item drawn -/
theorem nl_range {A : Int → Prop} {j : Nat} {vs : List Nat} (ha : EvN K st pd pl ta σ H fun d => ∃ v, d = .int v ∧ A v) (hA : ∀ i, A i → 0 ≤ i ∧ i ≤ 1000) (hw : ∀ x, wipe ((wipe σ vs).set j (some x)) vs = wipe σ vs) (he : ∀ (i : Int) H1, SK st pd pl H H1 → EvN K st pd pl te ((wipe σ vs).set j (some (.int i))) H1 P) :
    EvNL K st pd pl (tLc (iRng1 (tCons ta tNil)) (gName j) tYes te vs) σ H (fun ds => ∃ n : Int, A n ∧ ds.length = n.toNat ∧ ∀ d ∈ ds, P d) := fun H0 s Q q => ha H0 s _ fun v d H1 s1 ⟨n, e1, an⟩ t1 => by
  subst e1
  rw [tp_int t1]
  have b := hA n an
  refine ⟨n, rfl, by omega, by omega, fun D hD => ?_⟩
  have sD : SK st pd pl H1 (upd H1 D (.lst [])) := .of s1.s1 (same_new hD)
  refine lc_word (n := n.toNat) (fun i acc H' => ∃ ds, TpL K H' acc ds ∧ ds.length = i ∧ (∀ d ∈ ds, P d) ∧ SK st pd pl H1 H') ⟨[], .nil, rfl, (fun d h => nomatch h), sD⟩ (fun i acc H' hi _ => hi) (fun acc H' _ => Nat.le_refl _) ?_ ?_
  · rintro i acc x H' H'' RR Z hi ⟨ds, ts, el, hp, s2⟩ eD ⟨rfl, rfl⟩ kR
    refine ⟨hw _, ?_⟩
    refine iteT (B := Z H'') ?_
    refine he _ H'' ((s.trans s1).trans s2) H'' (.refl s2.s1) RR fun v d H3 s3 p t => ?_
    have eD3 := s3.kb _ _ eD (s1.s1.ne hD)
    refine kR v H3 eD3 (by rw [ts.len]; exact sz6 (by omega)) ⟨ds ++ [d], ((ts.stay s3.tup).app (.one t)).stay (.keep keep_upd eD3), by rw [List.length_append, el]; rfl, fun d' h => ?_, (s2.trans s3).own hD⟩
    rcases List.mem_append.mp h with h | h
    · exact hp d' h
    · cases List.mem_singleton.mp h
      exact p
  · rintro acc H' ⟨ds, ts, el, hp, s2⟩ eD
    exact q D acc ds H' (s1.free hD) (s1.trans s2) ⟨n, an, el, hp⟩ eD ts
end
section
variable {K : PySem.W.Frag} {st pd pl : Addr} {σ : L2.St} {H H0 : Hp} {te : TE} {P : PyData → Prop} {R : List PyData → Prop} {tz : TS} {D : Ends} {Q : VK}
theorem q_setN {i : Nat} (S : Stream H st pd pl) (h : EvN K st pd pl te σ H P) (k : ∀ v d H1, SK st pd pl H H1 → P d → Tp K H1 v d → tz D (σ.set i (some v)) H1) : tSeq (tAsg te (gName i)) tz D σ H := h H (.refl S) _ fun v d H1 s p t => k v d H1 s p t
theorem q_setNL {i : Nat} (S : Stream H st pd pl) (h : EvNL K st pd pl te σ H R) (k : ∀ p xs ds H1, H p = none → SK st pd pl H H1 → R ds → H1 p = some (.lst xs) → TpL K H1 xs ds → tz D (σ.set i (some (.ref p))) H1) : tSeq (tAsg te (gName i)) tz D σ H := h H (.refl S) _ fun p xs ds H1 n s r e l => k p xs ds H1 n s r e l
theorem retN (s : SK st pd pl H0 H) (h : EvN K st pd pl te σ H P) (k : ∀ v d H', SK st pd pl H0 H' → P d → Tp K H' v d → Q v H') (e : D.rt = Q) : tRet te D σ H := by
  show te σ H D.rt
  rw [e]
  exact h H (.refl s.s1) _ fun v d H1 s1 p t => k v d H1 (s.trans s1) p t
end
/-! what is drawn -/
def nmsP (x : Str) : Prop := x ∈ nms
def delP (o : Option Str) : Prop := o = none ∨ o = some "(" ∨ o = some ")" ∨ o = some "@alpha"
def bI : Nat → Nat
  | 0 => 1
  | n + 1 => 8 * bI n + 12
def bN : Nat → Nat
  | 0 => 1
  | n + 1 => 4 * bI n + 6
structure DrI (n : Nat) (i : FItem) : Prop where
  dep : i.dep ≤ n
  len : i.words.length ≤ bI n
  good : i.good nmsP delP
structure DrN (n : Nat) (i : FNuc) : Prop where
  dep : i.dep ≤ n
  len : i.words.length ≤ bN n
  good : i.good nmsP delP
structure DrR (n m : Nat) (r : FRow) : Prop where
  len : r.items.length ≤ m
  all : ∀ i ∈ r.items, DrI n i
theorem DrR.dep {n m : Nat} {r : FRow} (h : DrR n m r) : r.dep ≤ n := FRow.dep_le.mpr fun i hi => (h.all i hi).dep
theorem DrR.good {n m : Nat} {r : FRow} (h : DrR n m r) : r.good nmsP delP := (FRow.good_iff _ _).mpr fun i hi => (h.all i hi).good
theorem DrR.words {n m : Nat} {r : FRow} (h : DrR n m r) : r.words.length ≤ m * bI n := by
  have : ∀ l : List FItem, (∀ i ∈ l, DrI n i) → (l.flatMap FItem.words).length ≤ l.length * bI n := by
    intro l
    induction l with
    | nil => intro _; simp
    | cons i l ih =>
      intro a
      have b := ih fun j hj => a j (List.mem_cons_of_mem _ hj)
      have c := (a i (List.mem_cons_self ..)).len
      rw [List.flatMap_cons, List.length_append, List.length_cons, Nat.succ_mul]
      omega
  rw [FRow.words_eq]
  exact Nat.le_trans (this _ h.all) (Nat.mul_le_mul_right _ h.len)
theorem DrR.of {n m : Nat} {l : List FItem} (hl : l.length ≤ m) (h : ∀ i ∈ l, DrI n i) : DrR n m (FRow.of l) := ⟨by rw [FRow.items_of]; exact hl, by rw [FRow.items_of]; exact h⟩
def spLRow (K : PySem.W.Frag) (n : Nat) : Sp := fun vs H Q _ => ∃ (st pd pl : Addr) (dp most : Int), vs = [.ref st, .int dp, .int most] ∧ Stream H st pd pl ∧ 1 ≤ n ∧ dp + n = 4 ∧ 0 ≤ most ∧ most ≤ 10 ∧ ∀ v r H', SK st pd pl H H' → DrR (n - 1) most.toNat r → Tp K H' v r.d → Q v H'
def spLNuc (K : PySem.W.Frag) (n : Nat) : Sp := fun vs H Q _ => ∃ (st pd pl : Addr) (dp : Int), vs = [.ref st, .int dp] ∧ Stream H st pd pl ∧ dp + n = 3 ∧ ∀ v (m : FNuc) H', SK st pd pl H H' → DrN n m → Tp K H' v m.d → Q v H'
def spLItem (K : PySem.W.Frag) (n : Nat) : Sp := fun vs H Q _ => ∃ (st pd pl : Addr) (dp : Int), vs = [.ref st, .int dp] ∧ Stream H st pd pl ∧ dp + n = 3 ∧ ∀ v (m : FItem) H', SK st pd pl H H' → DrI n m → Tp K H' v m.d → Q v H'
section
variable {P : Program} {w : World} {K : PySem.W.Frag} {mg : Str → Option Value} {base : Heap}
theorem scLRow : FnScope ["stream", "depth", "most", "k"] ["stream", "depth", "most"] (defScope sLRow) := ⟨rfl, rfl, rfl, by decide +kernel, rfl, by decide +kernel, by decide +kernel⟩
theorem items_of_ds {Q : FItem → Prop} : ∀ {ds : List PyData}, (∀ d ∈ ds, ∃ i : FItem, d = i.d ∧ Q i) → ∃ l : List FItem, ds = l.map FItem.d ∧ l.length = ds.length ∧ ∀ i ∈ l, Q i
  | [], _ => ⟨[], rfl, rfl, fun i h => nomatch h⟩
  | d :: ds, h => by
    obtain ⟨i, rfl, q⟩ := h d (List.mem_cons_self ..)
    obtain ⟨l, e, el, hl⟩ := items_of_ds fun d' h' => h d' (List.mem_cons_of_mem _ h')
    exact ⟨i :: l, by rw [e]; rfl, by rw [List.length_cons, List.length_cons, el], fun j hj => (List.mem_cons.mp hj).elim (fun z => z ▸ q) (hl j)⟩
theorem ok_lrow1 {n : Nat} {f : Addr} {fd : FuncData} (F : Fun K "_law_row" "_law_row" sLRow f fd) (T : TxtB mg) (C_law_next : Cal P w K mg base CX0 1 "_law_next" ["stream", "many"] spNext) (C_law_item : Cal P w K mg base CX0 (3 * n + 3) "_law_item" ["stream", "depth"] (spLItem K n)) : FnOk P w K mg base CX0 (3 * n + 4) f fd ["stream", "depth", "most"] (spLRow K (n + 1)) := by
  have sc := scLRow
  refine F.ok scLRow (fun vs H Q E h => ?_) (fun cdv A outer s H vs Q E hr h => ?_)
  · obtain ⟨st, pd, pl, dp, most, rfl, _⟩ := h
    rfl
  · obtain ⟨st, pd, pl, dp, most, rfl, S, _, hd, m0, m1, k⟩ := h
    refine ⟨_, (pss_one (ps_ret (pe_callTy call_tuple_of (by rfl) T.b_tuple (by decide +kernel) (pa_cons (pe_lc (own := [("k", 3)]) rfl sc.nd (pi_range1 rfl T.range (pa_cons (pe_cal C_law_next (hr.mono (by omega)) rfl pass0 (pa_cons (pv 0) (pa_cons (pe_op op_add (pv 2) pe_int) pa_nil))) pa_nil)) (blkOk_by (own := [("k", 3)]) (N := ["stream", "depth", "most", "k"]) (sc := defScope sLRow) (by decide +kernel)) (fun _ _ _ _ _ => (pg_name (i := 3) sc.nd rfl (Or.inl rfl))) (fun _ _ _ _ _ => pts_nil) (fun _ _ _ _ _ => (pe_cal C_law_item (hr.mono (by omega)) rfl pass0 (pa_cons (pv 0) (pa_cons (pv 1) pa_nil))))) pa_nil)))), ?_⟩
    refine n_tupOf (K := K) (st := st) (pd := pd) (pl := pl) (H := H) (fun p xs H Q hs hq => ⟨p, xs, rfl, .inl ⟨hs, hq⟩⟩) (nl_range (A := fun i => 0 ≤ i ∧ i < most + 1) (P := fun d => ∃ i : FItem, d = i.d ∧ DrI n i) ?_ (fun i hi => by omega) (fun x => rfl) ?_) H (.refl S) _ ?_
    · exact n_call (vs := [.ref st, .int (most + 1)]) (fun H Q q => ⟨_, rfl, _, rfl, _, _, rfl, rfl, q⟩) fun H1 s Q q => ⟨st, pd, pl, most + 1, rfl, by omega, s.s1, fun v H2 a b kb S => q _ _ H2 ⟨s.s1, S, kb⟩ ⟨v, rfl, a, b⟩ (.int _)⟩
    · exact fun i H1 s => n_call (vs := [.ref st, .int dp]) (fun H Q q => ⟨_, rfl, _, rfl, q⟩) fun H2 s2 Q q => ⟨st, pd, pl, dp, rfl, s2.s1, by omega, fun v m H3 s3 dr t => q _ _ H3 s3 ⟨m, rfl, dr⟩ t⟩
    · rintro v d H2 s2 ⟨ds, rfl, i, ai, el, hp⟩ t
      obtain ⟨l, rfl, ll, hl⟩ := items_of_ds hp
      refine k v (FRow.of l) H2 s2 (.of (by omega) hl) ?_
      rw [FRow.d, FRow.ds_eq, FRow.items_of]
      exact t
theorem scLNuc : FnScope ["stream", "depth", "kind", "over", "ends", "width", "rows", "k", "j"] ["stream", "depth"] (defScope sLNuc) := ⟨rfl, rfl, rfl, by decide +kernel, rfl, by decide +kernel, by decide +kernel⟩
theorem r_row {σ : L2.St} {H : Hp} {st pd pl : Addr} {n : Nat} {E : XK} {tas : TA} {dp m : Int} (ha : ∀ (H : Hp) (Q : List V → Hp → Prop), Q [.ref st, .int dp, .int m] H → tas σ H Q) (hd : dp + n = 4) (h1 : 1 ≤ n) (m0 : 0 ≤ m) (m1 : m ≤ 10) : EvN K st pd pl (tCall (spLRow K n) [] E tas) σ H (fun d => ∃ r : FRow, d = r.d ∧ DrR (n - 1) m.toNat r) :=
  n_call ha fun H1 s Q q => ⟨st, pd, pl, dp, m, rfl, s.s1, h1, hd, m0, m1, fun v r H2 s2 dr t => q _ _ H2 s2 ⟨r, rfl, dr⟩ t⟩
theorem nu_of {n : Nat} {m : FNuc} (h1 : m.dep ≤ n + 1) (h2 : m.words.length ≤ 4 * bI n + 6) (h3 : m.good nmsP delP) : DrN (n + 1) m := ⟨h1, h2, h3⟩
def ends4 : List PyData := [.none, .str "(", .str ")", .str "@alpha"]
theorem ends_ok {d : PyData} (h : d ∈ ends4) : ∃ o, d = optD o ∧ delP o := by
  simp only [ends4, List.mem_cons, List.not_mem_nil, or_false] at h
  rcases h with rfl | rfl | rfl | rfl
  · exact ⟨none, rfl, .inl rfl⟩
  · exact ⟨some "(", rfl, .inr (.inl rfl)⟩
  · exact ⟨some ")", rfl, .inr (.inr (.inl rfl))⟩
  · exact ⟨some "@alpha", rfl, .inr (.inr (.inr rfl))⟩
theorem cells_of_ds {Q : FRow → Prop} : ∀ {ds : List PyData}, (∀ d ∈ ds, ∃ i : FRow, d = i.d ∧ Q i) → ∃ l : List FRow, ds = l.map FRow.d ∧ l.length = ds.length ∧ ∀ i ∈ l, Q i
  | [], _ => ⟨[], rfl, rfl, fun i h => nomatch h⟩
  | d :: ds, h => by
    obtain ⟨i, rfl, q⟩ := h d (List.mem_cons_self ..)
    obtain ⟨l, e, el, hl⟩ := cells_of_ds fun d' h' => h d' (List.mem_cons_of_mem _ h')
    exact ⟨i :: l, by rw [e]; rfl, by rw [List.length_cons, List.length_cons, el], fun j hj => (List.mem_cons.mp hj).elim (fun z => z ▸ q) (hl j)⟩
theorem lines_of_ds {Q : FCells → Prop} : ∀ {ds : List PyData}, (∀ d ∈ ds, ∃ i : FCells, d = i.d ∧ Q i) → ∃ l : List FCells, ds = l.map FCells.d ∧ l.length = ds.length ∧ ∀ i ∈ l, Q i
  | [], _ => ⟨[], rfl, rfl, fun i h => nomatch h⟩
  | d :: ds, h => by
    obtain ⟨i, rfl, q⟩ := h d (List.mem_cons_self ..)
    obtain ⟨l, e, el, hl⟩ := lines_of_ds fun d' h' => h d' (List.mem_cons_of_mem _ h')
    exact ⟨i :: l, by rw [e]; rfl, by rw [List.length_cons, List.length_cons, el], fun j hj => (List.mem_cons.mp hj).elim (fun z => z ▸ q) (hl j)⟩
theorem cells_words_le {b : Nat} {s : Str} : ∀ {c : FCells}, (∀ r ∈ c.rows, r.words.length ≤ b) → (c.words s).length ≤ c.rows.length * (b + 1)
  | .nil, _ => by simp [FCells.words]
  | .cons r c, h => by
    have h1 := h r (List.mem_cons_self ..)
    have h2 := cells_words_le (s := "&") (c := c) fun q hq => h q (List.mem_cons_of_mem _ hq)
    rw [FCells.words, FCells.rows, List.length_cons, List.length_append, List.length_cons, Nat.succ_mul]
    omega
theorem grid_words_le {b m : Nat} {s : Str} : ∀ {g : FGrid}, (∀ c ∈ g.lines, c.rows.length ≤ m) → (∀ c ∈ g.lines, ∀ r ∈ c.rows, r.words.length ≤ b) → (g.words s).length ≤ g.lines.length * (m * (b + 1))
  | .nil, _, _ => by simp [FGrid.words]
  | .cons c g, h, h' => by
    have h1 := cells_words_le (s := s) (h' c (List.mem_cons_self ..))
    have h2 := grid_words_le (s := "~") (g := g) (fun q hq => h q (List.mem_cons_of_mem _ hq)) fun q hq => h' q (List.mem_cons_of_mem _ hq)
    have h3 := Nat.mul_le_mul_right (b + 1) (h c (List.mem_cons_self ..))
    rw [FGrid.words, FGrid.lines, List.length_append, List.length_cons, Nat.succ_mul]
    omega
theorem ok_lnuc {n : Nat} (hn : n ≤ 3) {f : Addr} {fd : FuncData} (F : Fun K "_law_nucleus" "_law_nucleus" sLNuc f fd) (T : TxtB mg) (C_law_next : Cal P w K mg base CX0 1 "_law_next" ["stream", "many"] spNext) (C_law_names : Cal P w K mg base CX0 1 "_law_names" [] spNames)
    (C_law_row : Cal P w K mg base CX0 (3 * n + 1) "_law_row" ["stream", "depth", "most"] (spLRow K n)) : FnOk P w K mg base CX0 (3 * n + 2) f fd ["stream", "depth"] (spLNuc K n) := by
  have sc := scLNuc
  refine F.ok scLNuc (fun vs H Q E h => ?_) (fun cdv A outer s H vs Q E hr h => ?_)
  · obtain ⟨st, pd, pl, dp, rfl, _⟩ := h
    rfl
  · obtain ⟨st, pd, pl, dp, rfl, S, hd, k⟩ := h
    refine ⟨_, (pss_cons (ps_set (i := 2) sc.nd rfl (Or.inl rfl) (pe_cal C_law_next (hr.mono (by omega)) rfl pass0 (pa_cons (pv 0) (pa_cons pe_int pa_nil))))
  (pss_cons (ps_if (PW.pt (pw_or (pt_cmpR op_gt (pv 1) pe_int (nomark _)) (pw_or1 (pt_cmpR op_lt (pv 2) pe_int (nomark _)))))
  (pss_one (ps_ret (pe_tup (pa_cons pe_str (pa_cons (pe_ix ix_list (by exact (pe_cal0 C_law_names (hr.mono (by omega)) rfl pass0)) (pe_cal C_law_next (hr.mono (by omega)) rfl pass0 (pa_cons (pv 0) (pa_cons pe_int pa_nil))) (fun _ _ => rfl)) pa_nil)))))
  pss_nil)
  (pss_cons (ps_if (pt_cmpR op_eq (pv 2) pe_int (nomark _))
  (pss_one (ps_ret (pe_tup (pa_cons pe_str (pa_cons (pe_cal C_law_row (hr.mono (by omega)) rfl pass0 (pa_cons (pv 0) (pa_cons (pe_op op_add (pv 1) pe_int) (pa_cons pe_int pa_nil)))) pa_nil)))))
  pss_nil)
  (pss_cons (ps_if (pt_cmpR op_eq (pv 2) pe_int (nomark _))
  (pss_cons (ps_set (i := 3) sc.nd rfl (Or.inl rfl) (pe_cal C_law_row (hr.mono (by omega)) rfl pass0 (pa_cons (pv 0) (pa_cons (pe_op op_add (pv 1) pe_int) (pa_cons pe_int pa_nil)))))
  (pss_one (ps_ret (pe_tup (pa_cons pe_str (pa_cons (pv 3) (pa_cons (pe_cal C_law_row (hr.mono (by omega)) rfl pass0 (pa_cons (pv 0) (pa_cons (pe_op op_add (pv 1) pe_int) (pa_cons pe_int pa_nil)))) pa_nil)))))))
  pss_nil)
  (pss_cons (ps_if (pt_cmpR op_eq (pv 2) pe_int (nomark _))
  (pss_one (ps_ret (pe_tup (pa_cons pe_str (pa_cons (pe_cal C_law_row (hr.mono (by omega)) rfl pass0 (pa_cons (pv 0) (pa_cons (pe_op op_add (pv 1) pe_int) (pa_cons pe_int pa_nil)))) pa_nil)))))
  pss_nil)
  (pss_cons (ps_if (pt_cmpR op_eq (pv 2) pe_int (nomark _))
  (pss_cons (ps_setLc (i := 4) (own := [("k", 7)]) rfl sc.nd rfl rfl (sw_true rfl rfl rfl (by decide +kernel)) (pi_range1 rfl T.range (pa_cons pe_int pa_nil)) (blkOk_by (own := [("k", 7)]) (N := ["stream", "depth", "kind", "over", "ends", "width", "rows", "k", "j"]) (sc := defScope sLNuc) (by decide +kernel)) (fun _ _ _ _ _ => (pg_name (i := 7) sc.nd rfl (Or.inl rfl))) (fun _ _ _ _ _ => pts_nil) (fun _ _ _ _ _ => (pe_ix (r := rIxL K) ix_list (pe_lst (pa_cons pe_non (pa_cons pe_str (pa_cons pe_str (pa_cons pe_str pa_nil))))) (pe_cal C_law_next (hr.mono (by omega)) rfl pass0 (pa_cons (pv 0) (pa_cons pe_int pa_nil))) (fun _ _ => rfl))))
  (pss_one (ps_ret (pe_tup (pa_cons pe_str (pa_cons (pe_ix ix_list (pv 4) pe_int (fun _ _ => rfl)) (pa_cons (pe_ix ix_list (pv 4) pe_int (fun _ _ => rfl)) (pa_cons (pe_cal C_law_row (hr.mono (by omega)) rfl pass0 (pa_cons (pv 0) (pa_cons (pe_op op_add (pv 1) pe_int) (pa_cons pe_int pa_nil)))) pa_nil))))))))
  pss_nil)
  (pss_cons (ps_set (i := 5) sc.nd rfl (Or.inl rfl) (pe_op op_add pe_int (pe_cal C_law_next (hr.mono (by omega)) rfl pass0 (pa_cons (pv 0) (pa_cons pe_int pa_nil)))))
  (pss_cons (ps_set (i := 6) sc.nd rfl (Or.inl rfl) (pe_lst pa_nil))
  (pss_cons (ps_for PassesOwn.never rfl (pi_range1 rfl T.range (pa_cons (pe_op op_add pe_int (pe_cal C_law_next (hr.mono (by omega)) rfl pass0 (pa_cons (pv 0) (pa_cons pe_int pa_nil)))) pa_nil)) (pg_name (i := 7) sc.nd rfl (Or.inl rfl))
  (pss_one (ps_expr (pe_bm PySem.F.plainAttrs_list PySem.F.slot_list_append PySem.F.type_list_append mt_append (pv 6) (pa_cons (pe_callTy call_tuple_of (by rfl) T.b_tuple (by decide +kernel) (pa_cons (pe_lc (own := [("j", 8)]) rfl sc.nd (pi_range1 rfl T.range (pa_cons (pv 5) pa_nil)) (blkOk_by (own := [("j", 8)]) (N := ["stream", "depth", "kind", "over", "ends", "width", "rows", "k", "j"]) (sc := defScope sLNuc) (by decide +kernel)) (fun _ _ _ _ _ => (pg_name (i := 8) sc.nd rfl (Or.inl rfl))) (fun _ _ _ _ _ => pts_nil) (fun _ _ _ _ _ => (pe_cal C_law_row (hr.mono (by omega)) rfl pass0 (pa_cons (pv 0) (pa_cons (pe_op op_add (pv 1) pe_int) (pa_cons pe_int pa_nil)))))) pa_nil)) pa_nil)))))
  (pss_one (ps_ret (pe_tup (pa_cons pe_str (pa_cons (pe_callTy call_tuple_of (by rfl) T.b_tuple (by decide +kernel) (pa_cons (pv 6) pa_nil)) pa_nil)))))))))))))), ?_⟩
    have hst : ∀ {l : List (Option V)}, (some (V.ref st) :: l)[0]? = some (some (V.ref st)) := rfl
    refine n_next (K := K) (st := st) (pd := pd) (pl := pl) (H := H) rfl (by decide) H (.refl S) _ ?_
    rintro v d H1 s1 ⟨kd, rfl, k0, k12⟩ t1
    obtain rfl := tp_int t1
    -- the symbol
    have sym : ∀ D : Ends, D.rt = Q → ∀ σ : L2.St, σ[0]? = some (some (.ref st)) → ∀ te, te = tTup (tCons (tC (.str "symbol")) (tCons (tOp (rIxL K) (tCall spNames [] E0 tNil) (tCall spNext [] E0 (tCons (tVar 0) (tCons (tC (.int 12)) tNil)))) tNil)) → tRet te D σ H1 := by
      rintro D eD σ h0 te rfl
      show tTup _ σ H1 D.rt
      rw [eD]
      refine n_tup (K := K) (R := fun ds => ∃ x, ds = [.str "symbol", .str x] ∧ x ∈ nms) (fun H2 s2 Q2 q2 => na_cons (P := fun d => d = .str "symbol") (n_c (fun _ => .str _) rfl) (na_cons (P := fun d => ∃ x, d = .str x ∧ x ∈ nms) (n_ixL (R := fun ds => ds = nms.map PyData.str) ?_ (n_next h0 (by decide)) ?_) na_nil) H2 s2 Q2 ?_) ?_ H1 s1 _ ?_
      · intro H3 s3 Q3 q3
        refine ⟨rfl, fun l hl => q3 l _ _ _ hl (.of s3.s1 (same_new hl)) rfl upd_same (TpL.of_strs _)⟩
      · rintro ds i rfl ⟨i0, i1⟩
        obtain ⟨j, rfl⟩ := Int.eq_ofNat_of_zero_le i0
        have j12 : j < nms.length := by show j < 12; omega
        exact ⟨.str nms[j], atI_nat (map_get (List.getElem?_eq_getElem j12)), nms[j], rfl, List.getElem_mem j12⟩
      · rintro vs ds H3 s3 ⟨d, r, rfl, rfl, d2, r2, rfl, ⟨x, rfl, hx⟩, rfl⟩ ts
        exact q2 _ _ H3 s3 ⟨x, rfl, hx⟩ ts
      · rintro ds ⟨x, rfl, _⟩
        exact Nat.le_of_ble_eq_true rfl
      · rintro v d H2 s2 ⟨ds, rfl, x, rfl, hx⟩ t
        refine k v (.sym x) H2 (s1.trans s2) ⟨Nat.zero_le _, ?_, hx⟩ t
        show 1 ≤ bN n
        cases n with
        | zero => exact Nat.le_refl _
        | succ m => show 1 ≤ 4 * bI m + 6; omega
    by_cases c1 : 2 < dp
    · exact ⟨_, rfl, _, _, rfl, rfl, _, rfl, iteP (decide_eq_true c1) (sym _ rfl _ rfl _ rfl)⟩
    refine ⟨_, rfl, _, _, rfl, rfl, _, rfl, iteN (by simpa using c1) ?_⟩
    by_cases c2 : kd < 7
    · exact ⟨_, rfl, _, _, rfl, rfl, _, rfl, iteP (decide_eq_true c2) (sym _ rfl _ rfl _ rfl)⟩
    refine ⟨_, rfl, _, _, rfl, rfl, _, rfl, iteN (by simpa using c2) ?_⟩
    obtain ⟨m, rfl⟩ : ∃ m, n = m + 1 := ⟨n - 1, by omega⟩
    have hd4 : (dp + 1) + ((m + 1 : Nat) : Int) = 4 := by omega
    have row : ∀ {H2 : Hp} {σ : L2.St} {q : Int} {tas : TA}, (∀ (H : Hp) (Q : List V → Hp → Prop), Q [.ref st, .int (dp + 1), .int q] H → tas σ H Q) → 0 ≤ q → q ≤ 10 → EvN K st pd pl (tCall (spLRow K (m + 1)) [] E0 tas) σ H2 (fun d => ∃ r : FRow, d = r.d ∧ DrR m q.toNat r) := fun ha a b => r_row ha hd4 (by omega) a b
    by_cases c7 : kd = 7
    · subst c7
      refine ⟨_, rfl, rfl, _, rfl, iteP (decide_eq_true rfl) ?_⟩
      refine n_tup (K := K) (na_cons (P := fun d => d = .str "group") (n_c (fun _ => .str _) rfl) (na_cons (row (q := 2) (fun H Q q => ⟨_, rfl, _, rfl, _, _, rfl, rfl, q⟩) (by decide) (by decide)) na_nil)) ?_ H1 s1 _ ?_
      · rintro ds ⟨d, r, rfl, rfl, d2, r2, rfl, _, rfl⟩
        exact Nat.le_of_ble_eq_true rfl
      · rintro v d H2 s2 ⟨ds, rfl, d, r, rfl, rfl, d2, r2, rfl, ⟨q, rfl, dq⟩, rfl⟩ t
        have w1 : _ ≤ 2 * bI m := dq.words
        have d1 := dq.dep
        exact k v (.group q) H2 (s1.trans s2) (nu_of (by simp [FNuc.dep]; omega) (by simp [FNuc.words]; omega) dq.good) t
    refine ⟨_, rfl, rfl, _, rfl, iteN (by rw [decide_eq_true_eq]; intro z; injection z with z; exact c7 z) ?_⟩
    by_cases c8 : kd = 8
    · subst c8
      refine ⟨_, rfl, rfl, _, rfl, iteP (decide_eq_true rfl) ?_⟩
      refine row (q := 2) (fun H Q q => ⟨_, rfl, _, rfl, _, _, rfl, rfl, q⟩) (by decide) (by decide) H1 s1 _ ?_
      rintro vo do_ H2 s2 ⟨o, rfl, dro⟩ to
      refine n_tup (K := K) (na_cons (P := fun d => d = .str "frac") (n_c (fun _ => .str _) rfl) (na_cons (P := fun d => d = o.d) (n_var rfl to rfl) (na_cons (row (q := 2) (fun H Q q => ⟨_, rfl, _, rfl, _, _, rfl, rfl, q⟩) (by decide) (by decide)) na_nil))) ?_ H2 (.refl s2.s1) _ ?_
      · rintro ds ⟨d, r, rfl, rfl, d2, r2, rfl, rfl, d3, r3, rfl, _, rfl⟩
        exact Nat.le_of_ble_eq_true rfl
      · rintro v d H3 s3 ⟨ds, rfl, d, r, rfl, rfl, d2, r2, rfl, rfl, d3, r3, rfl, ⟨q, rfl, dq⟩, rfl⟩ t
        have w1 : _ ≤ 2 * bI m := dq.words
        have d1 := dq.dep
        have w2 : _ ≤ 2 * bI m := dro.words
        have d2 := dro.dep
        exact k v (.frac o q) H3 ((s1.trans s2).trans s3) (nu_of (by simp [FNuc.dep]; omega) (by simp [FNuc.words]; omega) ⟨dro.good, dq.good⟩) t
    refine ⟨_, rfl, rfl, _, rfl, iteN (by rw [decide_eq_true_eq]; intro z; injection z with z; exact c8 z) ?_⟩
    by_cases c9 : kd = 9
    · subst c9
      refine ⟨_, rfl, rfl, _, rfl, iteP (decide_eq_true rfl) ?_⟩
      refine n_tup (K := K) (na_cons (P := fun d => d = .str "root") (n_c (fun _ => .str _) rfl) (na_cons (row (q := 2) (fun H Q q => ⟨_, rfl, _, rfl, _, _, rfl, rfl, q⟩) (by decide) (by decide)) na_nil)) ?_ H1 s1 _ ?_
      · rintro ds ⟨d, r, rfl, rfl, d2, r2, rfl, _, rfl⟩
        exact Nat.le_of_ble_eq_true rfl
      · rintro v d H2 s2 ⟨ds, rfl, d, r, rfl, rfl, d2, r2, rfl, ⟨q, rfl, dq⟩, rfl⟩ t
        have w1 : _ ≤ 2 * bI m := dq.words
        have d1 := dq.dep
        exact k v (.root q) H2 (s1.trans s2) (nu_of (by simp [FNuc.dep]; omega) (by simp [FNuc.words]; omega) dq.good) t
    refine ⟨_, rfl, rfl, _, rfl, iteN (by rw [decide_eq_true_eq]; intro z; injection z with z; exact c9 z) ?_⟩
    by_cases c10 : kd = 10
    · subst c10
      refine ⟨_, rfl, rfl, _, rfl, iteP (decide_eq_true rfl) ?_⟩
      refine q_setNL s1.s1 (nl_range (K := K) (A := fun i => i = 2) (P := fun d => d ∈ ends4) (n_intC rfl) (fun i hi => by omega) (fun x => rfl) ?_) ?_
      · intro i H2 s2
        refine n_ixL (R := fun ds => ds = ends4) (nl_lst (fun H3 s3 Q3 q3 => na_cons (K := K) (P := fun d => d = .none) (n_c (fun _ => .non) rfl) (na_cons (P := fun d => d = .str "(") (n_c (fun _ => .str _) rfl) (na_cons (P := fun d => d = .str ")") (n_c (fun _ => .str _) rfl) (na_cons (P := fun d => d = .str "@alpha") (n_c (fun _ => .str _) rfl) na_nil))) H3 s3 Q3 ?_) ?_) (n_next rfl (by decide)) ?_
        · rintro vs ds H4 s4 ⟨d, r, rfl, rfl, d2, r2, rfl, rfl, d3, r3, rfl, rfl, d4, r4, rfl, rfl, rfl⟩ ts
          exact q3 _ _ H4 s4 rfl ts
        · rintro ds rfl
          exact Nat.le_of_ble_eq_true rfl
        · rintro ds i rfl ⟨i0, i1⟩
          obtain ⟨j, rfl⟩ := Int.eq_ofNat_of_zero_le i0
          have j4 : j < ends4.length := by show j < 4; omega
          exact ⟨ends4[j], atI_nat (List.getElem?_eq_getElem j4), List.getElem_mem j4⟩
      · rintro p xs ds H2 hp s2 ⟨i, rfl, el, hds⟩ e l
        obtain ⟨da, db, rfl⟩ : ∃ a b, ds = [a, b] := by
          match ds, el with
          | [a, b], _ => exact ⟨a, b, rfl⟩
        cases l with
        | cons ta l => cases l with
        | cons tb l => cases l with
        | nil =>
        rename_i va vb
        obtain ⟨oa, rfl, pa⟩ := ends_ok (hds da (by simp))
        obtain ⟨ob, rfl, pb⟩ := ends_ok (hds db (by simp))
        have eL : ∀ {H3 : Hp}, SK st pd pl H2 H3 → SqL K H3 p [va, vb] := fun s3 => SqL.of (s3.kb _ _ e (s1.s1.ne hp))
        refine n_tup (K := K) (na_cons (P := fun d => d = .str "fence") (n_c (fun _ => .str _) rfl) (na_cons (P := fun d => d = optD oa) (fun H3 s3 Q3 q3 => ⟨_, rfl, p, _, 0, va, rfl, rfl, eL s3, atI_nat (show [va, vb][0]? = some va from rfl), q3 va _ H3 (.refl s3.s1) rfl (ta.stay s3.tup)⟩) (na_cons (P := fun d => d = optD ob) (fun H3 s3 Q3 q3 => ⟨_, rfl, p, _, 1, vb, rfl, rfl, eL s3, atI_nat (show [va, vb][1]? = some vb from rfl), q3 vb _ H3 (.refl s3.s1) rfl (tb.stay s3.tup)⟩) (na_cons (row (q := 3) (fun H Q q => ⟨_, rfl, _, rfl, _, _, rfl, rfl, q⟩) (by decide) (by decide)) na_nil)))) ?_ H2 (.refl s2.s1) _ ?_
        · rintro ds ⟨d, r, rfl, rfl, d2, r2, rfl, rfl, d3, r3, rfl, rfl, d4, r4, rfl, _, rfl⟩
          exact Nat.le_of_ble_eq_true rfl
        · rintro v d H3 s3 ⟨ds, rfl, d, r, rfl, rfl, d2, r2, rfl, rfl, d3, r3, rfl, rfl, d4, r4, rfl, ⟨q, rfl, dq⟩, rfl⟩ t
          have w1 : _ ≤ 3 * bI m := dq.words
          have d1 := dq.dep
          exact k v (.fence oa ob q) H3 ((s1.trans s2).trans s3) (nu_of (by simp [FNuc.dep]; omega) (by simp [FNuc.words]; omega) ⟨pa, pb, dq.good⟩) t
    refine ⟨_, rfl, rfl, _, rfl, iteN (by rw [decide_eq_true_eq]; intro z; injection z with z; exact c10 z) ?_⟩
    -- a grid
    refine n_addI (K := K) (st := st) (pd := pd) (pl := pl) (H := H) (A := fun i => i = 1) (n_intC rfl) (n_next rfl (by decide)) H1 s1 _ ?_
    rintro vw dw H2 s2 ⟨wd, rfl, i1, j1, ew, rfl, j0, j2⟩ tw
    obtain rfl := tp_int tw
    refine ⟨Nat.zero_le _, fun p hp => ?_⟩
    have sp : SK st pd pl H2 (upd H2 p (.lst [])) := .of s2.s1 (same_new hp)
    have hpH := (s1.trans s2).free hp
    refine n_addI (K := K) (st := st) (pd := pd) (pl := pl) (H := upd H2 p (.lst [])) (A := fun i => i = 1) (n_intC rfl) (n_next rfl (by decide)) (upd H2 p (.lst [])) (.refl sp.s1) _ ?_
    rintro vh dh H3 s3 ⟨ht, rfl, i2, j3, eh, rfl, j4, j5⟩ th
    obtain rfl := tp_int th
    have ep3 := s3.kb _ _ upd_same (s2.s1.ne hp)
    refine ⟨ht, rfl, by omega, by omega, for_range (n := ht.toNat) (fun i σ' H' => ∃ (x7 : Option V) (xs : List V) (ls : List FCells), σ' = [some (.ref st), some (.int dp), some (.int kd), none, none, some (.int wd), some (.ref p), x7, none] ∧ SK st pd pl H H' ∧ H' p = some (.lst xs) ∧ TpL K H' xs (ls.map FCells.d) ∧ ls.length = i ∧ ∀ c ∈ ls, c.rows.length = wd.toNat ∧ ∀ r ∈ c.rows, DrR m 1 r) ⟨_, [], [], rfl, ((s1.trans s2).trans sp).trans s3, ep3, .nil, rfl, fun c h => nomatch h⟩ ?_ ?_⟩
    · rintro i σ' H' hi ⟨x7, xs, ls, rfl, s', ep, ts, el, hls⟩
      refine ⟨_, rfl, .inl ⟨rfl, _, SqL.of ep⟩, ?_⟩
      refine n_tupOf (K := K) (st := st) (pd := pd) (pl := pl) (H := H) (fun p xs H Q hs hq => ⟨p, xs, rfl, .inl ⟨hs, hq⟩⟩) (nl_range (A := fun i => i = wd) (P := fun d => ∃ r : FRow, d = r.d ∧ DrR m 1 r) (n_var rfl (.int _) ⟨wd, rfl, rfl⟩) (fun i hi => by omega) (fun x => rfl) (fun i H4 s4 => row (q := 1) (fun H Q q => ⟨_, rfl, _, rfl, _, _, rfl, rfl, q⟩) (by decide) (by decide))) H' s' _ ?_
      rintro v d H4 s4 ⟨ds, rfl, i', rfl, ell, hds⟩ t
      obtain ⟨rs, rfl, erl, hrs⟩ := cells_of_ds hds
      have ep4 := s4.kb _ _ ep (s'.s0.ne hpH)
      refine ⟨p, xs, v, rfl, rfl, ep4, by rw [ts.len, List.length_map]; exact sz6 (by omega), ?_⟩
      refine ⟨_, xs ++ [v], ls ++ [FCells.of rs], rfl, (s'.trans s4).own hpH, upd_same, ?_, by rw [List.length_append, el]; rfl, fun c hc => ?_⟩
      · rw [List.map_append]
        refine ((ts.stay s4.tup).app (.one ?_)).stay (.keep keep_upd ep4)
        rw [FCells.d, FCells.ds_eq, FCells.rows_of]
        exact t
      · rcases List.mem_append.mp hc with hc | hc
        · exact hls c hc
        · cases List.mem_singleton.mp hc
          rw [FCells.rows_of]
          exact ⟨by omega, hrs⟩
    · rintro σ' H' ⟨x7, xs, ls, rfl, s', ep, ts, el, hls⟩
      dsimp only
      refine n_tup (K := K) (st := st) (pd := pd) (pl := pl) (H := H') (na_cons (P := fun d => d = .str "grid") (n_c (fun _ => .str _) rfl) (na_cons (P := fun d => d = .tuple (ls.map FCells.d)) (fun H4 s4 Q4 q4 => ?_) na_nil)) ?_ H' (.refl s'.s1) _ ?_
      · have ep4 := s4.kb _ _ ep (s'.s0.ne hpH)
        refine ⟨_, rfl, p, xs, rfl, .inl ⟨SqL.of ep4, fun a ha => q4 _ _ _ (.of s4.s1 (same_new ha)) rfl (.mk (SqT.of upd_same) ((ts.stay s4.tup).stay (.of (same_new ha))))⟩⟩
      · rintro ds ⟨d, r, rfl, rfl, d2, r2, rfl, rfl, rfl⟩
        exact Nat.le_of_ble_eq_true rfl
      · rintro v d H4 s4 ⟨ds, rfl, d, r, rfl, rfl, d2, r2, rfl, rfl, rfl⟩ t
        have eg : (FNuc.grid (FGrid.of ls)).d = .tuple [.str "grid", .tuple (ls.map FCells.d)] := by rw [FNuc.d, FGrid.ds_eq, FGrid.lines_of]
        have hc : ∀ c ∈ (FGrid.of ls).lines, c.rows.length = wd.toNat ∧ ∀ r ∈ c.rows, DrR m 1 r := by
          rw [FGrid.lines_of]
          exact hls
        have wg := grid_words_le (s := "{") (g := FGrid.of ls) (m := 2) (b := bI m) (fun c h => by rw [(hc c h).1]; omega) fun c h r hr => by have := ((hc c h).2 r hr).words; omega
        rw [FGrid.lines_of] at wg
        have wl : ls.length * (2 * (bI m + 1)) ≤ 2 * (2 * (bI m + 1)) := Nat.mul_le_mul_right _ (by omega)
        refine k v (.grid (FGrid.of ls)) H4 (s'.trans s4) (nu_of ?_ ?_ ?_) (eg ▸ t)
        · rw [FNuc.dep]
          refine FGrid.dep_le.mpr fun r hr => ?_
          rw [FGrid.all_eq] at hr
          obtain ⟨c, h1, h2⟩ := List.mem_flatMap.mp hr
          have := ((hc c h1).2 r h2).dep
          omega
        · simp [FNuc.words]
          omega
        · refine ⟨(FGrid.good_iff _ _).mpr fun c h => (FCells.good_iff _ _).mpr fun r hr => ((hc c h).2 r hr).good, ?_, wd.toNat, by omega, by omega, fun c h => (hc c h).1⟩
          rw [FGrid.lines_of]
          omega
theorem scLItem : FnScope ["stream", "depth", "nucleus", "scripts", "k"] ["stream", "depth"] (defScope sLItem) := ⟨rfl, rfl, rfl, by decide +kernel, rfl, by decide +kernel, by decide +kernel⟩
def ScrOk (n : Nat) : FScr → Prop
  | .no => True
  | .yes r => ∃ m, n = m + 1 ∧ DrR m 2 r
theorem tpl_set {H : Hp} {v : V} {d : PyData} (t : Tp K H v d) : ∀ {vs : List V} {ds : List PyData} (i : Nat), TpL K H vs ds → TpL K H (vs.set i v) (ds.set i d)
  | _, _, _, .nil => .nil
  | _, _, 0, .cons _ b => .cons t b
  | _, _, i + 1, .cons a b => .cons a (tpl_set t i b)
theorem ixN_nat2 {n j : Nat} (hj : j < n) : ixN n (j : Int) = some j := by
  unfold ixN
  rw [if_pos (by omega), if_pos (by omega)]
  simp
theorem ok_litem {n : Nat} (hn : n ≤ 3) {f : Addr} {fd : FuncData} (F : Fun K "_law_item" "_law_item" sLItem f fd) (T : TxtB mg) (C_law_next : Cal P w K mg base CX0 1 "_law_next" ["stream", "many"] spNext) (C_law_nucleus : Cal P w K mg base CX0 (3 * n + 2) "_law_nucleus" ["stream", "depth"] (spLNuc K n))
    (C_law_row : Cal P w K mg base CX0 (3 * n + 1) "_law_row" ["stream", "depth", "most"] (spLRow K n)) : FnOk P w K mg base CX0 (3 * n + 3) f fd ["stream", "depth"] (spLItem K n) := by
  have sc := scLItem
  refine F.ok scLItem (fun vs H Q E h => ?_) (fun cdv A outer s H vs Q E hr h => ?_)
  · obtain ⟨st, pd, pl, dp, rfl, _⟩ := h
    rfl
  · obtain ⟨st, pd, pl, dp, rfl, S, hd, k⟩ := h
    refine ⟨_, (pss_cons (ps_set (i := 2) sc.nd rfl (Or.inl rfl) (pe_cal C_law_nucleus (hr.mono (by omega)) rfl pass0 (pa_cons (pv 0) (pa_cons (pv 1) pa_nil))))
  (pss_cons (ps_set (i := 3) sc.nd rfl (Or.inl rfl) (pe_lst (pa_cons pe_non (pa_cons pe_non pa_nil))))
  (pss_cons (ps_for PassesOwn.never rfl (pi_range1 rfl T.range (pa_cons pe_int pa_nil)) (pg_name (i := 4) sc.nd rfl (Or.inl rfl))
  (pss_one (ps_if (PW.pt (pw_and (pt_cmpR op_lt (pv 1) pe_int (nomark _)) (pw_and1 (pt_cmpR op_eq (pe_cal C_law_next (hr.mono (by omega)) rfl pass0 (pa_cons (pv 0) (pa_cons pe_int pa_nil))) pe_int (nomark _)))))
  (pss_one (ps_asg (pe_cal C_law_row (hr.mono (by omega)) rfl pass0 (pa_cons (pv 0) (pa_cons (pe_op op_add (pv 1) pe_int) (pa_cons pe_int pa_nil)))) (pg_sub (pv 3) (pv 4) set_list)))
  pss_nil)))
  (pss_one (ps_ret (pe_tup (pa_cons (pv 2) (pa_cons (pe_ix ix_list (pv 3) pe_int (fun _ _ => rfl)) (pa_cons (pe_ix ix_list (pv 3) pe_int (fun _ _ => rfl)) pa_nil))))))))), ?_⟩
    refine ⟨_, rfl, _, rfl, st, pd, pl, dp, rfl, S, hd, fun vn nu H1 s1 dn tn => ?_⟩
    refine ⟨(by show 2 ≤ sizeLine; decide), fun p hp => ?_⟩
    have hpH := s1.free hp
    have sp : SK st pd pl H (upd H1 p (.lst [.non, .non])) := s1.trans (.of s1.s1 (same_new hp))
    refine ⟨2, rfl, by decide, by decide, for_range (n := 2) (fun i σ' H' => ∃ (x4 : Option V) (xs : List V) (ss : List FScr), σ' = [some (.ref st), some (.int dp), some vn, some (.ref p), x4] ∧ SK st pd pl H H' ∧ Tp K H' vn nu.d ∧ H' p = some (.lst xs) ∧ TpL K H' xs (ss.map FScr.d) ∧ ss.length = 2 ∧ ∀ c ∈ ss, ScrOk n c) ⟨_, _, [.no, .no], rfl, sp, tn.stay (.of (same_new hp)), upd_same, .cons .non (.cons .non .nil), rfl, fun c hc => ?_⟩ ?_ ?_⟩
    · simp only [List.mem_cons, List.not_mem_nil, or_false] at hc
      rcases hc with rfl | rfl <;> trivial
    · rintro i σ' H' hi ⟨x4, xs, ss, rfl, s', tn', ep, ts, el, hss⟩
      refine ⟨_, rfl, _, _, rfl, rfl, _, rfl, ?_⟩
      by_cases c : dp < 3
      · refine iteP (decide_eq_true c) ?_
        obtain ⟨m, rfl⟩ : ∃ m, n = m + 1 := ⟨n - 1, by omega⟩
        refine n_next (K := K) (st := st) (pd := pd) (pl := pl) (H := H) rfl (by decide) H' s' _ ?_
        rintro v d H2 s2 ⟨z, rfl, z0, z5⟩ tz
        obtain rfl := tp_int tz
        refine ⟨rfl, _, rfl, ?_⟩
        by_cases cz : z = 0
        · subst cz
          refine iteP (decide_eq_true rfl) ?_
          refine r_row (K := K) (st := st) (pd := pd) (pl := pl) (n := m + 1) (dp := dp + 1) (m := 2) (fun H Q q => ⟨_, rfl, _, rfl, _, _, rfl, rfl, q⟩) (by omega) (by omega) (by decide) (by decide) H2 (.refl s2.s1) _ ?_
          rintro v d H3 s3 ⟨r, rfl, dr⟩ t
          have ep3 := s3.kb _ _ (s2.kb _ _ ep (s'.s0.ne hpH)) (s'.s0.ne hpH)
          have s23 := s2.trans s3
          have xl : xs.length = 2 := by rw [ts.len, List.length_map, el]
          refine ⟨_, rfl, _, rfl, p, xs, (i : Int), i, rfl, by simp, ep3, ixN_nat2 (by omega), ?_⟩
          refine ⟨_, xs.set i v, ss.set i (.yes r), rfl, (s'.trans s23).own hpH, (tn'.stay s23.tup).stay (.keep keep_upd ep3), upd_same, ?_, by rw [List.length_set, el], fun c hc => ?_⟩
          · rw [List.map_set]
            exact (tpl_set t i (ts.stay s23.tup)).stay (.keep keep_upd ep3)
          · rcases List.mem_or_eq_of_mem_set hc with hc | rfl
            · exact hss c hc
            · exact ⟨m, rfl, dr⟩
        · refine iteN (by rw [decide_eq_true_eq]; intro z; injection z with z; exact cz z) ?_
          exact ⟨_, xs, ss, rfl, s'.trans s2, tn'.stay s2.tup, s2.kb _ _ ep (s'.s0.ne hpH), ts.stay s2.tup, el, hss⟩
      · refine iteN (by simpa using c) ?_
        exact ⟨_, xs, ss, rfl, s', tn', ep, ts, el, hss⟩
    · rintro σ' H' ⟨x4, xs, ss, rfl, s', tn', ep, ts, el, hss⟩
      obtain ⟨sa, sb, rfl⟩ : ∃ a b, ss = [a, b] := by
        match ss, el with
        | [a, b], _ => exact ⟨a, b, rfl⟩
      cases ts with
      | cons ta ts => cases ts with
      | cons tb ts => cases ts with
      | nil =>
      rename_i va vb
      refine ⟨_, rfl, _, rfl, p, _, 0, va, rfl, rfl, SqL.of ep, atI_nat (show [va, vb][0]? = some va from rfl), _, rfl, p, _, 1, vb, rfl, rfl, SqL.of ep, atI_nat (show [va, vb][1]? = some vb from rfl), (by show 3 ≤ sizeLine; decide), fun q hq => ?_⟩
      have st2 : TupK H' (upd H' q (.tup [vn, va, vb])) := .of (same_new hq)
      have ha := hss sa (by simp)
      have hb := hss sb (by simp)
      have scr : ∀ (c : FScr) (s : Str), ScrOk n c → c.dep ≤ n ∧ c.good nmsP delP ∧ ∀ m, n = m + 1 → (c.words s).length ≤ 2 * bI m + 3 := fun c s hc => by
        cases c with
        | no => exact ⟨Nat.zero_le _, trivial, fun m _ => by simp [FScr.words]⟩
        | yes r =>
          obtain ⟨m, rfl, dr⟩ := hc
          have w1 : _ ≤ 2 * bI m := dr.words
          have d1 := dr.dep
          exact ⟨by rw [FScr.dep]; omega, dr.good, fun m' e => by
            have : m' = m := by omega
            subst this
            simp [FScr.words]
            omega⟩
      obtain ⟨a1, a2, a3⟩ := scr sa "_" ha
      obtain ⟨b1, b2, b3⟩ := scr sb "^" hb
      refine k (.ref q) (.mk nu sa sb) _ (s'.trans (.of s'.s1 (same_new hq))) ⟨?_, ?_, dn.good, a2, b2⟩ (.mk (SqT.of upd_same) (.cons (tn'.stay st2) (.cons (ta.stay st2) (.cons (tb.stay st2) .nil))))
      · have := dn.dep
        rw [FItem.dep]
        omega
      · have := dn.len
        rw [FItem.words, List.length_append, List.length_append]
        cases n with
        | zero =>
          have ea : sa = .no := by
            cases sa with
            | no => rfl
            | yes r =>
              obtain ⟨m, e, _⟩ := ha
              omega
          have eb : sb = .no := by
            cases sb with
            | no => rfl
            | yes r =>
              obtain ⟨m, e, _⟩ := hb
              omega
          subst ea
          subst eb
          exact this
        | succ m =>
          have a4 := a3 m rfl
          have b4 := b3 m rfl
          have e1 : bN (m + 1) = 4 * bI m + 6 := rfl
          show _ ≤ 8 * bI m + 12
          omega
/-- all of them, depth by depth -/
structure DrawOk (P : Program) (w : World) (K : PySem.W.Frag) (mg : Str → Option Value) (base : Heap) (n : Nat) : Prop where
  row : Cal P w K mg base CX0 (3 * n + 1) "_law_row" ["stream", "depth", "most"] (spLRow K n)
  nuc : Cal P w K mg base CX0 (3 * n + 2) "_law_nucleus" ["stream", "depth"] (spLNuc K n)
  item : Cal P w K mg base CX0 (3 * n + 3) "_law_item" ["stream", "depth"] (spLItem K n)
theorem draw_ok {f1 f2 f3 : Addr} {d1 d2 d3 : FuncData} (F1 : Fun K "_law_row" "_law_row" sLRow f1 d1) (F2 : Fun K "_law_nucleus" "_law_nucleus" sLNuc f2 d2) (F3 : Fun K "_law_item" "_law_item" sLItem f3 d3) (T : TxtB mg) (C_law_next : Cal P w K mg base CX0 1 "_law_next" ["stream", "many"] spNext) (C_law_names : Cal P w K mg base CX0 1 "_law_names" [] spNames)
    (c1 : mg "_law_row" = some (.ref f1) ∧ PySem.W.keepIn K (.ref f1) = true ∧ Binds K d1 ["stream", "depth", "most"] []) (c2 : mg "_law_nucleus" = some (.ref f2) ∧ PySem.W.keepIn K (.ref f2) = true ∧ Binds K d2 ["stream", "depth"] []) (c3 : mg "_law_item" = some (.ref f3) ∧ PySem.W.keepIn K (.ref f3) = true ∧ Binds K d3 ["stream", "depth"] []) :
    ∀ n, n ≤ 3 → DrawOk P w K mg base n := by
  have step : ∀ n, n ≤ 3 → Cal P w K mg base CX0 (3 * n + 1) "_law_row" ["stream", "depth", "most"] (spLRow K n) → DrawOk P w K mg base n := fun n hn h => by
    have hb : Cal P w K mg base CX0 (3 * n + 2) "_law_nucleus" ["stream", "depth"] (spLNuc K n) := ⟨f2, d2, ok_lnuc hn F2 T C_law_next C_law_names h, c2.1, c2.2.1, c2.2.2⟩
    exact ⟨h, hb, f3, d3, ok_litem hn F3 T C_law_next hb h, c3.1, c3.2.1, c3.2.2⟩
  intro n
  induction n with
  | zero => exact fun _ => step 0 (by decide) ⟨f1, d1, FnOk.vac fun vs H Q E ⟨_, _, _, _, _, _, _, h, _⟩ => absurd h (by decide), c1.1, c1.2.1, c1.2.2⟩
  | succ n ih => exact fun hn => step (n + 1) hn ⟨f1, d1, ok_lrow1 F1 T C_law_next (ih (by omega)).item, c1.1, c1.2.1, c1.2.2⟩
end
end Mg

set_option Elab.async false
set_option linter.all false
set_option maxRecDepth 100000
set_option maxHeartbeats 1000000
namespace Mg
open PySem L2 StX
abbrev sInner : Stmt := top 50
abbrev sLRows : Stmt := top 51
abbrev sPieces : Stmt := top 52
abbrev sGlued : Stmt := top 53
section
variable {K : PySem.W.Frag} {σ : L2.St} {H : Hp} {te tl : TE} {vs : List Nat}
theorem s_forR {n : Nat} {g : TG} {tu : TS} {D : Ends} (h : EvD K te σ H (.int (n : Int))) (hn : n ≤ 1000000) (Pv : Nat → L2.St → Hp → Prop) (h0 : ∀ H1, Same H H1 → Pv 0 σ H1)
    (hs : ∀ i σ' H', i < n → Pv i σ' H' → g (.int (i : Int)) σ' H' fun σ2 H2 => tu { D with nx := Pv (i + 1), ct := Pv (i + 1), bk := D.nx } σ2 H2) (hd : ∀ σ' H', Pv n σ' H' → D.nx σ' H') : tFor (iRng1 (tCons te tNil)) g tu D σ H := h H (.refl _) _ fun v H1 s tv => by
  cases tp_int tv
  refine ⟨(n : Int), rfl, by omega, by omega, ?_⟩
  refine for_range (lo := 0) (n := (n : Int).toNat) Pv (h0 H1 s) (fun i σ' H' hi p => ?_) (fun σ' H' p => hd σ' H' (by simpa using p))
  have := hs i σ' H' (by simpa using hi) p
  simpa using this
variable {tt : TT}
theorem l_lcLF {α : Type} {tt : TT} {j : Nat} (L : List α) (f : α → PyData) (p : α → Bool) (g : α → PyData) (h : EvDL K tl σ H (L.map f)) (hz : L.length ≤ 1000000) (hw : ∀ x, wipe ((wipe σ vs).set j (some x)) vs = wipe σ vs)
    (ht : ∀ a ∈ L, ∀ x H1, Same H H1 → Tp K H1 x (f a) → EvDT K tt ((wipe σ vs).set j (some x)) H1 (p a)) (he : ∀ a ∈ L, p a = true → ∀ x H1, Same H H1 → Tp K H1 x (f a) → EvD K te ((wipe σ vs).set j (some x)) H1 (g a)) : EvDL K (tLc (iList K tl) (gName j) tt te vs) σ H ((L.filter p).map g) := fun H0 s Q q => h H0 s _ fun a xs H1 ha s1 ea0 l => by
  have ll : xs.length = L.length := by rw [l.len, List.length_map]
  refine ⟨a, rfl, ⟨xs, SqL.of ea0⟩, fun D hD => ⟨fun i m H' => m = L.length - i ∧ i ≤ L.length ∧ Same H1 H' ∧ ∃ acc, H' D = some (.lst acc) ∧ TpL K H' acc (((L.take i).filter p).map g), ⟨L.length, by simp, Nat.zero_le _, same_new hD, [], upd_same, by simp; exact .nil⟩, ?_⟩⟩
  rintro i m H' ⟨rfl, hi, s2, acc, ea, ta⟩
  by_cases hlt : i < L.length
  · have hx : xs[i]? = some (xs[i]'(by omega)) := List.getElem?_eq_getElem (by omega)
    refine .inr ⟨⟨xs, _, SqL.of (s2 _ _ ea0), hx⟩, fun H3 => i + 1 ≤ L.length ∧ Same H1 H3 ∧ ∃ acc, H3 D = some (.lst acc) ∧ TpL K H3 acc (((L.take (i + 1)).filter p).map g), fun H3 h3 => ⟨L.length - (i + 1), by omega, rfl, h3⟩, fun x H'' y => ?_⟩
    obtain ⟨rfl, y⟩ := y
    have hx := y xs (SqL.of (s2 _ _ ea0))
    obtain ⟨d, e1, e2⟩ := l.get' hx
    obtain ⟨b, hb, rfl⟩ := get_map e1
    have bm := List.mem_of_getElem? hb
    have e2 := e2.stay (.of s2)
    have tk : L.take (i + 1) = L.take i ++ [b] := by
      rw [List.take_add_one, hb]
      rfl
    have sl : ((L.take i).filter p).length ≤ 1000000 := by
      have h1 := List.length_filter_le p (L.take i)
      rw [List.length_take] at h1
      omega
    refine ⟨hw x, ht b bm x H'' ((s.trans s1).trans s2) e2 H'' (Same.refl _) _ fun H3 s3 => ?_⟩
    cases hp : p b with
    | true =>
      refine iteT (B := _ ∧ _) ?_
      refine he b bm hp x H'' ((s.trans s1).trans s2) e2 H3 s3 _ fun v H4 s4 tv => ?_
      have ea4 := s4 _ _ (s3 _ _ ea)
      refine ⟨acc, ea4, by rw [ta.len, List.length_map]; have h1 := List.length_filter_le p (L.take i); rw [List.length_take] at h1; exact sz6 (by omega), hlt, same_upd_new ((s2.trans s3).trans s4) hD, _, upd_same, ?_⟩
      rw [tk, List.filter_append, List.map_append, List.filter_cons, if_pos hp]
      exact ((ta.stay (.of (s3.trans s4))).app (.one tv)).stay (.keep keep_upd ea4)
    | false =>
      refine iteF ?_
      refine ⟨hlt, s2.trans s3, acc, s3 _ _ ea, ?_⟩
      rw [tk, List.filter_append, List.map_append, List.filter_cons, if_neg (by rw [hp]; exact Bool.false_ne_true)]
      simpa using ta.stay (.of s3)
  · have e : i = L.length := by omega
    subst e
    refine .inl ⟨⟨xs, SqL.of (s2 _ _ ea0), by omega⟩, q D acc H' (s1.free hD) (s1.trans s2) ea ?_⟩
    rw [List.take_length] at ta
    exact ta
theorem l_two {j : Nat} {b a : FScr} {tx ty : TE} (hb : EvD K tx σ H b.d) (ha : EvD K ty σ H a.d) (hw : ∀ x, wipe ((wipe σ vs).set j (some x)) vs = wipe σ vs) (hj : ∀ x, ((wipe σ vs).set j (some x))[j]? = some (some x)) :
    EvDL K (tLc (iList K (tLst (tCons tx (tCons ty tNil)))) (gName j) (tTest (tOp (fun x y H Q => y = .non ∧ Q (.bl (!decide (x = .non))) H) (tVar j) (tC .non))) (tVar j) vs) σ H ((b.rows ++ a.rows).map FRow.d) :=
  l_is (l_lcLF [b, a] FScr.d (fun s => !noneD s.d) FScr.d (l_lst (a_cons hb (a_cons ha a_nil)) (Nat.le_of_ble_eq_true rfl)) (Nat.le_of_ble_eq_true rfl) hw (fun s _ x H1 _ tx => t_test (e_op (e_var (hj x) tx) e_non r_notN)) fun s _ _ x H1 _ tx => e_var (hj x) tx) (by cases b <;> cases a <;> rfl)
end
section
variable {K : PySem.W.Frag} {σ : L2.St} {H : Hp} {te : TE} {ds : List PyData}
/-- list(tuple) -/
theorem l_listT {r : List V → Hp → VK → Prop} (hr : ∀ p xs H Q, SqT K H p xs → (∀ l, H l = none → Q (V.ref l) (upd H l (.lst xs))) → r [.ref p] H Q) (h : EvD K te σ H (.tuple ds)) : EvDL K (tCB r (tCons te tNil)) σ H ds := fun H1 s Q q => h H1 s _ fun v H2 s2 t2 => by
  obtain ⟨p, xs, rfl, sq, l⟩ := t2.inv
  exact hr p xs H2 Q sq fun c hc => q c xs _ (s2.free hc) (s2.trans (same_new hc)) upd_same (l.stay (.of (same_new hc)))
end
section
variable {P : Program} {w : World} {K : PySem.W.Frag} {mg : Str → Option Value} {base : Heap}
def spInner (K : PySem.W.Frag) : Sp := spRL K fun ds es => ∃ i : FItem, ds = [i.d] ∧ es = i.rows.map FRow.d ∧ i.words.length ≤ 100000
theorem scInner : FnScope ["item", "nucleus", "below", "above", "rows", "cells", "row"] ["item"] (defScope sInner) := ⟨rfl, rfl, rfl, by decide +kernel, rfl, by decide +kernel, by decide +kernel⟩
theorem ok_inner {f : Addr} {fd : FuncData} (F : Fun K "_law_inner" "_law_inner" sInner f fd) (T : TxtB mg) : FnOk P w K mg base CX0 1 f fd ["item"] (spInner K) := by
  have sc := scInner
  refine F.ok scInner (fun vs H Q E h => ?_) (fun cdv A outer s H vs Q E hr h => ?_)
  · obtain ⟨ds, es, l, ⟨n, rfl, _⟩, _⟩ := h
    exact l.len
  · obtain ⟨ds, es, l, ⟨i, rfl, rfl, bnd⟩, k⟩ := h
    cases l with
    | cons t l => cases l with
    | nil =>
    refine ⟨_, (pss_cons (ps_asg (pv 0) (pg_tup rfl (pgs_cons (pg_name (i := 1) sc.nd rfl (Or.inl rfl)) (pgs_cons (pg_name (i := 2) sc.nd rfl (Or.inl rfl)) (pgs_cons (pg_name (i := 3) sc.nd rfl (Or.inl rfl)) pgs_nil)))))
  (pss_cons (ps_set (i := 4) sc.nd rfl (Or.inl rfl) (pe_lst pa_nil))
  (pss_cons (ps_if (pt_cmpR op_eq (pe_ix ix_tup (pv 1) pe_int (fun _ _ => rfl)) pe_str (nomark _))
  (pss_one (ps_set (i := 4) sc.nd rfl (Or.inl rfl) (pe_lst (pa_cons (pe_ix ix_tup (pv 1) pe_int (fun _ _ => rfl)) (pa_cons (pe_ix ix_tup (pv 1) pe_int (fun _ _ => rfl)) pa_nil)))))
  (pss_one (ps_if (pt_cmpR op_eq (pe_ix ix_tup (pv 1) pe_int (fun _ _ => rfl)) pe_str (nomark _))
  (pss_one (ps_for PassesOwn.never rfl (pi_tup (pe_ix ix_tup (pv 1) pe_int (fun _ _ => rfl))) (pg_name (i := 5) sc.nd rfl (Or.inl rfl))
  (pss_one (ps_expr (pe_bm PySem.F.plainAttrs_list PySem.F.slot_list_extend PySem.F.type_list_extend mt_extend (pv 4) (pa_cons (pe_callTy call_list_of (by rfl) T.b_list (by decide +kernel) (pa_cons (pv 5) pa_nil)) pa_nil))))))
  (pss_one (ps_if (pt_cmpR op_ne (pe_ix ix_tup (pv 1) pe_int (fun _ _ => rfl)) pe_str (nomark _))
  (pss_one (ps_set (i := 4) sc.nd rfl (Or.inl rfl) (pe_lst (pa_cons (pe_ix ix_tup (pv 1) (pe_op op_sub (pe_callB call_len_sq (by rfl) T.b_len PySem.boot_len (pa_cons (pv 1) pa_nil)) pe_int) (fun _ _ => rfl)) pa_nil))))
  pss_nil)))))
  (pss_one (ps_ret (pe_op op_cat (pv 4) (pe_lc (own := [("row", 6)]) rfl sc.nd (pi_list (pe_lst (pa_cons (pv 2) (pa_cons (pv 3) pa_nil)))) (blkOk_by (own := [("row", 6)]) (N := ["item", "nucleus", "below", "above", "rows", "cells", "row"]) (sc := defScope sInner) (by decide +kernel)) (fun _ _ _ _ _ => (pg_name (i := 6) sc.nd rfl (Or.inl rfl))) (fun _ _ _ _ _ => (pts_one (pt_cmpR op_notN (pv 6) pe_non (nomark _)))) (fun _ _ _ _ _ => (pv 6))))))))), ?_⟩
    rename_i v
    have bl := rows_len i
    cases i with
    | mk n b a =>
    have bl2 : n.rows.length + (b.rows.length + a.rows.length) ≤ 100000 := by
      rw [FItem.rows, List.length_append, List.length_append] at bl
      omega
    have t : Tp K H v (.tuple [n.d, b.d, a.d]) := t
    refine q_asg (e_var rfl t) fun v1 H1 s1 t1 => g_tup3 t1 fun x y z tx ty tz => ?_
    refine q_setL (K := K) (l_lst a_nil (Nat.le_of_ble_eq_true rfl)) fun p0 xs0 H2 np s2 e l0 => ?_
    have tx := tx.stay (.of s2)
    have ty := ty.stay (.of s2)
    have tz := tz.stay (.of s2)
    have A0 : Acc K H p0 [] H2 := Acc.start (s1.free np) (s1.trans s2) e l0
    have fin : ∀ (x5 : Option V) (pp : Addr) (xs : List V) (H4 : Hp), Same H H4 → TupK H2 H4 → H4 pp = some (.lst xs) → TpL K H4 xs (n.rows.map FRow.d) →
        tRet (tOp rCat (tVar 4) (tLc (iList K (tLst (tCons (tVar 2) (tCons (tVar 3) tNil)))) (gName 6) (tTest (tOp (fun x y H Q => y = .non ∧ Q (.bl (!decide (x = .non))) H) (tVar 6) (tC .non))) (tVar 6) [6])) { nx := fun _ H' => Q .non H', rt := Q } [some v, some x, some y, some z, some (.ref pp), x5, none] H4 := fun x5 pp xs H4 s4 tk epp lx => by
      refine ⟨_, rfl, l_two (e_var rfl (ty.stay tk)) (e_var rfl (tz.stay tk)) (fun _ => rfl) (fun _ => rfl) H4 (.refl _) _ fun q ys H5 nq s5 eq lq => ?_⟩
      refine ⟨pp, q, xs, ys, rfl, rfl, s5 _ _ epp, eq, by rw [lx.len, lq.len, List.length_map, List.length_map, List.length_append]; exact sz5 (by omega), fun c hc => k c _ _ ((s4.trans s5).free hc) ((s4.trans s5).trans (same_new hc)) upd_same ?_⟩
      rw [FItem.rows, List.map_append]
      exact ((lx.stay (.of s5)).app lq).stay (.of (same_new hc))
    have mkl : ∀ {te : TA} {ds : List PyData} {H3 : Hp}, Same H2 H3 → EvDA K te [some v, some x, some y, some z, some (.ref p0), none, none] H3 ds → ds.length ≤ 1000 → ds = n.rows.map FRow.d →
        tAsg (tLst te) (gName 4) { nx := tRet (tOp rCat (tVar 4) (tLc (iList K (tLst (tCons (tVar 2) (tCons (tVar 3) tNil)))) (gName 6) (tTest (tOp (fun x y H Q => y = .non ∧ Q (.bl (!decide (x = .non))) H) (tVar 6) (tC .non))) (tVar 6) [6])) { nx := fun _ H' => Q .non H', rt := Q }, rt := Q } [some v, some x, some y, some z, some (.ref p0), none, none] H3 := fun s3 h hl e =>
      l_lst h hl _ (.refl _) _ fun pp xs H4 n4 s4 e4 l4 => fin none pp xs H4 (((s1.trans s2).trans s3).trans s4) ((TupK.of s3).trans (.of s4)) e4 (e ▸ l4)
    have ix : ∀ {i : Int} {ds : List PyData} {d : PyData} {H3 : Hp}, Same H2 H3 → n.d = .tuple ds → atI ds i = some d → EvD K (tOp (rIxT K) (tVar 1) (tC (.int i))) [some v, some x, some y, some z, some (.ref p0), none, none] H3 d := fun s3 e h => e_op (e_var rfl ((e ▸ tx).stay (.of s3))) e_int (r_ixT h)
    have kd : ∀ {a b : Str} {ds : List PyData} {H3 : Hp}, Same H2 H3 → n.d = .tuple (.str a :: ds) → EvDT K (tTest (tOp rEq (tOp (rIxT K) (tVar 1) (tC (.int 0))) (tC (.str b)))) [some v, some x, some y, some z, some (.ref p0), none, none] H3 (decide (a = b)) := fun s3 e => t_test (e_op (ix s3 e atI0) e_str r_eqS)
    have kn : ∀ {a b : Str} {ds : List PyData} {H3 : Hp}, Same H2 H3 → n.d = .tuple (.str a :: ds) → EvDT K (tTest (tOp rNe (tOp (rIxT K) (tVar 1) (tC (.int 0))) (tC (.str b)))) [some v, some x, some y, some z, some (.ref p0), none, none] H3 (!decide (a = b)) := fun s3 e => t_test (e_op (ix s3 e atI0) e_str r_neS)
    have lastI : ∀ {ds : List PyData} {d : PyData} {m : Nat} {H3 : Hp}, Same H2 H3 → n.d = .tuple ds → ds.length = m + 1 → ds[m]? = some d → EvDA K (tCons (tOp (rIxT K) (tVar 1) (tOp (rI0 fun i j => .int (i - j)) (tCB (fun xs H Q => ∃ p ys, xs = [.ref p] ∧ (SqL K H p ys ∨ SqT K H p ys) ∧ (ys.length ≤ sizeLine → Q (.int ys.length) H)) (tCons (tVar 1) tNil)) (tC (.int 1)))) tNil) [some v, some x, some y, some z, some (.ref p0), none, none] H3 [d] := fun {ds d m H3} s3 e hl hd =>
      a_cons (e_op (e_var rfl ((e ▸ tx).stay (.of s3))) (e_is (e_op (e_lenT (fun p xs H Q h hq => ⟨p, xs, rfl, h, fun _ => hq⟩) (e_var rfl ((e ▸ tx).stay (.of s3)))) e_int r_I0i) (d2 := .int (m : Int)) (by rw [hl]; congr 1; omega)) (r_ixT (atI_nat hd))) a_nil
    cases n with
    | sym w =>
      refine q_if (b := false) (kd (.refl _) rfl) (fun z => nomatch z) fun _ H3 s3 => ?_
      refine s_if (b := false) (kd s3 rfl) (fun z => nomatch z) fun _ H4 s4 => ?_
      refine s_if (b := false) (kn (s3.trans s4) rfl) (fun z => nomatch z) fun _ H5 s5 => ?_
      have ss := (s3.trans s4).trans s5
      exact fin none p0 xs0 H5 ((s1.trans s2).trans ss) (.of ss) (ss _ _ e) (l0.stay (.of ss))
    | frac o u =>
      refine q_if (b := true) (kd (.refl _) rfl) (fun _ H3 s3 => ?_) (fun z => nomatch z)
      exact mkl s3 (a_cons (ix s3 rfl rfl) (a_cons (ix s3 rfl rfl) a_nil)) (Nat.le_of_ble_eq_true rfl) rfl
    | group r =>
      refine q_if (b := false) (kd (.refl _) rfl) (fun z => nomatch z) fun _ H3 s3 => ?_
      refine s_if (b := false) (kd s3 rfl) (fun z => nomatch z) fun _ H4 s4 => ?_
      refine s_if (b := true) (kn (s3.trans s4) rfl) (fun _ H5 s5 => ?_) (fun z => nomatch z)
      exact mkl ((s3.trans s4).trans s5) (lastI (m := 1) ((s3.trans s4).trans s5) rfl rfl rfl) (Nat.le_of_ble_eq_true rfl) rfl
    | root r =>
      refine q_if (b := false) (kd (.refl _) rfl) (fun z => nomatch z) fun _ H3 s3 => ?_
      refine s_if (b := false) (kd s3 rfl) (fun z => nomatch z) fun _ H4 s4 => ?_
      refine s_if (b := true) (kn (s3.trans s4) rfl) (fun _ H5 s5 => ?_) (fun z => nomatch z)
      exact mkl ((s3.trans s4).trans s5) (lastI (m := 1) ((s3.trans s4).trans s5) rfl rfl rfl) (Nat.le_of_ble_eq_true rfl) rfl
    | fence o c r =>
      refine q_if (b := false) (kd (.refl _) rfl) (fun z => nomatch z) fun _ H3 s3 => ?_
      refine s_if (b := false) (kd s3 rfl) (fun z => nomatch z) fun _ H4 s4 => ?_
      refine s_if (b := true) (kn (s3.trans s4) rfl) (fun _ H5 s5 => ?_) (fun z => nomatch z)
      exact mkl ((s3.trans s4).trans s5) (lastI (m := 3) ((s3.trans s4).trans s5) rfl rfl rfl) (Nat.le_of_ble_eq_true rfl) rfl
    | grid g =>
      refine q_if (b := false) (kd (.refl _) rfl) (fun z => nomatch z) fun _ H3 s3 => ?_
      refine s_if (b := true) (kd s3 rfl) (fun _ H4 s4 => ?_) (fun z => nomatch z)
      have ss := s3.trans s4
      have A4 := A0.ext ss
      obtain ⟨xs4, e4, l4⟩ := A4.lst
      have hall : g.all.length ≤ 100000 := by
        have : g.all.length = (FNuc.grid g).rows.length := rfl
        omega
      refine s_forT (p := p0) (ds := g.lines.map FCells.d) (FGrid.ds_eq g ▸ ix ss rfl rfl) e4 (fun i σ' H' => ∃ x5, σ' = [some v, some x, some y, some z, some (.ref p0), x5, none] ∧ Acc K H p0 (((g.lines.take i).flatMap FCells.rows).map FRow.d) H' ∧ TupK H2 H') (fun H5 s5 => ⟨_, rfl, A4.ext s5, .of (ss.trans s5)⟩) ?_ ?_
      · rintro H5 s5 i d y5 σ' H6 hi ⟨x5, rfl, A, tk⟩ kb td
        obtain ⟨c, hc, rfl⟩ := get_map hi
        have td : Tp K H6 y5 (.tuple (c.rows.map FRow.d)) := FCells.ds_eq c ▸ td
        have fl := flat_le (f := FCells.rows) hc
        rw [← FGrid.all_eq] at fl
        refine g_name ?_
        refine s_ext rfl A (l_listT (fun p ys H Q h hq => ⟨p, ys, rfl, .inr h, hq⟩) (e_var rfl td)) (by simp only [List.length_map]; omega) fun H7 tk7 kb7 A7 => ⟨⟨_, rfl, ?_, tk.trans tk7⟩, kb.trans kb7⟩
        rw [flat_snoc hc, List.map_append]
        exact A7
      · rintro σ' H6 ⟨x5, rfl, A, tk⟩ kb
        rw [List.length_map, List.take_length, ← FGrid.all_eq] at A
        obtain ⟨xs6, e6, l6⟩ := A.lst
        exact fin x5 p0 xs6 H6 A.same tk e6 l6
theorem scLRows : FnScope ["formula", "found", "item", "row"] ["formula"] (defScope sLRows) := ⟨rfl, rfl, rfl, by decide +kernel, rfl, by decide +kernel, by decide +kernel⟩
theorem ok_lrows1 {n : Nat} {f : Addr} {fd : FuncData} (F : Fun K "_law_rows" "_law_rows" sLRows f fd) (C_law_inner : Cal P w K mg base CX0 1 "_law_inner" ["item"] (spInner K)) (C_law_rows : Cal P w K mg base CX0 (n + 2) "_law_rows" ["formula"] (spRowsOf K n)) : FnOk P w K mg base CX0 (n + 3) f fd ["formula"] (spRowsOf K (n + 1)) := by
  have sc := scLRows
  refine F.ok scLRows (fun vs H Q E h => ?_) (fun cdv A outer s H vs Q E hr h => ?_)
  · obtain ⟨ds, es, l, ⟨n, rfl, _⟩, _⟩ := h
    exact l.len
  · obtain ⟨ds, es, l, ⟨r, rfl, rfl, dep, bnd⟩, k⟩ := h
    cases l with
    | cons t l => cases l with
    | nil =>
    rename_i v
    refine ⟨_, (pss_cons (ps_set (i := 1) sc.nd rfl (Or.inl rfl) (pe_lst (pa_cons (pv 0) pa_nil)))
  (pss_cons (ps_for PassesOwn.never rfl (pi_tup (pv 0)) (pg_name (i := 2) sc.nd rfl (Or.inl rfl))
  (pss_one (ps_for PassesOwn.never rfl (pi_list (pe_cal C_law_inner (hr.mono (by omega)) rfl pass0 (pa_cons (pv 2) pa_nil))) (pg_name (i := 3) sc.nd rfl (Or.inl rfl))
  (pss_one (ps_expr (pe_bm PySem.F.plainAttrs_list PySem.F.slot_list_extend PySem.F.type_list_extend mt_extend (pv 1) (pa_cons (pe_cal C_law_rows (hr.mono (by omega)) rfl pass0 (pa_cons (pv 3) pa_nil)) pa_nil)))))))
  (pss_one (ps_ret (pv 1))))), ?_⟩
    have t : Tp K H v r.d := t
    have ib := inn_row r
    have er : r.d = .tuple (r.items.map FItem.d) := by rw [FRow.d, FRow.ds_eq]
    refine q_setL (l_lst (a_cons (e_var rfl t) a_nil) (Nat.le_of_ble_eq_true rfl)) fun p xs H2 np s2 e l => ?_
    have A0 := Acc.start np s2 e l
    have t := t.stay (.of s2)
    refine q_forT (ds := r.items.map FItem.d) (p := p) (e_var rfl (er ▸ t)) e (fun i σ' H' => ∃ x2 x3, σ' = [some v, some (.ref p), x2, x3] ∧ Acc K H p ((r :: (r.items.take i).flatMap FItem.inn).map FRow.d) H') (fun H3 s3 => ⟨_, _, rfl, by simpa using A0.ext s3⟩) ?_ ?_
    · rintro H3 s3 i d x σ' H' hi ⟨x2, x3, rfl, A⟩ kb tx
      obtain ⟨it, hit, rfl⟩ := get_map hi
      have hmem := List.mem_of_getElem? hit
      have w1 := words_item hmem
      have dI := FRow.dep_le.mp (Nat.le_of_lt_succ dep) it hmem
      have w2 := flat_le (f := FItem.inn) hit
      rw [← FRow.inn_eq] at w2
      have eI := FItem.inn_eq it
      obtain ⟨xs1, e1, l1⟩ := A.lst
      refine g_name ?_
      refine s_forL (p := p) (l_call (a_cons (e_var rfl tx) a_nil) ⟨it, rfl, rfl, by omega⟩) e1 (fun m σ' H' => ∃ x3, σ' = [some v, some (.ref p), some x, x3] ∧ Acc K H p ((r :: ((r.items.take i).flatMap FItem.inn ++ (it.rows.take m).flatMap FRow.pre)).map FRow.d) H') (fun H4 s4 => ⟨_, rfl, by simpa using A.ext s4⟩) ?_ ?_
      · rintro H4 s4 m d y σ' H5 hm ⟨x3, rfl, A5⟩ kb5 ty
        obtain ⟨q, hq, rfl⟩ := get_map hm
        have qm := List.mem_of_getElem? hq
        have w3 := words_rows qm
        have dq := FItem.dep_le.mp dI q qm
        have w4 := flat_le (f := FRow.pre) hq
        rw [← eI] at w4
        refine g_name ?_
        refine s_ext rfl A5 (l_call (a_cons (e_var rfl ty) a_nil) ⟨q, rfl, rfl, by omega, by omega⟩) (by simp only [List.length_map, List.length_cons, List.length_append]; omega) fun H6 tk kb6 A6 => ⟨⟨_, rfl, ?_⟩, kb5.trans kb6⟩
        rw [flat_snoc hq, ← List.append_assoc, ← List.cons_append, List.map_append]
        exact A6
      · rintro σ' H5 ⟨x3, rfl, A5⟩ kb5
        refine ⟨⟨_, _, rfl, ?_⟩, kb.trans kb5⟩
        rw [flat_snoc hit, eI]
        rw [List.length_map, List.take_length] at A5
        exact A5
    · rintro σ' H5 ⟨x2, x3, rfl, A5⟩ kb
      rw [List.length_map, List.take_length, ← FRow.inn_eq] at A5
      exact retAcc k A5 rfl rfl
theorem ok_lrows {f : Addr} {fd : FuncData} (F : Fun K "_law_rows" "_law_rows" sLRows f fd) (C_law_inner : Cal P w K mg base CX0 1 "_law_inner" ["item"] (spInner K)) (hm : mg "_law_rows" = some (.ref f)) (hk : PySem.W.keepIn K (.ref f) = true) (hb : Binds K fd ["formula"] []) :
    ∀ n, Cal P w K mg base CX0 (n + 2) "_law_rows" ["formula"] (spRowsOf K n)
  | 0 => ⟨f, fd, FnOk.vac fun vs H Q E ⟨_, _, _, ⟨_, _, _, h, _⟩, _⟩ => Nat.not_lt_zero _ h, hm, hk, hb⟩
  | n + 1 => ⟨f, fd, ok_lrows1 F C_law_inner (ok_lrows F C_law_inner hm hk hb n), hm, hk, hb⟩
end
end Mg

set_option Elab.async false
set_option linter.all false
set_option maxRecDepth 100000
set_option maxHeartbeats 2000000
namespace Mg
open PySem L2 StX
def spLPieces (K : PySem.W.Frag) (n : Nat) : Sp := spRL K fun ds es => ∃ r : FRow, ds = [r.d] ∧ es = r.words.map PyData.str ∧ r.dep < n ∧ r.good nmsP delP ∧ r.words.length ≤ 100000
section
variable {K : PySem.W.Frag} {σ : L2.St} {H H0 : Hp} {te tl ta : TE} {ds as : List PyData} {p : Addr} {D : Ends} {n : Nat}
abbrev brS (K : PySem.W.Frag) (n : Nat) (hd : TE) (arg : TE) : TE := tOp rCat (tOp rCat hd (tCall (spLPieces K n) [] E0 (tCons arg tNil))) (tLst (tCons (tC (.str "}")) tNil))
theorem l_br {q : FRow} {ws : List Str} (hh : EvDL K tl σ H (ws.map PyData.str)) (hl : ws.length ≤ 10) (h : ∀ H1, Same H H1 → EvD K ta σ H1 q.d) (dq : q.dep < n) (gq : q.good nmsP delP) (lq : q.words.length ≤ 100000) : EvDL K (brS K n tl ta) σ H ((ws ++ (q.words ++ [("}" : Str)])).map PyData.str) :=
  l_is (l_cat (l_cat hh (l_call (a_cons (h H (.refl _)) a_nil) ⟨q, rfl, rfl, dq, gq, lq⟩) (by simp only [List.length_map]; omega)) (l_strs "}") (by simp only [List.length_map, List.length_append, List.length_cons, List.length_nil]; omega)) (by simp)
abbrev scrS (K : PySem.W.Frag) (n i : Nat) (s : Str) : TS := tIfS (tTest (tOp (fun x y H Q => y = .non ∧ Q (.bl (!decide (x = .non))) H) (tVar i) (tC .non))) (tDrop (tBM K "list" rExtend (tVar 1) (tCons (brS K n (tLst (tCons (tC (.str s)) (tCons (tC (.str "{")) tNil))) (tVar i)) tNil))) tNext
theorem scr_part {i : Nat} {s : Str} {v : V} {b : FScr} (hp : σ[1]? = some (some (.ref p))) (hv : σ[i]? = some (some v)) (tv : Tp K H v b.d) (A : Acc K H0 p as H) (db : b.dep ≤ n) (gb : b.good nmsP delP) (ls : as.length + (b.words s).length ≤ 100000)
    (kk : ∀ H6, TupK H H6 → KeepB p H H6 → Acc K H0 p (as ++ (b.words s).map PyData.str) H6 → D.nx σ H6) : scrS K n i s D σ H := by
  cases b with
  | no => exact s_when (b := false) (t_test (e_op (e_var hv tv) e_non r_notN)) (fun z => nomatch z) fun _ H6 s6 => kk H6 (.of s6) (.of s6) (by simpa [FScr.words] using A.ext s6)
  | yes q =>
    have db : q.dep + 1 ≤ n := db
    have ls : as.length + (s :: "{" :: (q.words ++ [("}" : Str)])).length ≤ 100000 := ls
    simp only [List.length_cons, List.length_append, List.length_nil] at ls
    refine s_when (b := true) (t_test (e_op (e_var hv tv) e_non r_notN)) (fun _ H6 s6 => ?_) fun z => nomatch z
    refine s_ext hp (A.ext s6) (l_br (ws := [s, "{"]) (l_lst (a_cons e_str (a_cons e_str a_nil)) (Nat.le_of_ble_eq_true rfl)) (Nat.le_of_ble_eq_true rfl) (fun H7 s7 => e_var hv (tv.stay (.of (s6.trans s7)))) db gb (by omega)) (by simp only [List.length_map, List.length_append, List.length_cons, List.length_nil]; omega) fun H7 tk7 kb7 A7 => kk H7 ((TupK.of s6).trans tk7) ((KeepB.of s6).trans kb7) ?_
    exact A7
theorem e_slT {tl th : TO} {lo hi : Option Int} (h : EvD K te σ H (.tuple ds)) (hl : ∀ (H : Hp) (Q : Option Int → Hp → Prop), Q lo H → tl σ H Q) (hh : ∀ (H : Hp) (Q : Option Int → Hp → Prop), Q hi H → th σ H Q) (n : ¬ (HT.sIx ds.length 0 lo = 0 ∧ HT.sIx ds.length ds.length hi = ds.length)) :
    EvD K (tSl (rSlT K) te tl th) σ H (.tuple ((ds.drop (HT.sIx ds.length 0 lo)).take (HT.sIx ds.length ds.length hi - HT.sIx ds.length 0 lo))) := fun H1 s Q q => h H1 s _ fun v H2 s2 t => hl _ _ (hh _ _ (by
  obtain ⟨a, xs, rfl, sq, l⟩ := t.inv
  refine ⟨a, xs, rfl, sq, by rw [l.len]; exact n, fun p hp => q _ _ (s2.trans (same_new hp)) (.mk (SqT.of upd_same) ?_)⟩
  have : cutV xs lo hi = (xs.drop (HT.sIx ds.length 0 lo)).take (HT.sIx ds.length ds.length hi - HT.sIx ds.length 0 lo) := by
    unfold cutV
    rw [l.len]
  rw [this]
  exact ((l.drop _).take _).stay (.of (same_new hp))))
theorem e_intB {r : List V → Hp → VK → Prop} {b : Bool} (hr : ∀ k H Q, Q (V.int (if k = true then 1 else 0)) H → r [.bl k] H Q) (h : EvD K te σ H (.bool b)) : EvD K (tCB r (tCons te tNil)) σ H (.int (if b = true then 1 else 0)) := fun H1 s Q q => h H1 s _ fun v H2 s2 t2 => by
  rw [tp_bool t2]
  exact hr b H2 Q (q _ H2 s2 (.int _))
theorem l_rep {b : Bool} (h : EvDL K tl σ H ds) (hb : ∀ H1, Same H H1 → EvD K te σ H1 (.int (if b = true then 1 else 0))) (hl : ds.length ≤ 1000) : EvDL K (tOp rRep tl te) σ H (if b = true then ds else []) := fun H1 s Q q => h H1 s _ fun p xs H2 np s2 e l => hb H2 (s.trans s2) H2 (.refl _) _ fun v H3 s3 tv => by
  cases tp_int tv
  have e3 := s3 _ _ e
  have s23 := s2.trans s3
  refine ⟨p, _, xs, rfl, rfl, e3, by split <;> omega, by split <;> omega, ?_, fun c hc => q c _ _ (s23.free hc) (s23.trans (same_new hc)) upd_same ?_⟩
  · rw [l.len]
    have : (if b = true then (1 : Int) else 0).toNat ≤ 1 := by split <;> decide
    exact sz5 (Nat.le_trans (Nat.mul_le_mul hl this) (by decide))
  · cases b with
    | true =>
      have : (List.replicate ((if true = true then (1 : Int) else 0)).toNat xs).flatten = xs := by simp
      rw [this, if_pos rfl]
      exact (l.stay (.of s3)).stay (.of (same_new hc))
    | false =>
      have : (List.replicate ((if false = true then (1 : Int) else 0)).toNat xs).flatten = [] := by simp
      rw [this]
      exact .nil
end
section
variable {P : Program} {w : World} {K : PySem.W.Frag} {mg : Str → Option Value} {base : Heap}
theorem lines_len : ∀ (g : FGrid) (s : Str), (∀ c ∈ g.lines, 1 ≤ c.rows.length) → g.lines.length ≤ (g.words s).length
  | .nil, _, _ => Nat.zero_le _
  | .cons c g, s, h => by
    have h1 := h c List.mem_cons_self
    have h2 := cells_len s c
    have h3 := lines_len g "~" fun d hd => h d (List.mem_cons_of_mem _ hd)
    rw [FGrid.lines, List.length_cons, FGrid.words, List.length_append]
    omega
theorem q_forR {σ : L2.St} {H : Hp} {te : TE} {n : Nat} {g : TG} {tu tz : TS} {D : Ends} (h : EvD K te σ H (.int (n : Int))) (hn : n ≤ 1000000) (Pv : Nat → L2.St → Hp → Prop) (h0 : ∀ H1, Same H H1 → Pv 0 σ H1)
    (hs : ∀ i σ' H', i < n → Pv i σ' H' → g (.int (i : Int)) σ' H' fun σ2 H2 => tu { D with nx := Pv (i + 1), ct := Pv (i + 1), bk := tz D } σ2 H2) (hd : ∀ σ' H', Pv n σ' H' → tz D σ' H') : tSeq (tFor (iRng1 (tCons te tNil)) g tu) tz D σ H := s_forR (D := { D with nx := tz D }) h hn Pv h0 hs hd
theorem scPieces : FnScope ["row", "found", "nucleus", "below", "above", "ends", "k", "j", "name"] ["row"] (defScope sPieces) := ⟨rfl, rfl, rfl, by decide +kernel, rfl, by decide +kernel, by decide +kernel⟩
theorem ok_pieces1 {n : Nat} {f : Addr} {fd : FuncData} (F : Fun K "_law_pieces" "_law_pieces" sPieces f fd) (T : TxtB mg) (C_law_pieces : Cal P w K mg base CX0 n "_law_pieces" ["row"] (spLPieces K n)) : FnOk P w K mg base CX0 (n + 1) f fd ["row"] (spLPieces K (n + 1)) := by
  have sc := scPieces
  refine F.ok scPieces (fun vs H Q E h => ?_) (fun cdv A outer s H vs Q E hr h => ?_)
  · obtain ⟨ds, es, l, ⟨_, rfl, _⟩, _⟩ := h
    exact l.len
  · obtain ⟨ds, es, l, ⟨r, rfl, rfl, dep, good, bnd⟩, k⟩ := h
    cases l with
    | cons t l => cases l with
    | nil =>
    rename_i v
    refine ⟨_, (pss_cons (ps_set (i := 1) sc.nd rfl (Or.inl rfl) (pe_lst pa_nil))
  (pss_cons (ps_for PassesOwn.never rfl (pi_tup (pv 0)) (pg_tup rfl (pgs_cons (pg_name (i := 2) sc.nd rfl (Or.inl rfl)) (pgs_cons (pg_name (i := 3) sc.nd rfl (Or.inl rfl)) (pgs_cons (pg_name (i := 4) sc.nd rfl (Or.inl rfl)) pgs_nil))))
  (pss_cons (ps_if (pt_cmpR op_eq (pe_ix ix_tup (pv 2) pe_int (fun _ _ => rfl)) pe_str (nomark _))
  (pss_one (ps_expr (pe_bm PySem.F.plainAttrs_list PySem.F.slot_list_append PySem.F.type_list_append mt_append (pv 1) (pa_cons (pe_ix ix_tup (pv 2) pe_int (fun _ _ => rfl)) pa_nil))))
  (pss_one (ps_if (pt_cmpR op_eq (pe_ix ix_tup (pv 2) pe_int (fun _ _ => rfl)) pe_str (nomark _))
  (pss_one (ps_expr (pe_bm PySem.F.plainAttrs_list PySem.F.slot_list_extend PySem.F.type_list_extend mt_extend (pv 1) (pa_cons (pe_op op_cat (pe_op op_cat (pe_lst (pa_cons pe_str pa_nil)) (pe_cal C_law_pieces (hr.mono (by omega)) rfl pass0 (pa_cons (pe_ix ix_tup (pv 2) pe_int (fun _ _ => rfl)) pa_nil))) (pe_lst (pa_cons pe_str pa_nil))) pa_nil))))
  (pss_one (ps_if (pt_cmpR op_eq (pe_ix ix_tup (pv 2) pe_int (fun _ _ => rfl)) pe_str (nomark _))
  (pss_one (ps_expr (pe_bm PySem.F.plainAttrs_list PySem.F.slot_list_extend PySem.F.type_list_extend mt_extend (pv 1) (pa_cons (pe_op op_cat (pe_op op_cat (pe_op op_cat (pe_op op_cat (pe_lst (pa_cons pe_str (pa_cons pe_str pa_nil))) (pe_cal C_law_pieces (hr.mono (by omega)) rfl pass0 (pa_cons (pe_ix ix_tup (pv 2) pe_int (fun _ _ => rfl)) pa_nil))) (pe_lst (pa_cons pe_str (pa_cons pe_str pa_nil)))) (pe_cal C_law_pieces (hr.mono (by omega)) rfl pass0 (pa_cons (pe_ix ix_tup (pv 2) pe_int (fun _ _ => rfl)) pa_nil))) (pe_lst (pa_cons pe_str pa_nil))) pa_nil))))
  (pss_one (ps_if (pt_cmpR op_eq (pe_ix ix_tup (pv 2) pe_int (fun _ _ => rfl)) pe_str (nomark _))
  (pss_one (ps_expr (pe_bm PySem.F.plainAttrs_list PySem.F.slot_list_extend PySem.F.type_list_extend mt_extend (pv 1) (pa_cons (pe_op op_cat (pe_op op_cat (pe_lst (pa_cons pe_str (pa_cons pe_str pa_nil))) (pe_cal C_law_pieces (hr.mono (by omega)) rfl pass0 (pa_cons (pe_ix ix_tup (pv 2) pe_int (fun _ _ => rfl)) pa_nil))) (pe_lst (pa_cons pe_str pa_nil))) pa_nil))))
  (pss_one (ps_if (pt_cmpR op_eq (pe_ix ix_tup (pv 2) pe_int (fun _ _ => rfl)) pe_str (nomark _))
  (pss_cons (ps_setLc (i := 5) (own := [("name", 8)]) rfl sc.nd rfl rfl (sw_true rfl rfl rfl (by decide +kernel)) (pi_tup (pe_slice sl_tup (pv 2) (po_some pe_int) (po_some pe_int))) (blkOk_by (own := [("name", 8)]) (N := ["row", "found", "nucleus", "below", "above", "ends", "k", "j", "name"]) (sc := defScope sPieces) (by decide +kernel)) (fun _ _ _ _ _ => (pg_name (i := 8) sc.nd rfl (Or.inl rfl))) (fun _ _ _ _ _ => pts_nil) (fun _ _ _ _ _ => (pe_ix (r := rIxL K) ix_list (pe_lst (pa_cons (pv 8) (pa_cons pe_str pa_nil))) (pe_callTy call_int1 (by rfl) T.b_int (by decide +kernel) (pa_cons (pe_cmpR op_isN (pv 8) pe_non (nomark _)) pa_nil)) (fun _ _ => rfl))))
  (pss_one (ps_expr (pe_bm PySem.F.plainAttrs_list PySem.F.slot_list_extend PySem.F.type_list_extend mt_extend (pv 1) (pa_cons (pe_op op_cat (pe_op op_cat (pe_lst (pa_cons pe_str (pa_cons (pe_ix ix_list (pv 5) pe_int (fun _ _ => rfl)) pa_nil))) (pe_cal C_law_pieces (hr.mono (by omega)) rfl pass0 (pa_cons (pe_ix ix_tup (pv 2) pe_int (fun _ _ => rfl)) pa_nil))) (pe_lst (pa_cons pe_str (pa_cons (pe_ix ix_list (pv 5) pe_int (fun _ _ => rfl)) pa_nil)))) pa_nil)))))
  (pss_cons (ps_expr (pe_bm PySem.F.plainAttrs_list PySem.F.slot_list_extend PySem.F.type_list_extend mt_extend (pv 1) (pa_cons (pe_lst (pa_cons pe_str (pa_cons pe_str pa_nil))) pa_nil)))
  (pss_cons (ps_for PassesOwn.never rfl (pi_range1 rfl T.range (pa_cons (pe_callB call_len_sq (by rfl) T.b_len PySem.boot_len (pa_cons (pe_ix ix_tup (pv 2) pe_int (fun _ _ => rfl)) pa_nil)) pa_nil)) (pg_name (i := 6) sc.nd rfl (Or.inl rfl))
  (pss_cons (ps_expr (pe_bm PySem.F.plainAttrs_list PySem.F.slot_list_extend PySem.F.type_list_extend mt_extend (pv 1) (pa_cons (pe_op op_rep (pe_lst (pa_cons pe_str pa_nil)) (pe_callTy call_int1 (by rfl) T.b_int (by decide +kernel) (pa_cons (pe_cmpR op_gt (pv 6) pe_int (nomark _)) pa_nil))) pa_nil)))
  (pss_one (ps_for PassesOwn.never rfl (pi_range1 rfl T.range (pa_cons (pe_callB call_len_sq (by rfl) T.b_len PySem.boot_len (pa_cons (pe_ix ix_tup (pe_ix ix_tup (pv 2) pe_int (fun _ _ => rfl)) (pv 6) (fun _ _ => rfl)) pa_nil)) pa_nil)) (pg_name (i := 7) sc.nd rfl (Or.inl rfl))
  (pss_one (ps_expr (pe_bm PySem.F.plainAttrs_list PySem.F.slot_list_extend PySem.F.type_list_extend mt_extend (pv 1) (pa_cons (pe_op op_cat (pe_op op_rep (pe_lst (pa_cons pe_str pa_nil)) (pe_callTy call_int1 (by rfl) T.b_int (by decide +kernel) (pa_cons (pe_cmpR op_gt (pv 7) pe_int (nomark _)) pa_nil))) (pe_cal C_law_pieces (hr.mono (by omega)) rfl pass0 (pa_cons (pe_ix ix_tup (pe_ix ix_tup (pe_ix ix_tup (pv 2) pe_int (fun _ _ => rfl)) (pv 6) (fun _ _ => rfl)) (pv 7) (fun _ _ => rfl)) pa_nil))) pa_nil))))))))
  (pss_one (ps_expr (pe_bm PySem.F.plainAttrs_list PySem.F.slot_list_append PySem.F.type_list_append mt_append (pv 1) (pa_cons pe_str pa_nil)))))))))))))))
  (pss_cons (ps_if (pt_cmpR op_notN (pv 3) pe_non (nomark _))
  (pss_one (ps_expr (pe_bm PySem.F.plainAttrs_list PySem.F.slot_list_extend PySem.F.type_list_extend mt_extend (pv 1) (pa_cons (pe_op op_cat (pe_op op_cat (pe_lst (pa_cons pe_str (pa_cons pe_str pa_nil))) (pe_cal C_law_pieces (hr.mono (by omega)) rfl pass0 (pa_cons (pv 3) pa_nil))) (pe_lst (pa_cons pe_str pa_nil))) pa_nil))))
  pss_nil)
  (pss_one (ps_if (pt_cmpR op_notN (pv 4) pe_non (nomark _))
  (pss_one (ps_expr (pe_bm PySem.F.plainAttrs_list PySem.F.slot_list_extend PySem.F.type_list_extend mt_extend (pv 1) (pa_cons (pe_op op_cat (pe_op op_cat (pe_lst (pa_cons pe_str (pa_cons pe_str pa_nil))) (pe_cal C_law_pieces (hr.mono (by omega)) rfl pass0 (pa_cons (pv 4) pa_nil))) (pe_lst (pa_cons pe_str pa_nil))) pa_nil))))
  pss_nil)))))
  (pss_one (ps_ret (pv 1))))), ?_⟩
    have er : r.d = .tuple (r.items.map FItem.d) := by rw [FRow.d, FRow.ds_eq]
    have t : Tp K H v r.d := t
    refine q_setL (K := K) (l_lst a_nil (Nat.le_of_ble_eq_true rfl)) fun p xs H2 np s2 e l => ?_
    have A0 := Acc.start np s2 e l
    have t := t.stay (.of s2)
    refine q_forT (ds := r.items.map FItem.d) (p := p) (e_var rfl (er ▸ t)) e (fun i σ' H' => ∃ x2 x3 x4 x5 x6 x7 x8, σ' = [some v, some (.ref p), x2, x3, x4, x5, x6, x7, x8] ∧ Acc K H p (((r.items.take i).flatMap FItem.words).map PyData.str) H') (fun H3 s3 => ⟨_, _, _, _, _, _, _, rfl, by simpa using A0.ext s3⟩) ?_ ?_
    · rintro H3 s3 i d x σ' H' hi ⟨x2, x3, x4, x5, x6, x7, x8, rfl, A⟩ kb tx
      obtain ⟨it, hit, rfl⟩ := get_map hi
      have hmem := List.mem_of_getElem? hit
      have w1 := words_item hmem
      have dI := FRow.dep_le.mp (Nat.le_of_lt_succ dep) it hmem
      have gI := (FRow.good_iff _ _).mp good it hmem
      have w2 := flat_le (f := FItem.words) hit
      rw [← FRow.words_eq] at w2
      cases it with
      | mk m b a =>
      obtain ⟨gm, gb, ga⟩ := gI
      have tx : Tp K H' x (.tuple [m.d, b.d, a.d]) := tx
      rw [FItem.words, List.length_append, List.length_append] at w2 w1
      have dm : m.dep ≤ n ∧ b.dep ≤ n ∧ a.dep ≤ n := by
        rw [FItem.dep] at dI
        omega
      refine g_tup3 tx fun y1 y2 y3 ty1 ty2 ty3 => ?_
      have fin : ∀ (D : Ends) (x5 x6 x7 x8 : Option V) (H4 : Hp), TupK H' H4 → KeepB p H' H4 → Acc K H p (((r.items.take i).flatMap FItem.words ++ m.words).map PyData.str) H4 → (∀ H6, KeepB p H' H6 → Acc K H p (((r.items.take (i + 1)).flatMap FItem.words).map PyData.str) H6 → D.nx [some v, some (.ref p), some y1, some y2, some y3, x5, x6, x7, x8] H6) →
          tSeq (scrS K n 3 "_") (scrS K n 4 "^") D [some v, some (.ref p), some y1, some y2, some y3, x5, x6, x7, x8] H4 := fun D x5 x6 x7 x8 H4 tk4 kb4 A4 kk => by
        refine scr_part (D := { D with nx := scrS K n 4 "^" D }) rfl rfl (ty2.stay tk4) A4 dm.2.1 gb (by simp only [List.length_map, List.length_append]; omega) fun H5 tk5 kb5 A5 => ?_
        refine scr_part (D := D) rfl rfl ((ty3.stay tk4).stay tk5) A5 dm.2.2 ga (by simp only [List.length_map, List.length_append]; omega) fun H6 tk6 kb6 A6 => kk H6 ((kb4.trans kb5).trans kb6) ?_
        rw [flat_snoc hit, FItem.words]
        simpa using A6
      have done : ∀ (x5 x6 x7 x8 : Option V) (H6 : Hp), KeepB p H' H6 → Acc K H p (((r.items.take (i + 1)).flatMap FItem.words).map PyData.str) H6 → (∃ x2 x3 x4 x5' x6' x7' x8', [some v, some (.ref p), some y1, some y2, some y3, x5, x6, x7, x8] = [some v, some (.ref p), x2, x3, x4, x5', x6', x7', x8'] ∧ Acc K H p (((r.items.take (i + 1)).flatMap FItem.words).map PyData.str) H6) ∧ KeepB p H3 H6 := fun x5 x6 x7 x8 H6 kb6 A6 => ⟨⟨_, _, _, _, _, _, _, rfl, A6⟩, kb.trans kb6⟩
      have ix : ∀ {i : Int} {ds : List PyData} {d : PyData} {H4 : Hp} {x5 x6 x7 x8 : Option V}, TupK H' H4 → m.d = .tuple ds → atI ds i = some d → EvD K (tOp (rIxT K) (tVar 2) (tC (.int i))) [some v, some (.ref p), some y1, some y2, some y3, x5, x6, x7, x8] H4 d := fun s3 e h => e_op (e_var rfl ((e ▸ ty1).stay s3)) e_int (r_ixT h)
      have kd : ∀ {a b : Str} {ds : List PyData} {H4 : Hp}, Same H' H4 → m.d = .tuple (.str a :: ds) → EvDT K (tTest (tOp rEq (tOp (rIxT K) (tVar 2) (tC (.int 0))) (tC (.str b)))) [some v, some (.ref p), some y1, some y2, some y3, x5, x6, x7, x8] H4 (decide (a = b)) := fun s3 e => t_test (e_op (ix (.of s3) e atI0) e_str r_eqS)
      have lm := w2
      cases m with
      | sym z =>
        refine q_if (b := true) (kd (.refl _) rfl) (fun _ H4 s4 => ?_) (fun z => nomatch z)
        refine s_app (l := 0) rfl (A.ext s4) (ix (.of s4) rfl rfl) (by simp only [List.length_map]; omega) fun H5 tk5 kb5 A5 => fin _ _ _ _ _ H5 ((TupK.of s4).trans tk5) ((KeepB.of s4).trans kb5) ?_ (done _ _ _ _)
        have A5 : Acc K H p _ H5 := A5
        simpa [FNuc.words] using A5
      | group q =>
        have hd : q.dep + 1 ≤ n := dm.1
        have hl : (FNuc.group q).words.length = q.words.length + 2 := by simp [FNuc.words]
        refine q_if (b := false) (kd (.refl _) rfl) (fun z => nomatch z) fun _ H4 s4 => ?_
        refine s_if (b := true) (kd s4 rfl) (fun _ H5 s5 => ?_) (fun z => nomatch z)
        have ss := s4.trans s5
        refine s_ext rfl (A.ext ss) (l_br (ws := ["{"]) (l_strs "{") (by decide) (fun H7 s7 => ix (.of (ss.trans s7)) rfl rfl) hd gm (by omega)) (by simp only [List.length_map, List.length_append, List.length_cons, List.length_nil]; omega) fun H6 tk6 kb6 A6 => fin _ _ _ _ _ H6 ((TupK.of ss).trans tk6) ((KeepB.of ss).trans kb6) ?_ (done _ _ _ _)
        have A6 : Acc K H p _ H6 := A6
        simpa [FNuc.words] using A6
      | root q =>
        have hd : q.dep + 1 ≤ n := dm.1
        have hl : (FNuc.root q).words.length = q.words.length + 3 := by simp [FNuc.words]
        refine q_if (b := false) (kd (.refl _) rfl) (fun z => nomatch z) fun _ H4 s4 => ?_
        refine s_if (b := false) (kd s4 rfl) (fun z => nomatch z) fun _ H5 s5 => ?_
        refine s_if (b := false) (kd (s4.trans s5) rfl) (fun z => nomatch z) fun _ H6 s6 => ?_
        refine s_if (b := true) (kd ((s4.trans s5).trans s6) rfl) (fun _ H7 s7 => ?_) (fun z => nomatch z)
        have ss := ((s4.trans s5).trans s6).trans s7
        refine s_ext rfl (A.ext ss) (l_br (ws := ["@root", "{"]) (l_lst (a_cons e_str (a_cons e_str a_nil)) (Nat.le_of_ble_eq_true rfl)) (by decide) (fun H7 s7 => ix (.of (ss.trans s7)) rfl rfl) hd gm (by omega)) (by simp only [List.length_map, List.length_append, List.length_cons, List.length_nil]; omega) fun H6 tk6 kb6 A6 => fin _ _ _ _ _ H6 ((TupK.of ss).trans tk6) ((KeepB.of ss).trans kb6) ?_ (done _ _ _ _)
        have A6 : Acc K H p _ H6 := A6
        simpa [FNuc.words] using A6
      | frac o u =>
        have hd : max (o.dep + 1) (u.dep + 1) ≤ n := dm.1
        have hl : (FNuc.frac o u).words.length = o.words.length + u.words.length + 5 := by simp [FNuc.words]; omega
        refine q_if (b := false) (kd (.refl _) rfl) (fun z => nomatch z) fun _ H4 s4 => ?_
        refine s_if (b := false) (kd s4 rfl) (fun z => nomatch z) fun _ H5 s5 => ?_
        refine s_if (b := true) (kd (s4.trans s5) rfl) (fun _ H6 s6 => ?_) (fun z => nomatch z)
        have ss := (s4.trans s5).trans s6
        refine s_ext (K := K) (ds := (FNuc.frac o u).words.map PyData.str) rfl (A.ext ss) (l_is (l_cat (l_cat (l_cat (l_cat (l_lst (ds := [.str "@frac", .str "{"]) (a_cons e_str (a_cons e_str a_nil)) (Nat.le_of_ble_eq_true rfl)) (l_call (a_cons (ix (.of ss) rfl rfl) a_nil) ⟨o, rfl, rfl, by omega, gm.1, by omega⟩) (by simp only [List.length_map, List.length_cons, List.length_nil]; omega)) (l_lst (ds := [.str "}", .str "{"]) (a_cons e_str (a_cons e_str a_nil)) (Nat.le_of_ble_eq_true rfl)) (by simp only [List.length_append, List.length_map, List.length_cons, List.length_nil]; omega)) (l_call (a_cons (ix (.of ss) rfl rfl) a_nil) ⟨u, rfl, rfl, by omega, gm.2, by omega⟩) (by simp only [List.length_append, List.length_map, List.length_cons, List.length_nil]; omega)) (l_strs "}") (by simp only [List.length_append, List.length_map, List.length_cons, List.length_nil]; omega)) (by simp [FNuc.words])) (by simp only [List.length_map]; omega) fun H7 tk7 kb7 A7 => fin _ _ _ _ _ H7 ((TupK.of ss).trans tk7) ((KeepB.of ss).trans kb7) ?_ (done _ _ _ _)
        have A7 : Acc K H p _ H7 := A7
        simpa using A7
      | fence o c q =>
        have hd : q.dep + 1 ≤ n := dm.1
        have hl : (FNuc.fence o c q).words.length = q.words.length + 4 := by simp [FNuc.words]
        refine q_if (b := false) (kd (.refl _) rfl) (fun z => nomatch z) fun _ H4 s4 => ?_
        refine s_if (b := false) (kd s4 rfl) (fun z => nomatch z) fun _ H5 s5 => ?_
        refine s_if (b := false) (kd (s4.trans s5) rfl) (fun z => nomatch z) fun _ H6 s6 => ?_
        refine s_if (b := false) (kd ((s4.trans s5).trans s6) rfl) (fun z => nomatch z) fun _ H7 s7 => ?_
        refine s_if (b := true) (kd (((s4.trans s5).trans s6).trans s7) rfl) (fun _ H8 s8 => ?_) (fun z => nomatch z)
        have ss := (((s4.trans s5).trans s6).trans s7).trans s8
        have el : ∀ (o : Option Str) {x : V} {H9 : Hp}, Tp K H9 x (optD o) → EvD K (tOp (rIxL K) (tLst (tCons (tVar 8) (tCons (tC (.str ".")) tNil))) (tCB (fun xs H Q => (∃ i, xs = [V.int i] ∧ Q (V.int i) H) ∨ ∃ k, xs = [V.bl k] ∧ Q (V.int (if k = true then 1 else 0)) H) (tCons (tOp (fun x y H Q => y = V.non ∧ Q (V.bl (decide (x = V.non))) H) (tVar 8) (tC V.non)) tNil))) [some v, some (.ref p), some y1, some y2, some y3, x5, x6, x7, some x] H9 (.str (delimW o)) := fun o x H9 tx9 => by
          refine e_ixNL (l_lst (ds := [optD o, .str "."]) (a_cons (e_var rfl tx9) (a_cons e_str a_nil)) (Nat.le_of_ble_eq_true rfl)) (fun H10 s10 => e_intB (b := noneD (optD o)) (fun k H Q q => .inr ⟨k, rfl, q⟩) (e_op (e_var rfl (tx9.stay (.of s10))) e_non r_isN)) ?_
          cases o <;> rfl
        have td : Tp K H' y1 (.tuple [.str "fence", optD o, optD c, .tuple q.ds]) := ty1
        refine q_setL (K := K) (l_lcT (ds := [optD o, optD c]) (es := [.str (delimW o), .str (delimW c)]) (e_is (e_slT (lo := some 1) (hi := some 3) (e_var rfl (td.stay (.of ss))) (fun H Q q => ⟨1, rfl, q⟩) (fun H Q q => ⟨3, rfl, q⟩) (by show ¬ ((1 : Nat) = 0 ∧ (3 : Nat) = 4); omega)) rfl) rfl (Nat.le_of_ble_eq_true rfl) (fun _ => rfl) ?_) fun pe xe H9 n9 s9 e9 l9 => ?_
        · intro i d e x H10 h1 h2 s10 tx10
          match i, h1, h2 with
          | 0, h1, h2 => cases h1; cases h2; exact el o tx10
          | 1, h1, h2 => cases h1; cases h2; exact el c tx10
        have ss9 := ss.trans s9
        have e5 : ∀ {i : Int} {d : PyData}, atI [PyData.str (delimW o), .str (delimW c)] i = some d → EvD K (tOp (rIxL K) (tVar 5) (tC (.int i))) [some v, some (.ref p), some y1, some y2, some y3, some (.ref pe), x6, x7, x8] H9 d := fun h => e_ixL rfl e9 l9 e_int h
        refine s_ext (K := K) (ds := (FNuc.fence o c q).words.map PyData.str) rfl (A.ext ss9) (l_is (l_cat (l_cat (l_lst (ds := [.str "@left", .str (delimW o)]) (a_cons e_str (a_cons (e5 rfl) a_nil)) (Nat.le_of_ble_eq_true rfl)) (l_call (a_cons (ix (.of ss9) rfl rfl) a_nil) ⟨q, rfl, rfl, hd, gm.2.2, by omega⟩) (by simp only [List.length_map, List.length_cons, List.length_nil]; omega)) (l_lst (ds := [.str "@right", .str (delimW c)]) (a_cons e_str (a_cons (e5 rfl) a_nil)) (Nat.le_of_ble_eq_true rfl)) (by simp only [List.length_append, List.length_map, List.length_cons, List.length_nil]; omega)) (by simp [FNuc.words])) (by simp only [List.length_map]; omega) fun H10 tk10 kb10 A10 => fin _ _ _ _ _ H10 ((TupK.of ss9).trans tk10) ((KeepB.of ss9).trans kb10) ?_ (done _ _ _ _)
        have A10 : Acc K H p _ H10 := A10
        simpa using A10
      | grid g =>
        have hdg := FGrid.dep_le.mp (show g.dep ≤ n from dm.1)
        obtain ⟨gg, ⟨gl1, _⟩, gm1, gm2, _, gm3⟩ := gm
        have gg := (FGrid.good_iff _ _).mp gg
        have hl : (FNuc.grid g).words.length = (g.words "{").length + 2 := by simp [FNuc.words]
        refine q_if (b := false) (kd (.refl _) rfl) (fun z => nomatch z) fun _ H4 s4 => ?_
        refine s_if (b := false) (kd s4 rfl) (fun z => nomatch z) fun _ H5 s5 => ?_
        refine s_if (b := false) (kd (s4.trans s5) rfl) (fun z => nomatch z) fun _ H6 s6 => ?_
        refine s_if (b := false) (kd ((s4.trans s5).trans s6) rfl) (fun z => nomatch z) fun _ H7 s7 => ?_
        refine s_if (b := false) (kd (((s4.trans s5).trans s6).trans s7) rfl) (fun z => nomatch z) fun _ H8 s8 => ?_
        have ss := (((s4.trans s5).trans s6).trans s7).trans s8
        refine q_ext (K := K) (ds := [.str "@grid", .str "{"]) rfl (A.ext ss) (l_lst (a_cons e_str (a_cons e_str a_nil)) (Nat.le_of_ble_eq_true rfl)) (by simp only [List.length_map, List.length_cons, List.length_nil]; omega) fun H9 tk9 kb9 A9 => ?_
        have tkb : TupK H' H9 := (TupK.of ss).trans tk9
        have kbb : KeepB p H' H9 := (KeepB.of ss).trans kb9
        have egd : (FNuc.grid g).d = .tuple [.str "grid", .tuple (g.lines.map FCells.d)] := by rw [← FGrid.ds_eq]; rfl
        have pl : ((r.items.take i).flatMap FItem.words).length ≤ 100000 := by omega
        refine q_forR (K := K) (n := g.lines.length) (e_is (e_lenT (fun p xs H Q h hq => ⟨p, xs, rfl, h, fun _ => hq⟩) (ix (d := .tuple (g.lines.map FCells.d)) tkb egd rfl)) (by rw [List.length_map])) (by have := lines_len g "{" (fun c hc => by rw [gm3 c hc]; exact gm2); omega)
          (fun k σ' H'' => ∃ x6 x7, σ' = [some v, some (.ref p), some y1, some y2, some y3, x5, x6, x7, x8] ∧ TupK H' H'' ∧ KeepB p H' H'' ∧ Acc K H p (((r.items.take i).flatMap FItem.words ++ (("@grid" : Str) :: (if k = 0 then [("{" : Str)] else (FGrid.of (g.lines.take k)).words "{"))).map PyData.str) H'') (fun H10 s10 => ⟨_, _, rfl, tkb.trans (.of s10), kbb.trans (.of s10), by rw [if_pos rfl]; have A9 : Acc K H p _ H9 := A9; simpa using A9.ext s10⟩) ?_ ?_
        · rintro k' σ' H10 hk ⟨x6, x7, rfl, tk10, kb10, A10⟩
          obtain ⟨c, hc⟩ : ∃ c, g.lines[k']? = some c := ⟨_, List.getElem?_eq_getElem hk⟩
          have cm := List.mem_of_getElem? hc
          have wl := line_words (s := "{") cm
          have gt := grid_take (s := "{") (c := g) (i := k' + 1)
          rw [grid_snoc hc, List.length_append, cells_words_len _ "{"] at gt
          refine g_name ?_
          have grep : (if decide ((k' : Int) > 0) = true then [PyData.str "~"] else []) = (if k' = 0 then [] else [("~" : Str)]).map PyData.str := by
            by_cases z : k' = 0
            · subst z; rfl
            · rw [if_pos (decide_eq_true (by omega)), if_neg z]; rfl
          refine q_ext (K := K) (ds := (if k' = 0 then [] else [("~" : Str)]).map PyData.str) rfl A10 (l_is (l_rep (b := decide ((k' : Int) > 0)) (l_lst (ds := [.str "~"]) (a_cons e_str a_nil) (Nat.le_of_ble_eq_true rfl)) (fun H11 s11 => e_intB (fun k H Q q => .inr ⟨k, rfl, q⟩) (e_op (e_var rfl (.int (k' : Int))) e_int r_I0b)) (Nat.le_of_ble_eq_true rfl)) grep) (by
            have : (if k' = 0 then [] else [("~" : Str)]).length ≤ 1 := by split <;> simp
            have : (if k' = 0 then [("{" : Str)] else (FGrid.of (g.lines.take k')).words "{").length ≤ (g.words "{").length + 1 := by
              split
              · simp
              · omega
            simp only [List.length_map, List.length_append, List.length_cons]
            omega) fun H11 tk11 kb11 A11 => ?_
          have A11 : Acc K H p (((r.items.take i).flatMap FItem.words ++ (("@grid" : Str) :: ((FGrid.of (g.lines.take k')).words "{" ++ [if k' = 0 then ("{" : Str) else "~"]))).map PyData.str) H11 := by
            have A11 : Acc K H p _ H11 := A11
            by_cases z : k' = 0
            · subst z
              simpa [FGrid.of, FGrid.words] using A11
            · simpa [z] using A11
          have tk11 := tk10.trans tk11
          have ec : EvD K (tOp (rIxT K) (tOp (rIxT K) (tVar 2) (tC (.int 1))) (tVar 6)) [some v, some (.ref p), some y1, some y2, some y3, x5, some (.int (k' : Int)), x7, x8] H11 (.tuple (c.rows.map FRow.d)) := by
            refine e_op (ix (d := .tuple (g.lines.map FCells.d)) tk11 egd rfl) (e_var rfl (.int (k' : Int))) (r_ixT (atI_nat ?_))
            rw [← FCells.ds_eq]
            exact map_get hc
          have cl1 : 1 ≤ c.rows.length := by rw [gm3 c cm]; exact gm2
          refine s_forR (K := K) (n := c.rows.length) (e_is (e_lenT (fun p xs H Q h hq => ⟨p, xs, rfl, h, fun _ => hq⟩) ec) (by rw [List.length_map])) (by have := cells_len "{" c; omega)
            (fun j σ' H'' => ∃ x7, σ' = [some v, some (.ref p), some y1, some y2, some y3, x5, some (.int (k' : Int)), x7, x8] ∧ TupK H' H'' ∧ KeepB p H' H'' ∧ Acc K H p (((r.items.take i).flatMap FItem.words ++ (("@grid" : Str) :: ((FGrid.of (g.lines.take k')).words "{" ++ (if j = 0 then [if k' = 0 then ("{" : Str) else "~"] else (FCells.of (c.rows.take j)).words (if k' = 0 then "{" else "~"))))).map PyData.str) H'') (fun H12 s12 => ⟨_, rfl, tk11.trans (.of s12), (kb10.trans kb11).trans (.of s12), by rw [if_pos rfl]; exact A11.ext s12⟩) ?_ ?_
          · rintro j σ' H12 hj ⟨x7, rfl, tk12, kb12, A12⟩
            obtain ⟨q, hq⟩ : ∃ q, c.rows[j]? = some q := ⟨_, List.getElem?_eq_getElem hj⟩
            have qm := List.mem_of_getElem? hq
            have qa := lines_all cm qm
            have dq := hdg q qa
            have wq := words_grid (s := "{") qa
            have ct := cells_take (s := "{") (c := c) (i := j + 1)
            rw [cells_snoc hq, List.length_append, List.length_cons] at ct
            have cl := cells_words_len (if k' = 0 then "{" else "~") "{" (FCells.of (c.rows.take j))
            have gq := (FCells.good_iff _ _).mp (gg c cm) q qm
            refine g_name ?_
            have grep2 : (if decide ((j : Int) > 0) = true then [PyData.str "&"] else []) = (if j = 0 then [] else [("&" : Str)]).map PyData.str := by
              by_cases z : j = 0
              · subst z; rfl
              · rw [if_pos (decide_eq_true (by omega)), if_neg z]; rfl
            have el1 : (if j = 0 then [] else [("&" : Str)]).length ≤ 1 := by split <;> simp
            refine s_ext (K := K) (ds := ((if j = 0 then [] else [("&" : Str)]) ++ q.words).map PyData.str) rfl A12 (l_is (l_cat (l_is (l_rep (b := decide ((j : Int) > 0)) (l_lst (ds := [.str "&"]) (a_cons e_str a_nil) (Nat.le_of_ble_eq_true rfl)) (fun H11 s11 => e_intB (fun k H Q q => .inr ⟨k, rfl, q⟩) (e_op (e_var rfl (.int (j : Int))) e_int r_I0b)) (Nat.le_of_ble_eq_true rfl)) grep2) (l_call (a_cons (e_op (e_op (e_op (e_var rfl ((egd ▸ ty1).stay tk12)) e_int (r_ixT rfl)) (e_var rfl (.int (k' : Int))) (r_ixT (atI_nat (by rw [List.getElem?_map, hc]; show some (FCells.d c) = some (.tuple (c.rows.map FRow.d)); rw [← FCells.ds_eq]; rfl)))) (e_var rfl (.int (j : Int))) (r_ixT (atI_nat (map_get hq)))) a_nil) ⟨q, rfl, rfl, by omega, gq, by omega⟩) (by simp only [List.length_map]; omega)) (by rw [List.map_append])) (by
              have : (if j = 0 then [if k' = 0 then ("{" : Str) else "~"] else (FCells.of (c.rows.take j)).words (if k' = 0 then "{" else "~")).length ≤ (c.words "{").length + 1 := by
                split
                · simp
                · omega
              simp only [List.length_map, List.length_append, List.length_cons]
              omega) fun H13 tk13 kb13 A13 => ⟨_, rfl, tk12.trans tk13, kb12.trans kb13, ?_⟩
            have A13 : Acc K H p _ H13 := A13
            rw [if_neg (Nat.succ_ne_zero j), cells_snoc hq]
            by_cases z : j = 0
            · subst z
              simpa [FCells.of, FCells.words] using A13
            · simpa [z] using A13
          · rintro σ' H12 ⟨x7, rfl, tk12, kb12, A12⟩
            refine ⟨_, _, rfl, tk12, kb12, ?_⟩
            rw [if_neg (by omega), List.take_length, cells_of_rows] at A12
            rw [if_neg (Nat.succ_ne_zero k'), grid_snoc hc]
            exact A12
        · rintro σ' H10 ⟨x6, x7, rfl, tk10, kb10, A10⟩
          rw [if_neg (by omega), List.take_length, grid_of_lines] at A10
          refine s_app (l := 0) rfl A10 e_str (by simp only [List.length_map, List.length_append, List.length_cons]; omega) fun H11 tk11 kb11 A11 => fin _ _ _ _ _ H11 (tk10.trans tk11) (kb10.trans kb11) ?_ (done _ _ _ _)
          have A11 : Acc K H p _ H11 := A11
          simpa [FNuc.words] using A11
    · rintro σ' H5 ⟨x2, x3, x4, x5, x6, x7, x8, rfl, A5⟩ kb
      rw [List.length_map, List.take_length, ← FRow.words_eq] at A5
      exact retAcc k A5 rfl rfl
theorem ok_pieces {f : Addr} {fd : FuncData} (F : Fun K "_law_pieces" "_law_pieces" sPieces f fd) (T : TxtB mg) (hm : mg "_law_pieces" = some (.ref f)) (hk : PySem.W.keepIn K (.ref f) = true) (hb : Binds K fd ["row"] []) :
    ∀ n, Cal P w K mg base CX0 n "_law_pieces" ["row"] (spLPieces K n)
  | 0 => ⟨f, fd, FnOk.vac fun vs H Q E ⟨_, _, _, ⟨_, _, _, h, _⟩, _⟩ => Nat.not_lt_zero _ h, hm, hk, hb⟩
  | n + 1 => ⟨f, fd, ok_pieces1 F T (ok_pieces F T hm hk hb n), hm, hk, hb⟩
end
end Mg

set_option Elab.async false
set_option linter.all false
set_option maxRecDepth 100000
set_option maxHeartbeats 2000000
namespace Mg
open PySem L2 StX
abbrev sFormula : Stmt := top 49
theorem starts_eq {w : Str} {c : Nat} {L : List Nat} (e : w.cps.toList = c :: L) : Txt.startswith w "@" = decide ((⟨#[c]⟩ : Str) = "@") := by
  rw [str_of_cps e]
  by_cases h : c = 64
  · subst h
    rw [decide_eq_true at64]
    unfold Txt.startswith
    rw [Bool.and_eq_true]
    refine ⟨decide_eq_true ?_, ?_⟩
    · show 0 + 1 ≤ (64 :: L).length
      simp
    · simp [PySem.Builtin.Str.subAt]
      rfl
  · rw [decide_eq_false (at_ne h)]
    unfold Txt.startswith
    rw [Bool.and_eq_false_iff]
    refine .inr ?_
    simp only [PySem.Builtin.Str.subAt]
    rw [beq_eq_false_iff_ne]
    intro z
    have := congrArg Array.toList z
    have e2 : ("@" : Str).cps.toList = [64] := rfl
    have e3 : ("@" : Str).length = 1 := rfl
    rw [e2, e3] at this
    simp at this
    exact h this
section
variable {K : PySem.W.Frag}
theorem r_catS {a b : Str} (h : a.length + b.length ≤ 1000000) : RD K (fun x y H Q => ∃ i j, x = .str i ∧ y = .str j ∧ i.length + j.length ≤ sizeLine ∧ Q (.str (i ++ j)) H) (.str a) (.str b) (.str (a ++ b)) := fun v1 v2 H Q t1 t2 q => by
  rw [tp_str t1, tp_str t2]
  exact ⟨a, b, rfl, rfl, sz5 h, q _ _ (Same.refl _) (.str _)⟩
end
theorem cat_cps (a b : Str) : (a ++ b).cps.toList = a.cps.toList ++ b.cps.toList := by
  show (a.cps ++ b.cps).toList = _
  simp
section
variable {P : Program} {w : World} {K : PySem.W.Frag} {mg : Str → Option Value} {base : Heap}
def spFormula (K : PySem.W.Frag) : Sp := fun vs H Q _ => ∃ (st pd pl : Addr), vs = [.ref st] ∧ Stream H st pd pl ∧ ∀ v r H', SK st pd pl H H' → DrR 3 4 r → Tp K H' v r.d → Q v H'
theorem scFormula : FnScope ["stream"] ["stream"] (defScope sFormula) := ⟨rfl, rfl, rfl, by decide +kernel, rfl, by decide +kernel, by decide +kernel⟩
theorem ok_formula {f : Addr} {fd : FuncData} (F : Fun K "_law_formula" "_law_formula" sFormula f fd) (C_law_row : Cal P w K mg base CX0 13 "_law_row" ["stream", "depth", "most"] (spLRow K 4)) : FnOk P w K mg base CX0 14 f fd ["stream"] (spFormula K) := by
  have sc := scFormula
  refine F.ok scFormula (fun vs H Q E h => ?_) (fun cdv A outer s H vs Q E hr h => ?_)
  · obtain ⟨st, pd, pl, rfl, _⟩ := h
    rfl
  · obtain ⟨st, pd, pl, rfl, S, k⟩ := h
    refine ⟨_, (pss_one (ps_ret (pe_cal C_law_row (hr.mono (by omega)) rfl pass0 (pa_cons (pv 0) (pa_cons pe_int (pa_cons pe_int pa_nil)))))), ?_⟩
    exact ⟨_, rfl, st, pd, pl, 0, 4, rfl, S, by decide, by decide, by decide, by decide, fun v r H' sk dr t => k v r H' sk dr t⟩
def gF (ws : List Str) (k : Nat) : List Nat := (List.range k).flatMap fun k => (if spP none ws k = true then [32] else []) ++ (ws.getD k "").cps.toList
def spGlued (K : PySem.W.Frag) : Sp := fun vs H Q _ => ∃ (q : Addr) (xs : List V) (ws : List Str), vs = [.ref q] ∧ H q = some (.lst xs) ∧ TpL K H xs (ws.map PyData.str) ∧ ws.length ≤ 10000 ∧ (∀ x ∈ ws, 1 ≤ x.length ∧ x.length ≤ 9) ∧ ∀ H', Same H H' → Q (.str (glueW ws)) H'
theorem gF_len {ws : List Str} (h : ∀ x ∈ ws, x.length ≤ 9) : ∀ k, k ≤ ws.length → (gF ws k).length ≤ 10 * k
  | 0, _ => by simp [gF]
  | k + 1, hk => by
    have ih := gF_len h k (by omega)
    unfold gF at ih ⊢
    rw [List.range_succ, List.flatMap_append, List.length_append, List.flatMap_cons, List.flatMap_nil, List.append_nil, List.length_append]
    have e : ws[k]? = some (ws[k]'(by omega)) := List.getElem?_eq_getElem (by omega)
    have h1 := h _ (List.mem_of_getElem? e)
    have h2 : (ws.getD k "").cps.toList.length ≤ 9 := by rw [getD_of e]; exact h1
    have h3 : (if spP none ws k = true then [32] else []).length ≤ 1 := by split <;> simp
    omega
theorem gF_glue (ws : List Str) : (glueW ws).cps.toList = gF ws ws.length := by
  unfold glueW
  rw [TL.join_eq, join_cps]
  unfold partsW gF
  rw [List.flatMap_assoc]
  refine flat_congr fun k _ => ?_
  unfold partAt
  have e2 : spaceAt ws k = spP none ws k := by
    cases k with
    | zero => rfl
    | succ k =>
      unfold spaceAt spP
      rw [decide_eq_true (Nat.succ_pos k), Bool.true_and]
      rfl
  rw [e2]
  split
  · show [(" " : Str), ws.getD k ""].flatMap _ = _
    rw [List.flatMap_cons, List.flatMap_cons, List.flatMap_nil, List.append_nil]
    rfl
  · show [ws.getD k ""].flatMap _ = _
    rw [List.flatMap_cons, List.flatMap_nil, List.append_nil]
    rfl
theorem scGlued : FnScope ["pieces", "text", "k"] ["pieces"] (defScope sGlued) := ⟨rfl, rfl, rfl, by decide +kernel, rfl, by decide +kernel, by decide +kernel⟩
theorem ok_glued {f : Addr} {fd : FuncData} (F : Fun K "_law_glued" "_law_glued" sGlued f fd) (T : TxtB mg) : FnOk P w K mg base CX0 1 f fd ["pieces"] (spGlued K) := by
  have sc := scGlued
  refine F.ok scGlued (fun vs H Q E h => ?_) (fun cdv A outer s H vs Q E hr h => ?_)
  · obtain ⟨q, xs, ws, rfl, _⟩ := h
    rfl
  · obtain ⟨q, xs, ws, rfl, hq, lx, hl, hw, k⟩ := h
    refine ⟨_, (pss_cons (ps_set (i := 1) sc.nd rfl (Or.inl rfl) pe_str)
  (pss_cons (ps_for PassesOwn.never rfl (pi_range1 rfl T.range (pa_cons (pe_callB call_len_sq (by rfl) T.b_len PySem.boot_len (pa_cons (pv 0) pa_nil)) pa_nil)) (pg_name (i := 2) sc.nd rfl (Or.inl rfl))
  (pss_cons (ps_if (PW.pt (pw_and (pt_cmpR op_gt (pv 2) pe_int (nomark _)) (pw_and (pt_cmpR op_eq (pe_ix ix_str (pe_ix ix_list (pv 0) (pe_op op_sub (pv 2) pe_int) (fun _ _ => rfl)) pe_int (fun _ _ => rfl)) pe_str (nomark _)) (pw_and1 (pt_cmpR op_in_sign (pe_ix ix_str (pe_ix ix_list (pv 0) (pv 2) (fun _ _ => rfl)) pe_int (fun _ _ => rfl)) pe_str (by rfl))))))
  (pss_one (ps_set (i := 1) sc.nd rfl (Or.inl rfl) (pe_op op_add_str (pv 1) pe_str)))
  pss_nil)
  (pss_one (ps_set (i := 1) sc.nd rfl (Or.inl rfl) (pe_op op_add_str (pv 1) (pe_ix ix_list (pv 0) (pv 2) (fun _ _ => rfl)))))))
  (pss_one (ps_ret (pv 1))))), ?_⟩
    refine q_set (K := K) e_str fun v1 H1 s1 t1 => ?_
    cases tp_str t1
    refine q_forR (K := K) (n := ws.length) (e_lenV (fun p ys H Q h k => ⟨p, ys, rfl, h, fun _ => k⟩) rfl (s1 _ _ hq) (by rw [lx.len, List.length_map])) (by omega)
      (fun k σ' H' => ∃ t x2, σ' = [some (.ref q), some (.str t), x2] ∧ Same H H' ∧ t.cps.toList = gF ws k) (fun H2 s2 => ⟨"", none, rfl, s1.trans s2, rfl⟩) ?_ ?_
    · rintro i σ' H2 hi ⟨t, x2, rfl, s2, et⟩
      have e : ws[i]? = some ws[i] := List.getElem?_eq_getElem hi
      have wi := hw _ (List.getElem_mem hi)
      obtain ⟨c, L, hc⟩ := head_of wi.1
      have tl := gF_len (fun x hx => (hw x hx).2) i (by omega)
      rw [← et] at tl
      have tl : t.length ≤ 10 * i := tl
      refine g_name ?_
      have eix : ∀ {H3 : Hp} {t : Str}, Same H H3 → EvD K (tOp (rIxL K) (tVar 0) (tVar 2)) [some (.ref q), some (.str t), some (.int (i : Int))] H3 (.str ws[i]) := fun s3 => e_ixL rfl (s3 _ _ hq) (lx.stay (.of s3)) (e_var rfl (.int (i : Int))) (atI_nat (map_get e))
      have tst : EvDT K (tAnd (tTest (tOp (rI0 fun i j => .bl (decide (i > j))) (tVar 2) (tC (.int 0)))) (tAnd (tTest (tOp rEq (tOp rIxS (tOp (rIxL K) (tVar 0) (tOp (rI0 fun i j => .int (i - j)) (tVar 2) (tC (.int 1)))) (tC (.int 0))) (tC (.str "@")))) (tTest (tOp (fun x y H Q => ∃ (c : Nat) (z : Str), x = .str ⟨#[c]⟩ ∧ y = .str z ∧ Q (.bl (decide (c ∈ z.cps.toList))) H) (tOp rIxS (tOp (rIxL K) (tVar 0) (tVar 2)) (tC (.int 0))) (tC (.str "abcdefghijklmnopqrstuvwxyz"))))))
          [some (.ref q), some (.str t), some (.int (i : Int))] H2 (spP none ws i) := by
        have el : EvDT K (tTest (tOp (fun x y H Q => ∃ (c : Nat) (z : Str), x = .str ⟨#[c]⟩ ∧ y = .str z ∧ Q (.bl (decide (c ∈ z.cps.toList))) H) (tOp rIxS (tOp (rIxL K) (tVar 0) (tVar 2)) (tC (.int 0))) (tC (.str "abcdefghijklmnopqrstuvwxyz")))) [some (.ref q), some (.str t), some (.int (i : Int))] H2 (headLet ws[i]) := by
          rw [headLet_of hc]
          exact t_test (e_op (e_op (eix s2) e_int (r_ixS (σ := []) hc (by omega))) e_str r_inS)
        cases i with
        | zero => exact t_is (t_and (b := false) (c := true) (t_test (e_op (e_var rfl (.int _)) e_int r_I0b)) (fun z => nomatch z)) rfl
        | succ i =>
          have e0 : ws[i]? = some ws[i] := List.getElem?_eq_getElem (by omega)
          have w0 := hw _ (List.getElem_mem (show i < ws.length by omega))
          obtain ⟨c0, L0, hc0⟩ := head_of w0.1
          refine t_is (t_and (b := decide (((i + 1 : Nat) : Int) > 0)) (t_test (e_op (e_var rfl (.int _)) e_int r_I0b)) fun _ => t_and (b := decide ((⟨#[c0]⟩ : Str) = "@")) (t_test (e_op (e_op (e_ixL rfl (s2 _ _ hq) (lx.stay (.of s2)) (e_op (e_var rfl (.int _)) e_int r_I0i) (d := .str ws[i]) ?_) e_int (r_ixS (σ := []) hc0 (by omega))) e_str r_eqS)) fun _ => el) ?_
          · rw [show ((i + 1 : Nat) : Int) - 1 = ((i : Nat) : Int) by omega]
            exact atI_nat (map_get e0)
          · rw [decide_eq_true (by omega), Bool.true_and, ← starts_eq hc0]
            show _ = (headLet (ws.getD (i + 1) "") && Txt.startswith (ws.getD i "") "@")
            rw [getD_of e, getD_of e0, Bool.and_comm]
      have stepF : ∀ (t2 : Str), t2.cps.toList = gF ws i ++ (if spP none ws i = true then [32] else []) → (t2 ++ ws[i]).cps.toList = gF ws (i + 1) := fun t2 h => by
        rw [cat_cps, h]
        unfold gF
        rw [List.range_succ, List.flatMap_append, List.flatMap_cons, List.flatMap_nil, List.append_nil, getD_of e, List.append_assoc]
      have fin : ∀ (D : Ends) (t2 : Str) (H3 : Hp), Same H H3 → t2.length ≤ 10 * i + 1 → t2.cps.toList = gF ws i ++ (if spP none ws i = true then [32] else []) → (∀ H4, Same H H4 → D.nx [some (.ref q), some (.str (t2 ++ ws[i])), some (.int (i : Int))] H4) → tAsg (tOp (fun x y H Q => ∃ i j, x = .str i ∧ y = .str j ∧ i.length + j.length ≤ sizeLine ∧ Q (.str (i ++ j)) H) (tVar 1) (tOp (rIxL K) (tVar 0) (tVar 2))) (gName 1) D [some (.ref q), some (.str t2), some (.int (i : Int))] H3 := fun D t2 H3 s3 l3 _ kk =>
        e_op (e_var rfl (.str t2)) (eix s3) (r_catS (by omega)) H3 (.refl _) _ fun v4 H4 s4 t4 => by
          cases tp_str t4
          exact kk H4 (s3.trans s4)
      cases hb : spP none ws i with
      | true =>
        rw [hb] at tst
        refine q_yes tst rfl fun H3 s3 => ?_
        refine e_op (K := K) (d := .str (t ++ " ")) (e_var rfl (.str t)) e_str (r_catS (by have : (" " : Str).length = 1 := rfl; omega)) H3 (.refl _) _ fun v4 H4 s4 t4 => ?_
        cases tp_str t4
        have e5 : (t ++ (" " : Str)).cps.toList = gF ws i ++ (if spP none ws i = true then [32] else []) := by rw [cat_cps, et, hb, if_pos rfl]; rfl
        refine fin _ (t ++ " ") H4 ((s2.trans s3).trans s4) (by
          have : (t ++ (" " : Str)).length = (t ++ (" " : Str)).cps.toList.length := rfl
          rw [this, cat_cps, List.length_append]
          have e6 : (" " : Str).cps.toList.length = 1 := rfl
          have e7 : t.cps.toList.length = t.length := rfl
          omega) e5 fun H5 s5 => ⟨_, _, rfl, s5, stepF _ e5⟩
      | false =>
        rw [hb] at tst
        refine q_no tst rfl fun H3 s3 => ?_
        have e5 : t.cps.toList = gF ws i ++ (if spP none ws i = true then [32] else []) := by rw [et, hb, if_neg (by decide), List.append_nil]
        exact fin _ t H3 (s2.trans s3) (by omega) e5 fun H5 s5 => ⟨_, _, rfl, s5, stepF _ e5⟩
    · rintro σ' H2 ⟨t, x2, rfl, s2, et⟩
      have : t = glueW ws := by rw [str_of_cps et, ← gF_glue]
      subst this
      exact ⟨_, rfl, k H2 s2⟩
end
end Mg

set_option Elab.async false
set_option linter.all false
set_option maxRecDepth 100000
set_option maxHeartbeats 2000000
namespace Mg
open PySem L2 StX
instance (x : Str) : Decidable (Sy x) := inferInstanceAs (Decidable (x.length ≤ 1000 ∧ isSymbol x = true))
def twB (w : Str) : Bool := (match w.cps.toList with
  | [c] => decide (c ≠ 64) && decide (c ∈ cSIGNS.cps.toList ∨ c ∈ cMARKS.cps.toList)
  | _ => false) || isCommand w
theorem tw_of {w : Str} (h : twB w = true) : Tw w := by
  unfold twB at h
  rw [Bool.or_eq_true] at h
  rcases h with h | h
  · split at h
    · rename_i c e
      rw [Bool.and_eq_true, decide_eq_true_eq, decide_eq_true_eq] at h
      exact .inl ⟨c, e, h.1, h.2⟩
    · cases h
  · exact .inr h
def tokB : List (Str × Nat) → Bool
  | [] => true
  | [(w, _)] => twB w
  | (w, k) :: (w', k') :: r => twB w && (!(isCommand w && headLet w') || decide (1 ≤ k)) && tokB ((w', k') :: r)
theorem tok_of : ∀ {ts : List (Str × Nat)}, tokB ts = true → TOk ts
  | [], _ => trivial
  | [(w, k)], h => ⟨tw_of h, (fun _ _ _ e => by cases e), trivial⟩
  | (w, k) :: (w', k') :: r, h => by
    have h : (twB w && (!(isCommand w && headLet w') || decide (1 ≤ k)) && tokB ((w', k') :: r)) = true := h
    rw [Bool.and_eq_true, Bool.and_eq_true] at h
    refine ⟨tw_of h.1.1, fun v j q e hc hl => ?_, tok_of h.2⟩
    cases e
    have := h.1.2
    rw [hc, hl] at this
    simpa using this
/-! how deep the data are -/
theorem dep_all {n : Nat} : ∀ {ds : List PyData}, (∀ d ∈ ds, d.depth ≤ n) → PyData.depthAll ds ≤ n
  | [], _ => Nat.zero_le _
  | d :: ds, h => Nat.max_le.mpr ⟨h d List.mem_cons_self, dep_all fun e he => h e (List.mem_cons_of_mem _ he)⟩
theorem dep_tup {n : Nat} {ds : List PyData} (h : ∀ d ∈ ds, d.depth ≤ n) : (PyData.tuple ds).depth ≤ n + 1 := Nat.succ_le_succ (dep_all h)
mutual
theorem FRow.dpt : ∀ r : FRow, ∀ d ∈ r.ds, d.depth ≤ 6 * r.dep + 4
  | .nil, d, h => nomatch h
  | .cons i r, d, h => by
    rw [FRow.dep]
    rcases List.mem_cons.mp h with rfl | h
    · have := FItem.dpt i
      omega
    · have := FRow.dpt r d h
      omega
theorem FItem.dpt : ∀ i : FItem, i.d.depth ≤ 6 * i.dep + 4
  | .mk n b a => by
    rw [FItem.dep]
    refine (fun h => Nat.le_trans (dep_tup (n := 6 * max n.dep (max b.dep a.dep) + 3) h) (by omega)) fun d hd => ?_
    simp only [List.mem_cons, List.not_mem_nil, or_false] at hd
    rcases hd with rfl | rfl | rfl
    · have := FNuc.dpt n
      omega
    · have := FScr.dpt b
      omega
    · have := FScr.dpt a
      omega
theorem FScr.dpt : ∀ s : FScr, s.d.depth ≤ 6 * s.dep
  | .no => Nat.zero_le _
  | .yes r => by
    have := dep_tup (FRow.dpt r)
    have e : (FScr.yes r).d.depth = (PyData.tuple r.ds).depth := rfl
    have e2 : (FScr.yes r).dep = r.dep + 1 := rfl
    omega
theorem FNuc.dpt : ∀ s : FNuc, s.d.depth ≤ 6 * s.dep + 3
  | .sym x => by show 1 ≤ 6 * 0 + 3; omega
  | .group r => by
    have := dep_tup (FRow.dpt r)
    have e2 : (FNuc.group r).dep = r.dep + 1 := rfl
    refine dep_tup fun d hd => ?_
    simp only [List.mem_cons, List.not_mem_nil, or_false] at hd
    rcases hd with rfl | rfl
    · exact Nat.zero_le _
    · omega
  | .root r => by
    have := dep_tup (FRow.dpt r)
    have e2 : (FNuc.root r).dep = r.dep + 1 := rfl
    refine dep_tup fun d hd => ?_
    simp only [List.mem_cons, List.not_mem_nil, or_false] at hd
    rcases hd with rfl | rfl
    · exact Nat.zero_le _
    · omega
  | .frac o u => by
    have h1 := dep_tup (FRow.dpt o)
    have h2 := dep_tup (FRow.dpt u)
    have e2 : (FNuc.frac o u).dep = max (o.dep + 1) (u.dep + 1) := rfl
    refine dep_tup fun d hd => ?_
    simp only [List.mem_cons, List.not_mem_nil, or_false] at hd
    rcases hd with rfl | rfl | rfl
    · exact Nat.zero_le _
    · omega
    · omega
  | .fence o c r => by
    have := dep_tup (FRow.dpt r)
    have e2 : (FNuc.fence o c r).dep = r.dep + 1 := rfl
    refine dep_tup fun d hd => ?_
    simp only [List.mem_cons, List.not_mem_nil, or_false] at hd
    rcases hd with rfl | rfl | rfl | rfl
    · exact Nat.zero_le _
    · cases o <;> exact Nat.zero_le _
    · cases c <;> exact Nat.zero_le _
    · omega
  | .grid g => by
    have h1 := dep_tup (FGrid.dpt g)
    have e2 : (FNuc.grid g).dep = g.dep := rfl
    refine dep_tup fun d hd => ?_
    simp only [List.mem_cons, List.not_mem_nil, or_false] at hd
    rcases hd with rfl | rfl
    · exact Nat.zero_le _
    · omega
theorem FGrid.dpt : ∀ s : FGrid, ∀ d ∈ s.ds, d.depth ≤ 6 * s.dep + 1
  | .nil, d, h => nomatch h
  | .cons c g, d, h => by
    rw [FGrid.dep]
    rcases List.mem_cons.mp h with rfl | h
    · have := dep_tup (FCells.dpt c)
      omega
    · have := FGrid.dpt g d h
      omega
theorem FCells.dpt : ∀ s : FCells, ∀ d ∈ s.ds, d.depth ≤ 6 * s.dep
  | .nil, d, h => nomatch h
  | .cons r c, d, h => by
    rw [FCells.dep]
    rcases List.mem_cons.mp h with rfl | h
    · have := dep_tup (FRow.dpt r)
      omega
    · have := FCells.dpt c d h
      omega
end
section
variable {K : PySem.W.Frag} {σ : L2.St} {H : Hp} {te tl ta tb : TE} {vs : List Nat} {ds es : List PyData}
theorem r_catT (n : ds ≠ []) (hl : ds.length + es.length ≤ 1000) : RD K (rCatT K) (.tuple ds) (.tuple es) (.tuple (ds ++ es)) := fun v1 v2 H Q t1 t2 q => by
  obtain ⟨a, xs, rfl, sq, l⟩ := t1.inv
  obtain ⟨b, ys, rfl, sq2, l2⟩ := t2.inv
  refine ⟨a, b, xs, ys, rfl, rfl, sq, sq2, fun z => ?_, by rw [l.len, l2.len]; exact sz5 (by omega), fun z => ?_, fun _ p hp => q _ _ (same_new hp) (.mk (SqT.of upd_same) ((l.app l2).stay (.of (same_new hp))))⟩
  · subst z
    cases l
    exact n rfl
  · subst z
    cases l2
    exact q _ _ (.refl _) (by rw [List.append_nil]; exact t1)
theorem l_lcS {j : Nat} {t : Str} (h : EvD K tl σ H (.str t)) (hl : es.length = t.cps.toList.length) (hz : es.length ≤ 1000000) (hw : ∀ x, wipe ((wipe σ vs).set j (some x)) vs = wipe σ vs)
    (he : ∀ (i : Nat) c e H1, t.cps.toList[i]? = some c → es[i]? = some e → Same H H1 → EvD K te ((wipe σ vs).set j (some (.str ⟨#[c]⟩))) H1 e) : EvDL K (tLc (iStr tl) (gName j) tYes te vs) σ H es := fun H0 s Q q => h H0 s _ fun v H1 s1 tv => by
  cases tp_str tv
  refine ⟨t, rfl, fun D hD => lc_data (K := K) es hD hz (fun i H' hi s2 => ?_) (fun H' s2 => ?_) ?_ fun H' acc s2 e ta => q D acc H' (s1.free hD) (s1.trans s2) e ta⟩
  · show i < t.cps.toList.length
    omega
  · show t.cps.toList.length ≤ es.length
    omega
  · rintro i x H' H'' R Z hi s2 ⟨rfl, c, hc, rfl⟩ k
    have e3 : es[i]? = some es[i] := List.getElem?_eq_getElem hi
    exact ⟨hw _, iteT (B := Z H'') (he i c _ H'' (by rw [Array.getElem?_toList]; exact hc) e3 ((s.trans s1).trans s2) H'' (Same.refl _) R fun v H3 s3 tv => k v _ H3 e3 s3 tv)⟩
end
section
variable {K : PySem.W.Frag} {σ : L2.St} {H : Hp} {te tl ta tb : TE} {vs : List Nat} {ds es : List PyData} {q : Addr} {xs : List V} {j : Nat} {g : TG} {tu tz : TS} {D : Ends}
theorem q_forV (hj : σ[j]? = some (some (.ref q))) (e : H q = some (.lst xs)) (l : TpL K H xs ds) (Pv : Nat → L2.St → Hp → Prop) (h0 : Pv 0 σ H)
    (hs : ∀ i d x σ' H', ds[i]? = some d → Pv i σ' H' → Same H H' → Tp K H' x d → g x σ' H' fun σ2 H2 => tu { D with nx := fun σ3 H3 => Pv (i + 1) σ3 H3 ∧ Same H H3, ct := fun σ3 H3 => Pv (i + 1) σ3 H3 ∧ Same H H3, bk := tz D } σ2 H2)
    (hd : ∀ σ' H', Pv ds.length σ' H' → Same H H' → tz D σ' H') : tSeq (tFor (iList K (tVar j)) g tu) tz D σ H := by
  have sq : ∀ {H'}, Same H H' → SqL K H' q xs := fun kb => SqL.of (kb _ _ e)
  refine ⟨_, hj, q, rfl, ⟨xs, SqL.of e⟩, for_word (D := { D with nx := tz D }) (n := ds.length) (fun i σ' H' => Pv i σ' H' ∧ Same H H') ⟨h0, Same.refl _⟩ (fun i σ' H' hi q => ?_) (fun σ' H' q => ⟨xs, sq q.2, Nat.le_of_eq l.len⟩) (fun i x σ' H' H'' hi q y => ?_) (fun σ' H' q => hd σ' H' q.1 q.2)⟩
  · have hi2 : i < xs.length := by rw [l.len]; exact hi
    exact ⟨xs, xs[i], sq q.2, List.getElem?_eq_getElem hi2⟩
  · obtain ⟨rfl, y⟩ := y
    have hx := y xs (sq q.2)
    obtain ⟨d, e1, e2⟩ := l.get' hx
    exact hs i d x σ' H'' e1 q.1 q.2 (e2.stay (.of q.2))
theorem l_lcV2 {a b : Nat} (f1 f2 : Nat → PyData) (hj : σ[j]? = some (some (.ref q))) (e : H q = some (.lst xs)) (l : TpL K H xs ds) (hd : ∀ (i : Nat) d, ds[i]? = some d → d = .tuple [f1 i, f2 i]) (hl : es.length = ds.length) (hz : es.length ≤ 1000000) (hw : ∀ x y, wipe (((wipe σ vs).set a (some x)).set b (some y)) vs = wipe σ vs)
    (he : ∀ (i : Nat) e x y H1, es[i]? = some e → Same H H1 → Tp K H1 x (f1 i) → Tp K H1 y (f2 i) → EvD K te (((wipe σ vs).set a (some x)).set b (some y)) H1 e) : EvDL K (tLc (iList K (tVar j)) (gTup K 2 (gCons (gName a) (gCons (gName b) gNil))) tYes te vs) σ H es := fun H0 s Q qq => by
  have e0 := s _ _ e
  have l0 := l.stay (.of s)
  refine ⟨_, hj, q, rfl, ⟨xs, SqL.of e0⟩, fun D hD => lc_data (K := K) es hD hz (fun i H' hi s2 => ?_) (fun H' s2 => ⟨xs, SqL.of (s2 _ _ e0), by rw [l0.len, hl]; exact Nat.le_refl _⟩) ?_ fun H' acc s2 e ta => qq D acc H' hD s2 e ta⟩
  · have hi2 : i < xs.length := by rw [l0.len]; omega
    exact ⟨xs, xs[i], SqL.of (s2 _ _ e0), List.getElem?_eq_getElem hi2⟩
  · rintro i x H' H'' R Z hi s2 ⟨rfl, y⟩ k
    have hx := y xs (SqL.of (s2 _ _ e0))
    obtain ⟨d, e1, e2⟩ := l0.get' hx
    obtain rfl := hd i d e1
    have e3 : es[i]? = some es[i] := List.getElem?_eq_getElem hi
    refine g_tup2 (e2.stay (.of s2)) fun x1 x2 t1 t2 => ⟨hw _ _, iteT (B := Z H'') ?_⟩
    exact he i _ x1 x2 H'' e3 (s.trans s2) t1 t2 H'' (Same.refl _) R fun v H3 s3 tv => k v _ H3 e3 s3 tv
end
/-- one or two spaces -/
theorem op_sp {X : Cx} : OpR X (binaryOp .Mult) (fun x y H Q => ∃ n : Int, x = .str " " ∧ y = .int n ∧ (n = 1 ∨ n = 2) ∧ Q (.str (if n = 1 then " " else "  ")) H) := by
  intro pins s σ H x y v u Q I rx ry h
  obtain ⟨n, rfl, rfl, hn, q⟩ := h
  obtain ⟨t, rfl⟩ := rx
  obtain ⟨t', rfl⟩ := ry
  refine PySem.SB.mul (x := " ") ?_ fun t' tk => ⟨.str (if n = 1 then " " else "  "), H, I.tok _, ⟨t', ?_⟩, q⟩
  · rcases hn with rfl | rfl <;> exact ⟨by decide, by decide +kernel, by decide +kernel⟩
  · rcases hn with rfl | rfl
    · have : PySem.Txt.mul (" " : Str) 1 = " " := by decide +kernel
      rw [this]
      rfl
    · have : PySem.Txt.mul (" " : Str) 2 = "  " := by decide +kernel
      rw [this]
      rfl
theorem wk9 : WKind nmsP delP (fun x => 1 ≤ x.length ∧ x.length ≤ 9) := by
  refine ⟨?_, ?_, ?_⟩
  · show ∀ x ∈ nms, _
    decide +kernel
  · rintro o (rfl | rfl | rfl | rfl) <;> exact ⟨by decide +kernel, by decide +kernel⟩
  · decide +kernel
theorem wkTw : WKind nmsP delP Tw := by
  refine ⟨fun x h => tw_of ((by decide +kernel : ∀ x ∈ nms, twB x = true) x h), fun o h => tw_of ?_, fun x h => tw_of ((by decide +kernel : ∀ x ∈ ([("{" : Str), "}", "_", "^", "&", "~", "@frac", "@root", "@left", "@right", "@grid"] : List Str), twB x = true) x h)⟩
  rcases h with rfl | rfl | rfl | rfl <;> decide +kernel
theorem hSy : ∀ x, nmsP x → Sy x := fun x h => (by decide +kernel : ∀ x ∈ nms, Sy x) x h
theorem hDel : ∀ o, delP o → optW (delimW o) = o ∧ Sy (delimW o) := fun o h => by
  rcases h with rfl | rfl | rfl | rfl <;> decide +kernel
theorem pre_dep : ∀ (n : Nat) (r : FRow), r.dep ≤ n → ∀ q ∈ r.pre, q.dep ≤ n
  | n, r, h, q, hq => by
    rcases List.mem_cons.mp hq with rfl | hq
    · exact h
    · rw [FRow.inn_eq] at hq
      obtain ⟨it, hi, hq⟩ := List.mem_flatMap.mp hq
      rw [FItem.inn_eq] at hq
      obtain ⟨q', hq', hq⟩ := List.mem_flatMap.mp hq
      have h1 := FRow.dep_le.mp h it hi
      have h2 := FItem.dep_le.mp h1 q' hq'
      cases n with
      | zero => omega
      | succ n => exact Nat.le_succ_of_le (pre_dep n q' (by omega) q hq)
theorem tok_sp : ∀ {ts : List (Str × Nat)}, (∀ e ∈ ts, Tw e.1 ∧ 1 ≤ e.2) → TOk ts
  | [], _ => trivial
  | (w, k) :: r, h => ⟨(h _ List.mem_cons_self).1, fun _ _ _ _ _ _ => (h _ List.mem_cons_self).2, tok_sp fun e he => h e (List.mem_cons_of_mem _ he)⟩
theorem txt_snoc : ∀ (ts : List (Str × Nat)) (w : Str) (k : Nat), txt (ts ++ [(w, k)]) = txt ts ++ (w.cps.toList ++ List.replicate k 32)
  | [], w, k => by simp [txt]
  | (v, j) :: ts, w, k => by
    show v.cps.toList ++ (List.replicate j 32 ++ txt (ts ++ [(w, k)])) = (v.cps.toList ++ (List.replicate j 32 ++ txt ts)) ++ _
    rw [txt_snoc ts w k]
    simp
end Mg

set_option Elab.async false
set_option linter.all false
set_option maxRecDepth 100000
set_option maxHeartbeats 1000000
namespace Mg
open PySem L2 StX
/-! texts with few braces: a row of one bare symbol as an argument is the symbol itself; scripts the other way round -/
def bare : FRow → Option Str
  | .cons (.mk (.sym x) .no .no) .nil => some x
  | _ => none
def leanA (r : FRow) (c : CRow) : CArg := match bare r with
  | some x => .one x
  | none => .brace c
def leanT (r : FRow) (t : List (Str × Nat)) : List (Str × Nat) := match bare r with
  | some x => [(x, 1)]
  | none => ("{", 0) :: (t ++ [(("}" : Str), 1)])
def scrA : Option CArg → Option CArg → CScr
  | none, none => .no
  | some b, none => .b b
  | none, some a => .a a
  | some b, some a => .ab a b
mutual
def FRow.sh : FRow → CRow
  | .nil => .nil
  | .cons i r => .cons i.sh r.sh
def FItem.sh : FItem → CItem
  | .mk n b a => .mk n.sh (scrA b.sh1 a.sh1)
def FScr.sh1 : FScr → Option CArg
  | .no => none
  | .yes r => some (leanA r r.sh)
def FNuc.sh : FNuc → CNuc
  | .sym x => .sym x
  | .group r => .group r.t
  | .frac o u => .frac (leanA o o.sh) (leanA u u.sh)
  | .root r => .root (leanA r r.sh)
  | .fence o c r => .fence (delimW o) (delimW c) r.t
  | .grid g => .grid g.t
end
mutual
def FRow.ts : FRow → List (Str × Nat)
  | .nil => []
  | .cons i r => i.ts ++ r.ts
def FItem.ts : FItem → List (Str × Nat)
  | .mk n b a => n.ts ++ (a.ts "^" ++ b.ts "_")
def FScr.ts (s : Str) : FScr → List (Str × Nat)
  | .no => []
  | .yes r => (s, 0) :: leanT r r.ts
def FNuc.ts : FNuc → List (Str × Nat)
  | .sym x => [(x, 1)]
  | .group r => (FNuc.group r).words.map fun x => (x, 1)
  | .frac o u => ("@frac", 1) :: (leanT o o.ts ++ leanT u u.ts)
  | .root r => ("@root", 1) :: leanT r r.ts
  | .fence o c r => (FNuc.fence o c r).words.map fun x => (x, 1)
  | .grid g => (FNuc.grid g).words.map fun x => (x, 1)
end
theorem bare_some {r : FRow} {x : Str} (h : bare r = some x) : r = .cons (.mk (.sym x) .no .no) .nil := by
  unfold bare at h
  split at h
  · cases h
    rfl
  · cases h
theorem lean_ws {r : FRow} {c : CRow} {t : List (Str × Nat)} (h : t.map Prod.fst = c.ws) : (leanT r t).map Prod.fst = (leanA r c).ws := by
  unfold leanT leanA
  cases bare r with
  | some x => rfl
  | none =>
    show ("{" : Str) :: (t ++ [(("}" : Str), 1)]).map Prod.fst = ("{" : Str) :: (c.ws ++ [("}" : Str)])
    rw [List.map_append, h]
    rfl
theorem fst_ones (ws : List Str) : (ws.map fun x => (x, 1)).map Prod.fst = ws := by
  rw [List.map_map]
  exact List.map_id'' (fun _ => rfl) ws
mutual
theorem FRow.ts_ws : ∀ r : FRow, r.ts.map Prod.fst = r.sh.ws
  | .nil => rfl
  | .cons i r => by rw [FRow.ts, List.map_append, FItem.ts_ws i, FRow.ts_ws r, FRow.sh, CRow.ws]
theorem FItem.ts_ws : ∀ i : FItem, i.ts.map Prod.fst = i.sh.ws
  | .mk n .no .no => by
    rw [FItem.ts, List.map_append, FNuc.ts_ws n, FItem.sh, CItem.ws]
    rfl
  | .mk n (.yes b) .no => by
    rw [FItem.ts, List.map_append, FNuc.ts_ws n, FItem.sh, CItem.ws]
    show n.sh.ws ++ ("_" : Str) :: (leanT b b.ts).map Prod.fst = n.sh.ws ++ ("_" : Str) :: (leanA b b.sh).ws
    rw [lean_ws (FRow.ts_ws b)]
  | .mk n .no (.yes a) => by
    rw [FItem.ts, List.map_append, FNuc.ts_ws n, FItem.sh, CItem.ws]
    show n.sh.ws ++ ((("^" : Str), 0) :: leanT a a.ts ++ []).map Prod.fst = n.sh.ws ++ ("^" : Str) :: (leanA a a.sh).ws
    rw [List.append_nil, List.map_cons, lean_ws (FRow.ts_ws a)]
  | .mk n (.yes b) (.yes a) => by
    rw [FItem.ts, List.map_append, FNuc.ts_ws n, FItem.sh, CItem.ws]
    show n.sh.ws ++ ((("^" : Str), 0) :: leanT a a.ts ++ (("_" : Str), 0) :: leanT b b.ts).map Prod.fst = n.sh.ws ++ ("^" : Str) :: ((leanA a a.sh).ws ++ ("_" : Str) :: (leanA b b.sh).ws)
    rw [List.map_append, List.map_cons, List.map_cons, lean_ws (FRow.ts_ws a), lean_ws (FRow.ts_ws b)]
    rfl
theorem FNuc.ts_ws : ∀ n : FNuc, n.ts.map Prod.fst = n.sh.ws
  | .sym x => rfl
  | .group r => by
    rw [FNuc.ts, fst_ones]
    exact (FNuc.t_ws (.group r)).symm
  | .fence o c r => by
    rw [FNuc.ts, fst_ones]
    exact (FNuc.t_ws (.fence o c r)).symm
  | .grid g => by
    rw [FNuc.ts, fst_ones]
    exact (FNuc.t_ws (.grid g)).symm
  | .frac o u => by
    rw [FNuc.ts, List.map_cons, List.map_append, lean_ws (FRow.ts_ws o), lean_ws (FRow.ts_ws u)]
    rfl
  | .root r => by
    rw [FNuc.ts, List.map_cons, lean_ws (FRow.ts_ws r)]
    rfl
end
theorem lean_h {r : FRow} {c : CRow} {n : Nat} (h : c.h ≤ n) : (leanA r c).h ≤ n := by
  unfold leanA
  cases bare r with
  | some x => exact Nat.zero_le _
  | none => exact h
mutual
theorem FRow.sh_h : ∀ r : FRow, r.sh.h ≤ r.dep
  | .nil => Nat.le_refl _
  | .cons i r => by
    have h1 := FItem.sh_h i
    have h2 := FRow.sh_h r
    rw [FRow.sh, CRow.h, FRow.dep]
    omega
theorem FItem.sh_h : ∀ i : FItem, i.sh.h ≤ i.dep
  | .mk n .no .no => by
    have h1 := FNuc.sh_h n
    show max n.sh.h 0 ≤ max n.dep (max 0 0)
    omega
  | .mk n (.yes b) .no => by
    have h1 := FNuc.sh_h n
    have h2 := lean_h (r := b) (FRow.sh_h b)
    show max n.sh.h ((leanA b b.sh).h + 1) ≤ max n.dep (max (b.dep + 1) 0)
    omega
  | .mk n .no (.yes a) => by
    have h1 := FNuc.sh_h n
    have h2 := lean_h (r := a) (FRow.sh_h a)
    show max n.sh.h ((leanA a a.sh).h + 1) ≤ max n.dep (max 0 (a.dep + 1))
    omega
  | .mk n (.yes b) (.yes a) => by
    have h1 := FNuc.sh_h n
    have h2 := lean_h (r := b) (FRow.sh_h b)
    have h3 := lean_h (r := a) (FRow.sh_h a)
    show max n.sh.h (max ((leanA a a.sh).h + 1) ((leanA b b.sh).h + 1)) ≤ max n.dep (max (b.dep + 1) (a.dep + 1))
    omega
theorem FNuc.sh_h : ∀ n : FNuc, n.sh.h ≤ n.dep
  | .sym x => Nat.le_refl _
  | .group r => by
    have := FRow.t_h r
    show r.t.h + 1 ≤ r.dep + 1
    omega
  | .fence o c r => by
    have := FRow.t_h r
    show r.t.h + 1 ≤ r.dep + 1
    omega
  | .grid g => by
    have := FGrid.t_h g
    show g.t.h ≤ g.dep
    omega
  | .frac o u => by
    have h2 := lean_h (r := o) (FRow.sh_h o)
    have h3 := lean_h (r := u) (FRow.sh_h u)
    show max ((leanA o o.sh).h + 1) ((leanA u u.sh).h + 1) ≤ max (o.dep + 1) (u.dep + 1)
    omega
  | .root r => by
    have h2 := lean_h (r := r) (FRow.sh_h r)
    show (leanA r r.sh).h + 1 ≤ r.dep + 1
    omega
end
theorem lean_f {r : FRow} {c : CRow} (h : c.f = r) : (leanA r c).f = r := by
  unfold leanA
  cases e : bare r with
  | some x => exact (bare_some e).symm
  | none => exact h
section
variable {P : Str → Prop} {D : Option Str → Prop}
mutual
theorem FRow.sh_f (hD : ∀ o, D o → optW (delimW o) = o) : ∀ r : FRow, r.good P D → r.sh.f = r
  | .nil, _ => rfl
  | .cons i r, g => by rw [FRow.sh, CRow.f, FItem.sh_f hD i g.1, FRow.sh_f hD r g.2]
theorem FItem.sh_f (hD : ∀ o, D o → optW (delimW o) = o) : ∀ i : FItem, i.good P D → i.sh.f = i
  | .mk n .no .no, g => by
    show FItem.mk n.sh.f .no .no = _
    rw [FNuc.sh_f hD n g.1]
  | .mk n (.yes b) .no, g => by
    show FItem.mk n.sh.f (.yes (leanA b b.sh).f) .no = _
    rw [FNuc.sh_f hD n g.1, lean_f (FRow.sh_f hD b g.2.1)]
  | .mk n .no (.yes a), g => by
    show FItem.mk n.sh.f .no (.yes (leanA a a.sh).f) = _
    rw [FNuc.sh_f hD n g.1, lean_f (FRow.sh_f hD a g.2.2)]
  | .mk n (.yes b) (.yes a), g => by
    show FItem.mk n.sh.f (.yes (leanA b b.sh).f) (.yes (leanA a a.sh).f) = _
    rw [FNuc.sh_f hD n g.1, lean_f (FRow.sh_f hD b g.2.1), lean_f (FRow.sh_f hD a g.2.2)]
theorem FNuc.sh_f (hD : ∀ o, D o → optW (delimW o) = o) : ∀ n : FNuc, n.good P D → n.sh.f = n
  | .sym x, _ => rfl
  | .group r, g => FNuc.t_f hD (.group r) g
  | .fence o c r, g => FNuc.t_f hD (.fence o c r) g
  | .grid g, h => FNuc.t_f hD (.grid g) h
  | .frac o u, g => by
    show FNuc.frac (leanA o o.sh).f (leanA u u.sh).f = _
    rw [lean_f (FRow.sh_f hD o g.1), lean_f (FRow.sh_f hD u g.2)]
  | .root r, g => by
    show FNuc.root (leanA r r.sh).f = _
    rw [lean_f (FRow.sh_f hD r g)]
end
theorem lean_ok {r : FRow} {c : CRow} (hP : ∀ x, P x → Sy x) (g : r.good P D) (h : c.ok) : (leanA r c).ok := by
  unfold leanA
  cases e : bare r with
  | some x =>
    rw [bare_some e] at g
    exact hP x g.1.1
  | none => exact h
mutual
theorem FRow.sh_ok (hP : ∀ x, P x → Sy x) (hD : ∀ o, D o → Sy (delimW o)) : ∀ r : FRow, r.good P D → r.sh.ok
  | .nil, _ => trivial
  | .cons i r, g => ⟨FItem.sh_ok hP hD i g.1, FRow.sh_ok hP hD r g.2⟩
theorem FItem.sh_ok (hP : ∀ x, P x → Sy x) (hD : ∀ o, D o → Sy (delimW o)) : ∀ i : FItem, i.good P D → i.sh.ok
  | .mk n .no .no, g => ⟨FNuc.sh_ok hP hD n g.1, trivial⟩
  | .mk n (.yes b) .no, g => ⟨FNuc.sh_ok hP hD n g.1, lean_ok hP g.2.1 (FRow.sh_ok hP hD b g.2.1)⟩
  | .mk n .no (.yes a), g => ⟨FNuc.sh_ok hP hD n g.1, lean_ok hP g.2.2 (FRow.sh_ok hP hD a g.2.2)⟩
  | .mk n (.yes b) (.yes a), g => ⟨FNuc.sh_ok hP hD n g.1, lean_ok hP g.2.2 (FRow.sh_ok hP hD a g.2.2), lean_ok hP g.2.1 (FRow.sh_ok hP hD b g.2.1)⟩
theorem FNuc.sh_ok (hP : ∀ x, P x → Sy x) (hD : ∀ o, D o → Sy (delimW o)) : ∀ n : FNuc, n.good P D → n.sh.ok
  | .sym x, g => hP x g
  | .group r, g => FNuc.t_ok hP hD (.group r) g
  | .fence o c r, g => FNuc.t_ok hP hD (.fence o c r) g
  | .grid g, h => FNuc.t_ok hP hD (.grid g) h
  | .frac o u, g => ⟨lean_ok hP g.1 (FRow.sh_ok hP hD o g.1), lean_ok hP g.2 (FRow.sh_ok hP hD u g.2)⟩
  | .root r, g => lean_ok hP g (FRow.sh_ok hP hD r g)
end
end
/-- words, and a space behind each command -/
def Gd (W : Str → Prop) (e : Str × Nat) : Prop := W e.1 ∧ (isCommand e.1 = true → 1 ≤ e.2) ∧ e.2 ≤ 1
theorem tok_gd : ∀ {ts : List (Str × Nat)}, (∀ e ∈ ts, Gd Tw e) → TOk ts
  | [], _ => trivial
  | (w, k) :: r, h => ⟨(h _ List.mem_cons_self).1, fun _ _ _ _ hc _ => (h _ List.mem_cons_self).2.1 hc, tok_gd fun e he => h e (List.mem_cons_of_mem _ he)⟩
section
variable {P : Str → Prop} {D : Option Str → Prop} {W : Str → Prop}
theorem lean_gd (Wk : WKind P D W) {r : FRow} {t : List (Str × Nat)} (g : r.good P D) (h : ∀ e ∈ t, Gd W e) : ∀ e ∈ leanT r t, Gd W e := by
  unfold leanT
  cases q : bare r with
  | some x =>
    rw [bare_some q] at g
    intro e he
    cases List.mem_singleton.mp he
    exact ⟨Wk.p x g.1.1, fun _ => Nat.le_refl 1, Nat.le_refl 1⟩
  | none =>
    intro e he
    rcases List.mem_cons.mp he with rfl | he
    · exact ⟨Wk.m _ (by decide), fun z => absurd z (by decide +kernel), Nat.zero_le 1⟩
    · rcases List.mem_append.mp he with he | he
      · exact h e he
      · cases List.mem_singleton.mp he
        exact ⟨Wk.m _ (by decide), fun _ => Nat.le_refl 1, Nat.le_refl 1⟩
theorem ones_gd {ws : List Str} (h : ∀ x ∈ ws, W x) : ∀ e ∈ ws.map (fun x => (x, 1)), Gd W e := fun e he => by
  obtain ⟨x, hx, rfl⟩ := List.mem_map.mp he
  exact ⟨h x hx, fun _ => Nat.le_refl 1, Nat.le_refl 1⟩
mutual
theorem FRow.ts_gd (Wk : WKind P D W) : ∀ r : FRow, r.good P D → ∀ e ∈ r.ts, Gd W e
  | .nil, _, e, h => nomatch h
  | .cons i r, g, e, h => (List.mem_append.mp h).elim (FItem.ts_gd Wk i g.1 e) (FRow.ts_gd Wk r g.2 e)
theorem FItem.ts_gd (Wk : WKind P D W) : ∀ i : FItem, i.good P D → ∀ e ∈ i.ts, Gd W e
  | .mk n b a, g, e, h => (List.mem_append.mp h).elim (FNuc.ts_gd Wk n g.1 e) fun h => (List.mem_append.mp h).elim (FScr.ts_gd Wk (s := "^") (Wk.m _ (by decide)) (by decide +kernel) a g.2.2 e) (FScr.ts_gd Wk (s := "_") (Wk.m _ (by decide)) (by decide +kernel) b g.2.1 e)
theorem FScr.ts_gd (Wk : WKind P D W) {s : Str} (hs : W s) (hc : isCommand s = false) : ∀ i : FScr, i.good P D → ∀ e ∈ i.ts s, Gd W e
  | .no, _, e, h => nomatch h
  | .yes r, g, e, h => by
    rcases List.mem_cons.mp h with rfl | h
    · exact ⟨hs, (fun z => by rw [hc] at z; cases z), Nat.zero_le 1⟩
    · exact lean_gd Wk g (FRow.ts_gd Wk r g) e h
theorem FNuc.ts_gd (Wk : WKind P D W) : ∀ i : FNuc, i.good P D → ∀ e ∈ i.ts, Gd W e
  | .sym x, g, e, h => by
    cases List.mem_singleton.mp h
    exact ⟨Wk.p x g, fun _ => Nat.le_refl 1, Nat.le_refl 1⟩
  | .group r, g, e, h => ones_gd (words_nu Wk g) e h
  | .fence o c r, g, e, h => ones_gd (words_nu Wk g) e h
  | .grid r, g, e, h => ones_gd (words_nu Wk g) e h
  | .frac o u, g, e, h => by
    rcases List.mem_cons.mp h with rfl | h
    · exact ⟨Wk.m _ (by decide), fun _ => Nat.le_refl 1, Nat.le_refl 1⟩
    · exact (List.mem_append.mp h).elim (lean_gd Wk g.1 (FRow.ts_gd Wk o g.1) e) (lean_gd Wk g.2 (FRow.ts_gd Wk u g.2) e)
  | .root r, g, e, h => by
    rcases List.mem_cons.mp h with rfl | h
    · exact ⟨Wk.m _ (by decide), fun _ => Nat.le_refl 1, Nat.le_refl 1⟩
    · exact lean_gd Wk g (FRow.ts_gd Wk r g) e h
end
end
theorem lean_len {r : FRow} {t : List (Str × Nat)} (h : t.length ≤ r.words.length) : (leanT r t).length ≤ r.words.length + 2 := by
  unfold leanT
  cases bare r with
  | some x => simp
  | none => simp; omega
mutual
theorem FRow.ts_len : ∀ r : FRow, r.ts.length ≤ r.words.length
  | .nil => Nat.le_refl _
  | .cons i r => by
    have h1 := FItem.ts_len i
    have h2 := FRow.ts_len r
    rw [FRow.ts, FRow.words, List.length_append, List.length_append]
    omega
theorem FItem.ts_len : ∀ i : FItem, i.ts.length ≤ i.words.length
  | .mk n b a => by
    have h1 := FNuc.ts_len n
    have h2 := FScr.ts_len b (s := "_")
    have h3 := FScr.ts_len a (s := "^")
    rw [FItem.ts, FItem.words, List.length_append, List.length_append, List.length_append, List.length_append]
    omega
theorem FScr.ts_len : ∀ (i : FScr) {s : Str}, (i.ts s).length ≤ (i.words s).length
  | .no, s => Nat.le_refl _
  | .yes r, s => by
    have := lean_len (FRow.ts_len r)
    show (leanT r r.ts).length + 1 ≤ (s :: "{" :: (r.words ++ [("}" : Str)])).length
    simp
    omega
theorem FNuc.ts_len : ∀ i : FNuc, i.ts.length ≤ i.words.length
  | .sym x => Nat.le_refl _
  | .group r => by rw [FNuc.ts, List.length_map]; exact Nat.le_refl _
  | .fence o c r => by rw [FNuc.ts, List.length_map]; exact Nat.le_refl _
  | .grid r => by rw [FNuc.ts, List.length_map]; exact Nat.le_refl _
  | .frac o u => by
    have h1 := lean_len (FRow.ts_len o)
    have h2 := lean_len (FRow.ts_len u)
    show (leanT o o.ts ++ leanT u u.ts).length + 1 ≤ (("@frac" : Str) :: "{" :: (o.words ++ (("}" : Str) :: "{" :: (u.words ++ [("}" : Str)])))).length
    simp
    omega
  | .root r => by
    have h1 := lean_len (FRow.ts_len r)
    show (leanT r r.ts).length + 1 ≤ (("@root" : Str) :: "{" :: (r.words ++ [("}" : Str)])).length
    simp
    omega
end
theorem txt_app : ∀ a b : List (Str × Nat), txt (a ++ b) = txt a ++ txt b
  | [], b => rfl
  | (w, k) :: a, b => by
    show w.cps.toList ++ (List.replicate k 32 ++ txt (a ++ b)) = (w.cps.toList ++ (List.replicate k 32 ++ txt a)) ++ txt b
    rw [txt_app a b]
    simp
theorem txt_len {ts : List (Str × Nat)} (h : ∀ e ∈ ts, e.1.length ≤ 9 ∧ e.2 ≤ 1) : (txt ts).length ≤ 10 * ts.length := by
  induction ts with
  | nil => exact Nat.le_refl _
  | cons e ts ih =>
    obtain ⟨w, k⟩ := e
    have h1 := h (w, k) List.mem_cons_self
    have h2 := ih fun e he => h e (List.mem_cons_of_mem _ he)
    show (w.cps.toList ++ (List.replicate k 32 ++ txt ts)).length ≤ _
    rw [List.length_append, List.length_append, List.length_replicate, List.length_cons]
    have h3 : w.cps.toList.length = w.length := rfl
    have h4 : w.length ≤ 9 := h1.1
    have h5 : k ≤ 1 := h1.2
    omega
end Mg

set_option Elab.async false
set_option linter.all false
set_option maxRecDepth 100000
set_option maxHeartbeats 2000000
namespace Mg
open PySem L2 StX
abbrev sLean : Stmt := top 55
abbrev sShort : Stmt := top 54
/-- a text that is, with a space behind it, this -/
def TxE (t : Str) (ts : List (Str × Nat)) : Prop := t.cps.toList ++ [32] = txt ts
def RLean (n : Nat) (ds : List PyData) (d : PyData) : Prop := ∃ r : FRow, ds = [r.d] ∧ r.dep < n ∧ r.good nmsP delP ∧ r.words.length ≤ 10000 ∧ ∃ t : Str, d = .str t ∧ TxE t (leanT r r.ts)
def RShort (n : Nat) (ds : List PyData) (d : PyData) : Prop := ∃ r : FRow, ds = [r.d] ∧ r.dep < n ∧ r.good nmsP delP ∧ r.words.length ≤ 10000 ∧ ∃ t : Str, d = .str t ∧ t.cps.toList = txt r.ts
section
variable {P : Program} {w : World} {K : PySem.W.Frag} {mg : Str → Option Value} {base : Heap}
theorem txE_brace {t : Str} {ts : List (Str × Nat)} (h : t.cps.toList = txt ts) : TxE (("{" ++ t) ++ "}") (("{", 0) :: (ts ++ [(("}" : Str), 1)])) := by
  unfold TxE
  rw [cat_cps, cat_cps, h]
  show _ = ("{" : Str).cps.toList ++ (List.replicate 0 32 ++ txt (ts ++ [(("}" : Str), 1)]))
  rw [txt_snoc]
  have e1 : List.replicate 0 32 = ([] : List Nat) := rfl
  have e2 : List.replicate 1 32 = [32] := rfl
  rw [e1, e2, List.nil_append]
  simp
theorem ts_bnd {r : FRow} (g : r.good nmsP delP) : ∀ e ∈ r.ts, e.1.length ≤ 9 := fun e he => by
  have := (FRow.ts_gd wk9 r g e he).1
  exact this.2
theorem scLean : FnScope ["row"] ["row"] (defScope sLean) := ⟨rfl, rfl, rfl, by decide +kernel, rfl, by decide +kernel, by decide +kernel⟩
theorem ok_lean {n : Nat} {f : Addr} {fd : FuncData} (F : Fun K "_law_lean" "_law_lean" sLean f fd) (T : TxtB mg) (C_law_short : Cal P w K mg base CX0 (2 * n + 4) "_law_short" ["row"] (spR K (RShort n))) : FnOk P w K mg base CX0 (2 * n + 5) f fd ["row"] (spR K (RLean n)) := by
  have sc := scLean
  refine F.ok scLean (fun vs H Q E h => ?_) (fun cdv A outer s H vs Q E hr h => ?_)
  · obtain ⟨ds, d, l, ⟨r, rfl, _⟩, _⟩ := h
    cases l with
    | cons _ l => cases l; rfl
  · obtain ⟨ds, d, l, ⟨r, rfl, dep, good, bnd, t, rfl, et⟩, k⟩ := h
    cases l with
    | cons tr l => cases l with
    | nil =>
    rename_i v
    refine ⟨_, (pss_cons (ps_if (PW.pt (pw_and (pt_cmpR op_eq (pe_callB call_len_sq (by rfl) T.b_len PySem.boot_len (pa_cons (pv 0) pa_nil)) pe_int (nomark _)) (pw_and (pt_cmpR op_eq (pe_ix ix_tup (pe_ix ix_tup (pe_ix ix_tup (pv 0) pe_int (fun _ _ => rfl)) pe_int (fun _ _ => rfl)) pe_int (fun _ _ => rfl)) pe_str (nomark _)) (pw_and (pt_cmpR op_isN (pe_ix ix_tup (pe_ix ix_tup (pv 0) pe_int (fun _ _ => rfl)) pe_int (fun _ _ => rfl)) pe_non (nomark _)) (pw_and1 (pt_cmpR op_isN (pe_ix ix_tup (pe_ix ix_tup (pv 0) pe_int (fun _ _ => rfl)) pe_int (fun _ _ => rfl)) pe_non (nomark _)))))))
  (pss_one (ps_ret (pe_ix ix_tup (pe_ix ix_tup (pe_ix ix_tup (pv 0) pe_int (fun _ _ => rfl)) pe_int (fun _ _ => rfl)) pe_int (fun _ _ => rfl))))
  pss_nil)
  (pss_one (ps_ret (pe_op op_add_str (pe_op op_add_str pe_str (pe_cal C_law_short (hr.mono (by omega)) rfl pass0 (pa_cons (pv 0) pa_nil))) pe_str)))), ?_⟩
    obtain ⟨t', ht'⟩ : ∃ t' : Str, t'.cps.toList = txt r.ts := ⟨⟨(txt r.ts).toArray⟩, by simp⟩
    have lt' : t'.length ≤ 100000 := by
      have h1 := txt_len (ts := r.ts) fun e he => ⟨ts_bnd good e he, (FRow.ts_gd wk9 r good e he).2.2⟩
      have h2 := FRow.ts_len r
      rw [← ht'] at h1
      have h3 : t'.length = t'.cps.toList.length := rfl
      omega
    have tr0 : Tp K H v (.tuple r.ds) := tr
    have no : ∀ {b : Bool} {tt : TT}, bare r = none → EvDT K tt [some v] H b → b = false → tSeq (tIfS tt (tRet (tOp (rIxT K) (tOp (rIxT K) (tOp (rIxT K) (tVar 0) (tC (.int 0))) (tC (.int 0))) (tC (.int 1)))) tNext) (tRet (tOp (fun x y H Q => ∃ i j, x = .str i ∧ y = .str j ∧ i.length + j.length ≤ sizeLine ∧ Q (.str (i ++ j)) H) (tOp (fun x y H Q => ∃ i j, x = .str i ∧ y = .str j ∧ i.length + j.length ≤ sizeLine ∧ Q (.str (i ++ j)) H) (tC (.str "{")) (tCall (spR K (RShort n)) [] E0 (tCons (tVar 0) tNil))) (tC (.str "}")))) { nx := fun _ H' => Q .non H', rt := Q } [some v] H := fun hb h e => by
      refine q_no h e fun H1 s1 => ?_
      have ett : t = ("{" ++ t') ++ "}" := by
        have h1 := txE_brace ht'
        unfold TxE at h1 et
        unfold leanT at et
        rw [hb] at et
        have h2 : t.cps.toList ++ [32] = (("{" ++ t') ++ "}" : Str).cps.toList ++ [32] := et.trans h1.symm
        have h3 := List.append_cancel_right h2
        rw [str_of_cps h3]
      refine retD k s1 (d := .str t) (ett ▸ e_op (e_op e_str (e_call (a_cons (e_var rfl (tr.stay (.of s1))) a_nil) ⟨r, rfl, dep, good, bnd, t', rfl, ht'⟩) (r_catS ?_)) e_str (r_catS ?_)) rfl
      · have : ("{" : Str).length = 1 := rfl
        omega
      · have h1 : ("}" : Str).length = 1 := rfl
        have h2 : ("{" ++ t' : Str).length = ("{" ++ t' : Str).cps.toList.length := rfl
        rw [h2, cat_cps, List.length_append]
        have h3 : ("{" : Str).cps.toList.length = 1 := rfl
        have h4 : t'.cps.toList.length = t'.length := rfl
        omega
    have hlen : EvD K (tCB (fun xs H Q => ∃ p ys, xs = [.ref p] ∧ (SqL K H p ys ∨ SqT K H p ys) ∧ (ys.length ≤ sizeLine → Q (.int ys.length) H)) (tCons (tVar 0) tNil)) [some v] H (.int r.ds.length) := e_lenT (fun p xs H Q h hq => ⟨p, xs, rfl, h, fun _ => hq⟩) (e_var rfl tr0)
    cases r with
    | nil =>
      exact no rfl (t_and (c := true) (t_test (e_op hlen e_int r_eqI)) (fun z => absurd z (by decide))) rfl
    | cons i r => cases r with
    | cons j r =>
      refine no (by cases i with | mk n b a => cases n <;> cases b <;> cases a <;> rfl) (t_and (c := true) (t_test (e_op hlen e_int r_eqI)) (fun z => ?_)) ?_
      · have := of_decide_eq_true z
        simp [FRow.ds] at this
        omega
      · rw [decide_eq_false (by simp [FRow.ds]; omega)]
        rfl
    | nil => cases i with
    | mk m b a =>
      have tr1 : Tp K H v (.tuple [.tuple [m.d, b.d, a.d]]) := tr
      have e0 : ∀ {H1 : Hp}, Same H H1 → EvD K (tOp (rIxT K) (tVar 0) (tC (.int 0))) [some v] H1 (.tuple [m.d, b.d, a.d]) := fun s => e_op (e_var rfl (tr1.stay (.of s))) e_int (r_ixT rfl)
      have en : EvDT K (tTest (tOp (fun x y H Q => y = .non ∧ Q (.bl (decide (x = .non))) H) (tOp (rIxT K) (tOp (rIxT K) (tVar 0) (tC (.int 0))) (tC (.int 1))) (tC .non))) [some v] H (noneD b.d) := t_test (e_op (e_op (e0 (.refl _)) e_int (r_ixT rfl)) e_non r_isN)
      have ea : EvDT K (tTest (tOp (fun x y H Q => y = .non ∧ Q (.bl (decide (x = .non))) H) (tOp (rIxT K) (tOp (rIxT K) (tVar 0) (tC (.int 0))) (tC (.int 2))) (tC .non))) [some v] H (noneD a.d) := t_test (e_op (e_op (e0 (.refl _)) e_int (r_ixT rfl)) e_non r_isN)
      have h1 : EvDT K (tTest (tOp rEq (tCB (fun xs H Q => ∃ p ys, xs = [.ref p] ∧ (SqL K H p ys ∨ SqT K H p ys) ∧ (ys.length ≤ sizeLine → Q (.int ys.length) H)) (tCons (tVar 0) tNil)) (tC (.int 1)))) [some v] H true := t_is (t_test (e_op hlen e_int r_eqI)) rfl
      have ek : ∀ {kd : Str} {ds : List PyData}, m.d = .tuple (.str kd :: ds) → EvDT K (tTest (tOp rEq (tOp (rIxT K) (tOp (rIxT K) (tOp (rIxT K) (tVar 0) (tC (.int 0))) (tC (.int 0))) (tC (.int 0))) (tC (.str "symbol")))) [some v] H (decide (kd = "symbol")) := fun e => t_test (e_op (e_op (e_op (e0 (.refl _)) e_int (r_ixT (d := .tuple (.str _ :: _)) (by rw [← e]; rfl))) e_int (r_ixT atI0)) e_str r_eqS)
      cases m with
      | sym x =>
        cases b with
        | yes q => exact no rfl (t_and h1 fun _ => t_and (ek rfl) fun _ => t_and (c := true) en fun z => nomatch z) rfl
        | no => cases a with
          | yes q => exact no rfl (t_and h1 fun _ => t_and (ek rfl) fun _ => t_and en fun _ => ea) rfl
          | no =>
            have etx : t = x := by
              unfold TxE leanT at et
              have et : t.cps.toList ++ [32] = x.cps.toList ++ (List.replicate 1 32 ++ []) := et
              have h3 := List.append_cancel_right (show t.cps.toList ++ [32] = x.cps.toList ++ [32] from et)
              rw [str_of_cps h3]
            subst etx
            refine q_yes (b := true) (t_and h1 fun _ => t_and (ek rfl) fun _ => t_and en fun _ => ea) rfl fun H1 s1 => ?_
            exact retD k s1 (e_op (e_op (e0 s1) e_int (r_ixT (d := .tuple [.str "symbol", .str t]) rfl)) e_int (r_ixT rfl)) rfl
      | group q => exact no rfl (t_and h1 fun _ => t_and (c := true) (ek rfl) fun z => absurd z (by decide +kernel)) (by decide +kernel)
      | frac o u => exact no rfl (t_and h1 fun _ => t_and (c := true) (ek rfl) fun z => absurd z (by decide +kernel)) (by decide +kernel)
      | root q => exact no rfl (t_and h1 fun _ => t_and (c := true) (ek rfl) fun z => absurd z (by decide +kernel)) (by decide +kernel)
      | fence o c q => exact no rfl (t_and h1 fun _ => t_and (c := true) (ek rfl) fun z => absurd z (by decide +kernel)) (by decide +kernel)
      | grid g => exact no rfl (t_and h1 fun _ => t_and (c := true) (ek rfl) fun z => absurd z (by decide +kernel)) (by decide +kernel)
end
end Mg

set_option Elab.async false
set_option linter.all false
set_option maxRecDepth 100000
set_option maxHeartbeats 2000000
namespace Mg
open PySem L2 StX
/-! texts joined by a space, and one behind -/
def spc (ys : List Str) : List Nat := ys.flatMap fun y => y.cps.toList ++ [32]
theorem join_sp : ∀ {ys : List Str}, ys ≠ [] → (Str.join " " ys).cps.toList ++ [32] = spc ys
  | [], h => absurd rfl h
  | [x], _ => by simp [Str.join, spc]
  | x :: y :: r, _ => by
    show (x ++ (" " : Str) ++ Str.join " " (y :: r)).cps.toList ++ [32] = _
    rw [cat_cps, cat_cps, List.append_assoc, join_sp (by simp : y :: r ≠ [])]
    have e : (" " : Str).cps.toList = [32] := rfl
    rw [e]
    rfl
theorem spc_words (ws : List Str) : spc ws = txt (ws.map fun x => (x, 1)) := by
  induction ws with
  | nil => rfl
  | cons w ws ih =>
    show (w.cps.toList ++ [32]) ++ spc ws = w.cps.toList ++ (List.replicate 1 32 ++ txt (ws.map fun x => (x, 1)))
    rw [ih, List.append_assoc]
    rfl
theorem q_forTS {K : PySem.W.Frag} {σ : L2.St} {H : Hp} {tl : TE} {ds : List PyData} {g : TG} {tu tz : TS} {D : Ends} (h : EvD K tl σ H (.tuple ds)) (Pv : Nat → L2.St → Hp → Prop) (h0 : ∀ H1, Same H H1 → Pv 0 σ H1)
    (hs : ∀ H1, Same H H1 → ∀ i d x σ' H', ds[i]? = some d → Pv i σ' H' → Same H1 H' → Tp K H' x d → g x σ' H' fun σ2 H2 => tu { D with nx := fun σ3 H3 => Pv (i + 1) σ3 H3 ∧ Same H1 H3, ct := fun σ3 H3 => Pv (i + 1) σ3 H3 ∧ Same H1 H3, bk := tz D } σ2 H2)
    (hd : ∀ σ' H', Pv ds.length σ' H' → Same H H' → tz D σ' H') : tSeq (tFor (iTup K tl) g tu) tz D σ H := h H (Same.refl _) _ fun v H1 s tv => by
  obtain ⟨a, xs, rfl, sq, l⟩ := tv.inv
  refine ⟨a, rfl, ⟨xs, sq⟩, for_word (D := { D with nx := tz D }) (n := ds.length) (fun i σ' H' => Pv i σ' H' ∧ Same H1 H') ⟨h0 H1 s, .refl _⟩ (fun i σ' H' hi q => ?_) (fun σ' H' q => ⟨xs, same_sqt q.2 sq, Nat.le_of_eq l.len⟩) (fun i x σ' H' H'' hi q y => ?_) (fun σ' H' q => hd σ' H' q.1 (s.trans q.2))⟩
  · have hi2 : i < xs.length := by rw [l.len]; exact hi
    exact ⟨xs, xs[i], same_sqt q.2 sq, List.getElem?_eq_getElem hi2⟩
  · obtain ⟨rfl, y⟩ := y
    have hx := y xs (same_sqt q.2 sq)
    obtain ⟨d, e1, e2⟩ := l.get' hx
    exact hs H1 s i d x σ' H'' e1 q.1 q.2 (e2.stay (.of q.2))
section
variable {P : Program} {w : World} {K : PySem.W.Frag} {mg : Str → Option Value} {base : Heap}
abbrev catS : R2 := fun x y H Q => ∃ i j, x = .str i ∧ y = .str j ∧ i.length + j.length ≤ sizeLine ∧ Q (.str (i ++ j)) H
/-- one script of an item -/
theorem scr1 {n : Nat} {σ : L2.St} {H : Hp} {D : Ends} {t s : Str} {v : V} {b : FScr} (h1 : σ[1]? = some (some (.str t))) (h6 : σ[6]? = some (some (.str s))) (h7 : σ[7]? = some (some v)) (tv : Tp K H v b.d) (db : b.dep ≤ n) (gb : b.good nmsP delP) (lb : (b.words s).length ≤ 10000) (lt : t.length ≤ 300000) (ls : s.length ≤ 9)
    (kk : ∀ (t' : Str) (H' : Hp), Same H H' → t'.cps.toList = t.cps.toList ++ txt (b.ts s) → D.nx (σ.set 1 (some (.str t'))) H' ∧ D.nx (σ.set 1 (some (.str t'))) H') :
    tIfS (tTest (tOp (fun x y H Q => y = .non ∧ Q (.bl (!decide (x = .non))) H) (tVar 7) (tC .non))) (tAsg (tOp catS (tOp catS (tOp catS (tVar 1) (tVar 6)) (tCall (spR K (RLean n)) [] E0 (tCons (tVar 7) tNil))) (tC (.str " "))) (gName 1)) tNext D σ H := by
  cases b with
  | no =>
    refine s_when (b := false) (t_test (e_op (e_var h7 tv) e_non r_notN)) (fun z => nomatch z) fun _ H1 s1 => ?_
    have e : σ.set 1 (some (.str t)) = σ := by
      apply List.ext_getElem?
      intro i
      rw [List.getElem?_set]
      split
      · rename_i hi
        subst hi
        split
        · exact h1.symm
        · rename_i hl
          rw [List.getElem?_eq_none (by omega)] at h1
          cases h1
      · rfl
    have := (kk t H1 s1 (by show _ = t.cps.toList ++ []; rw [List.append_nil])).1
    rw [e] at this
    exact this
  | yes r =>
    refine s_when (b := true) (t_test (e_op (e_var h7 tv) e_non r_notN)) (fun _ H1 s1 => ?_) (fun z => nomatch z)
    have db : r.dep + 1 ≤ n := db
    have lb : (s :: "{" :: (r.words ++ [("}" : Str)])).length ≤ 10000 := lb
    simp only [List.length_cons, List.length_append, List.length_nil] at lb
    have hg : ∀ e ∈ leanT r r.ts, e.1.length ≤ 9 ∧ e.2 ≤ 1 := fun e he => by
      have := lean_gd wk9 gb (FRow.ts_gd wk9 r gb) e he
      exact ⟨this.1.2, this.2.2⟩
    have hl := txt_len hg
    have hl2 := lean_len (FRow.ts_len r)
    have hne : ∃ l, txt (leanT r r.ts) = l ++ [32] := by
      unfold leanT
      cases bare r with
      | some x => exact ⟨x.cps.toList, by show x.cps.toList ++ (List.replicate 1 32 ++ []) = _; rfl⟩
      | none =>
        obtain ⟨t0, h0⟩ : ∃ t' : Str, t'.cps.toList = txt r.ts := ⟨⟨(txt r.ts).toArray⟩, by simp⟩
        exact ⟨_, (txE_brace h0).symm⟩
    obtain ⟨l, hl3⟩ := hne
    obtain ⟨t', ht'⟩ : ∃ t' : Str, t'.cps.toList = l := ⟨⟨l.toArray⟩, by simp⟩
    have lt' : t'.length ≤ 110000 := by
      have h3 : t'.length = t'.cps.toList.length := rfl
      rw [hl3, List.length_append, ← ht'] at hl
      omega
    have l1 : ∀ (a b : Str), (a ++ b).length = a.length + b.length := fun a b => by
      have h3 : (a ++ b).length = (a ++ b).cps.toList.length := rfl
      rw [h3, cat_cps, List.length_append]
      rfl
    have sp1 : (" " : Str).length = 1 := rfl
    refine e_op (K := K) (d := .str (((t ++ s) ++ t') ++ " ")) (e_op (e_op (e_var h1 (.str t)) (e_var h6 (.str s)) (r_catS (by omega))) (e_call (a_cons (e_var h7 (tv.stay (.of s1))) a_nil) ⟨r, rfl, by omega, gb, by omega, t', rfl, by unfold TxE; rw [ht', hl3]⟩) (r_catS (by rw [l1]; omega))) e_str (r_catS (by rw [l1, l1]; omega)) H1 (.refl _) _ fun v4 H4 s4 t4 => ?_
    cases tp_str t4
    refine (kk _ H4 (s1.trans s4) ?_).1
    rw [cat_cps, cat_cps, cat_cps, ht']
    show _ = t.cps.toList ++ (s.cps.toList ++ (List.replicate 0 32 ++ txt (leanT r r.ts)))
    rw [hl3]
    have e : (" " : Str).cps.toList = [32] := rfl
    rw [e]
    simp
end
end Mg

set_option Elab.async false
set_option linter.all false
set_option maxRecDepth 100000
set_option maxHeartbeats 2000000
namespace Mg
open PySem L2 StX
theorem spc_len (ys : List Str) : (spc ys).length = (ys.map (·.length)).sum + ys.length := by
  induction ys with
  | nil => rfl
  | cons y ys ih =>
    show ((y.cps.toList ++ [32]) ++ spc ys).length = _
    rw [List.length_append, List.length_append, ih, List.map_cons, List.sum_cons, List.length_cons]
    show y.length + 1 + ((ys.map (·.length)).sum + ys.length) = y.length + (ys.map (·.length)).sum + (ys.length + 1)
    omega
theorem FRow.ts_eq : ∀ r : FRow, r.ts = r.items.flatMap FItem.ts
  | .nil => rfl
  | .cons i r => by rw [FRow.ts, FRow.items, List.flatMap_cons, FRow.ts_eq r]
theorem lean_str {r : FRow} (g : r.good nmsP delP) (h : r.words.length ≤ 10000) : ∃ t : Str, TxE t (leanT r r.ts) ∧ t.length ≤ 110000 := by
  have hg : ∀ e ∈ leanT r r.ts, e.1.length ≤ 9 ∧ e.2 ≤ 1 := fun e he => by
    have := lean_gd wk9 g (FRow.ts_gd wk9 r g) e he
    exact ⟨this.1.2, this.2.2⟩
  have hl := txt_len hg
  have hl2 := lean_len (FRow.ts_len r)
  have hne : ∃ l, txt (leanT r r.ts) = l ++ [32] := by
    unfold leanT
    cases bare r with
    | some x => exact ⟨x.cps.toList, by show x.cps.toList ++ (List.replicate 1 32 ++ []) = _; rfl⟩
    | none =>
      obtain ⟨t0, h0⟩ : ∃ t' : Str, t'.cps.toList = txt r.ts := ⟨⟨(txt r.ts).toArray⟩, by simp⟩
      exact ⟨_, (txE_brace h0).symm⟩
  obtain ⟨l, hl3⟩ := hne
  obtain ⟨t', ht'⟩ : ∃ t' : Str, t'.cps.toList = l := ⟨⟨l.toArray⟩, by simp⟩
  refine ⟨t', by unfold TxE; rw [ht', hl3], ?_⟩
  have h3 : t'.length = t'.cps.toList.length := rfl
  rw [hl3, List.length_append, ← ht'] at hl
  omega
section
variable {K : PySem.W.Frag} {σ : L2.St} {H : Hp} {tl : TE} {ds : List PyData} {g : TG} {tu : TS} {D : Ends}
theorem s_forLS (h : EvDL K tl σ H ds) (Pv : Nat → L2.St → Hp → Prop) (h0 : ∀ H1, Same H H1 → Pv 0 σ H1)
    (hs : ∀ H1, Same H H1 → ∀ i d x σ' H', ds[i]? = some d → Pv i σ' H' → Same H1 H' → Tp K H' x d → g x σ' H' fun σ2 H2 => tu { D with nx := fun σ3 H3 => Pv (i + 1) σ3 H3 ∧ Same H1 H3, ct := fun σ3 H3 => Pv (i + 1) σ3 H3 ∧ Same H1 H3, bk := D.nx } σ2 H2)
    (hd : ∀ σ' H', Pv ds.length σ' H' → Same H H' → D.nx σ' H') : tFor (iList K tl) g tu D σ H := h H (Same.refl _) _ fun a xs H1 _ s ea l => by
  refine ⟨a, rfl, ⟨xs, SqL.of ea⟩, for_word (n := ds.length) (fun i σ' H' => Pv i σ' H' ∧ Same H1 H') ⟨h0 H1 s, .refl _⟩ (fun i σ' H' hi q => ?_) (fun σ' H' q => ⟨xs, SqL.of (q.2 _ _ ea), Nat.le_of_eq l.len⟩) (fun i x σ' H' H'' hi q y => ?_) (fun σ' H' q => hd σ' H' q.1 (s.trans q.2))⟩
  · have hi2 : i < xs.length := by rw [l.len]; exact hi
    exact ⟨xs, xs[i], SqL.of (q.2 _ _ ea), List.getElem?_eq_getElem hi2⟩
  · obtain ⟨rfl, y⟩ := y
    have hx := y xs (SqL.of (q.2 _ _ ea))
    obtain ⟨d, e1, e2⟩ := l.get' hx
    exact hs H1 s i d x σ' H'' e1 q.1 q.2 (e2.stay (.of q.2))
end
section
variable {P : Program} {w : World} {K : PySem.W.Frag} {mg : Str → Option Value} {base : Heap}
theorem scShort : FnScope ["row", "text", "nucleus", "below", "above", "own", "mark", "script", "part"] ["row"] (defScope sShort) := ⟨rfl, rfl, rfl, by decide +kernel, rfl, by decide +kernel, by decide +kernel⟩
theorem ok_short1 {n : Nat} {f : Addr} {fd : FuncData} (F : Fun K "_law_short" "_law_short" sShort f fd) (T : TxtB mg) (C_law_pieces : Cal P w K mg base CX0 (n + 1) "_law_pieces" ["row"] (spLPieces K (n + 1))) (C_law_lean : Cal P w K mg base CX0 (2 * n + 5) "_law_lean" ["row"] (spR K (RLean n))) : FnOk P w K mg base CX0 (2 * n + 6) f fd ["row"] (spR K (RShort (n + 1))) := by
  have sc := scShort
  refine F.ok scShort (fun vs H Q E h => ?_) (fun cdv A outer s H vs Q E hr h => ?_)
  · obtain ⟨ds, d, l, ⟨r, rfl, _⟩, _⟩ := h
    cases l with
    | cons _ l => cases l; rfl
  · obtain ⟨ds, d, l, ⟨r, rfl, dep, good, bnd, tt, rfl, ett⟩, k⟩ := h
    cases l with
    | cons tr l => cases l with
    | nil =>
    rename_i v
    refine ⟨_, (pss_cons (ps_set (i := 1) sc.nd rfl (Or.inl rfl) pe_str)
  (pss_cons (ps_for PassesOwn.never rfl (pi_tup (pv 0)) (pg_tup rfl (pgs_cons (pg_name (i := 2) sc.nd rfl (Or.inl rfl)) (pgs_cons (pg_name (i := 3) sc.nd rfl (Or.inl rfl)) (pgs_cons (pg_name (i := 4) sc.nd rfl (Or.inl rfl)) pgs_nil))))
  (pss_cons (ps_set (i := 5) sc.nd rfl (Or.inl rfl) (pe_cal C_law_pieces (hr.mono (by omega)) rfl pass0 (pa_cons (pe_tup (pa_cons (pe_tup (pa_cons (pv 2) (pa_cons pe_non (pa_cons pe_non pa_nil)))) pa_nil)) pa_nil)))
  (pss_cons (ps_if (pt_cmpR op_in_seq (pe_ix ix_tup (pv 2) pe_int (fun _ _ => rfl)) (pe_lst (pa_cons pe_str (pa_cons pe_str pa_nil))) (by rfl))
  (pss_one (ps_set (i := 5) sc.nd rfl (Or.inl rfl) (pe_op op_cat (pe_lst (pa_cons (pe_ix ix_list (pv 5) pe_int (fun _ _ => rfl)) pa_nil)) (pe_lc (own := [("part", 8)]) rfl sc.nd (pi_tup (pe_slice sl_tup (pv 2) (po_some pe_int) po_none)) (blkOk_by (own := [("part", 8)]) (N := ["row", "text", "nucleus", "below", "above", "own", "mark", "script", "part"]) (sc := defScope sShort) (by decide +kernel)) (fun _ _ _ _ _ => (pg_name (i := 8) sc.nd rfl (Or.inl rfl))) (fun _ _ _ _ _ => pts_nil) (fun _ _ _ _ _ => (pe_cal C_law_lean (hr.mono (by omega)) rfl pass0 (pa_cons (pv 8) pa_nil)))))))
  pss_nil)
  (pss_cons (ps_set (i := 1) sc.nd rfl (Or.inl rfl) (pe_op op_add_str (pe_op op_add_str (pv 1) (pe_join pe_str (pv 5))) pe_str))
  (pss_one (ps_for PassesOwn.never rfl (pi_list (pe_lst (pa_cons (pe_tup (pa_cons pe_str (pa_cons (pv 4) pa_nil))) (pa_cons (pe_tup (pa_cons pe_str (pa_cons (pv 3) pa_nil))) pa_nil)))) (pg_tup rfl (pgs_cons (pg_name (i := 6) sc.nd rfl (Or.inl rfl)) (pgs_cons (pg_name (i := 7) sc.nd rfl (Or.inl rfl)) pgs_nil)))
  (pss_one (ps_if (pt_cmpR op_notN (pv 7) pe_non (nomark _))
  (pss_one (ps_set (i := 1) sc.nd rfl (Or.inl rfl) (pe_op op_add_str (pe_op op_add_str (pe_op op_add_str (pv 1) (pv 6)) (pe_cal C_law_lean (hr.mono (by omega)) rfl pass0 (pa_cons (pv 7) pa_nil))) pe_str)))
  pss_nil))))))))
  (pss_one (ps_ret (pv 1))))), ?_⟩
    have er : r.d = .tuple (r.items.map FItem.d) := by rw [FRow.d, FRow.ds_eq]
    have gdm := FRow.ts_gd wk9 r good
    have tsl := FRow.ts_len r
    rw [FRow.ts_eq] at gdm tsl
    refine q_set (K := K) e_str fun v1 H1 s1 t1 => ?_
    cases tp_str t1
    refine q_forTS (K := K) (ds := r.items.map FItem.d) (e_var rfl ((er ▸ tr).stay (.of s1))) (fun i σ' H' => ∃ t x2 x3 x4 x5 x6 x7 x8, σ' = [some v, some (.str t), x2, x3, x4, x5, x6, x7, x8] ∧ t.cps.toList = txt ((r.items.take i).flatMap FItem.ts)) (fun H2 s2 => ⟨"", _, _, _, _, _, _, _, rfl, rfl⟩) ?_ ?_
    · rintro H2 s2 i d x σ' H3 hi ⟨t, x2, x3, x4, x5, x6, x7, x8, rfl, et⟩ s23 tx
      obtain ⟨it, hit, rfl⟩ := get_map hi
      have hmem := List.mem_of_getElem? hit
      have w1 := words_item hmem
      have dI := FRow.dep_le.mp (Nat.le_of_lt_succ dep) it hmem
      have gI := (FRow.good_iff _ _).mp good it hmem
      have fl := flat_le (f := FItem.ts) hit
      have lt : t.length ≤ 100000 := by
        have h1 := txt_len (ts := (r.items.take i).flatMap FItem.ts) fun e he => by
          have : e ∈ r.items.flatMap FItem.ts := by
            obtain ⟨q, hq, he⟩ := List.mem_flatMap.mp he
            exact List.mem_flatMap.mpr ⟨q, List.mem_of_mem_take hq, he⟩
          exact ⟨(gdm e this).1.2, (gdm e this).2.2⟩
        rw [← et] at h1
        have h3 : t.length = t.cps.toList.length := rfl
        omega
      have fsn := flat_snoc (f := FItem.ts) hit
      cases it with
      | mk m b a =>
      obtain ⟨gm, gb, ga⟩ := gI
      have tx : Tp K H3 x (.tuple [m.d, b.d, a.d]) := tx
      rw [FItem.words, List.length_append, List.length_append] at w1
      have dm : m.dep ≤ n ∧ b.dep ≤ n ∧ a.dep ≤ n := by
        rw [FItem.dep] at dI
        omega
      refine g_tup3 tx fun y1 y2 y3 ty1 ty2 ty3 => ?_
      have mgd : ∀ e ∈ m.ts, e.1.length ≤ 9 ∧ e.2 ≤ 1 := fun e he => by
        have := FNuc.ts_gd wk9 m gm e he
        exact ⟨this.1.2, this.2.2⟩
      have ml := txt_len mgd
      have ml2 := FNuc.ts_len m
      have fin : ∀ (D : Ends) (pp : Addr) (vs5 : List V) (ys : List Str) (x8 : Option V) (H5 : Hp), Same H3 H5 → H5 pp = some (.lst vs5) → TpL K H5 vs5 (ys.map PyData.str) → ys ≠ [] → spc ys = txt m.ts →
          (∀ (t' : Str) (x6 x7 : Option V) (H6 : Hp), Same H3 H6 → t'.cps.toList = txt ((r.items.take (i + 1)).flatMap FItem.ts) → D.nx [some v, some (.str t'), some y1, some y2, some y3, some (.ref pp), x6, x7, x8] H6) →
          tSeq (tAsg (tOp catS (tOp catS (tVar 1) (tM1 (fun x xs H Q => ∃ a p, ∃ ys : List Str, x = .str a ∧ xs = [.ref p] ∧ (SqL K H p (ys.map V.str) ∨ SqT K H p (ys.map V.str)) ∧ (ys.map (·.length)).sum + ys.length * a.length ≤ 16777216 ∧ Q (.str (Txt.join a ys)) H) (tC (.str " ")) (tVar 5))) (tC (.str " "))) (gName 1))
            (tFor (iList K (tLst (tCons (tTup (tCons (tC (.str "^")) (tCons (tVar 4) tNil))) (tCons (tTup (tCons (tC (.str "_")) (tCons (tVar 3) tNil))) tNil)))) (gTup K 2 (gCons (gName 6) (gCons (gName 7) gNil)))
              (tIfS (tTest (tOp (fun x y H Q => y = .non ∧ Q (.bl (!decide (x = .non))) H) (tVar 7) (tC .non))) (tAsg (tOp catS (tOp catS (tOp catS (tVar 1) (tVar 6)) (tCall (spR K (RLean n)) [] E0 (tCons (tVar 7) tNil))) (tC (.str " "))) (gName 1)) tNext))
            D [some v, some (.str t), some y1, some y2, some y3, some (.ref pp), x6, x7, x8] H5 := fun D pp vs5 ys x8 H5 s5 e5 l5 yn ysp kk => by
        have ej := join_sp yn
        have sl := spc_len ys
        rw [ysp] at ej sl
        have lj : (Txt.join " " ys).length ≤ 100000 := by
          rw [TL.join_eq]
          have h3 : (Str.join " " ys).length = (Str.join " " ys).cps.toList.length := rfl
          have := congrArg List.length ej
          rw [List.length_append] at this
          have e32 : ([32] : List Nat).length = 1 := rfl
          omega
        have l1 : ∀ (a b : Str), (a ++ b).length = a.length + b.length := fun a b => by
          have h3 : (a ++ b).length = (a ++ b).cps.toList.length := rfl
          rw [h3, cat_cps, List.length_append]
          rfl
        have sp1 : (" " : Str).length = 1 := rfl
        refine q_set (K := K) (d := .str ((t ++ Txt.join " " ys) ++ " ")) (e_op (e_op (e_var rfl (.str t)) (d2 := .str (Txt.join " " ys)) ?_ (r_catS (by omega))) e_str (r_catS (by rw [l1]; omega))) fun v6 H6 s6 t6 => ?_
        · intro H7 s7 Q7 q7
          obtain rfl := l5.strs
          exact ⟨⟨_, rfl⟩, _, rfl, " ", pp, ys, rfl, rfl, .inl (SqL.of (s7 _ _ e5)), by rw [sp1]; omega, q7 _ H7 (.refl _) (.str _)⟩
        cases tp_str t6
        have ety : ((t ++ Txt.join " " ys) ++ " " : Str).cps.toList = t.cps.toList ++ txt m.ts := by
          rw [cat_cps, cat_cps, TL.join_eq, List.append_assoc]
          have e : (" " : Str).cps.toList = [32] := rfl
          rw [e, ej]
        generalize ((t ++ Txt.join " " ys) ++ " " : Str) = ty at ety
        have lty : ty.length ≤ 200000 := by
          have h3 : ty.length = ty.cps.toList.length := rfl
          have h4 : t.length = t.cps.toList.length := rfl
          rw [h3, ety, List.length_append]
          omega
        have t2 := (ty2.stay (.of s5)).stay (.of s6)
        have t3 := (ty3.stay (.of s5)).stay (.of s6)
        refine s_forLS (K := K) (ds := [.tuple [.str "^", a.d], .tuple [.str "_", b.d]]) (l_lst (a_cons (e_tup (a_cons e_str (a_cons (e_var rfl t3) a_nil)) (Nat.le_of_ble_eq_true rfl)) (a_cons (e_tup (a_cons e_str (a_cons (e_var rfl t2) a_nil)) (Nat.le_of_ble_eq_true rfl)) a_nil)) (Nat.le_of_ble_eq_true rfl))
          (fun j σ' H' => ∃ (t' : Str) (x6 x7 : Option V), σ' = [some v, some (.str t'), some y1, some y2, some y3, some (.ref pp), x6, x7, x8] ∧ t'.cps.toList = ty.cps.toList ++ (if j = 0 then [] else if j = 1 then txt (a.ts "^") else txt (a.ts "^") ++ txt (b.ts "_"))) (fun H7 s7 => ⟨ty, _, _, rfl, by simp⟩) ?_ ?_
        · rintro H7 s7 j d x σ' H8 hj ⟨t', x6, x7, rfl, et'⟩ s8 tx8
          have lt2 : ∀ l : List Nat, t'.cps.toList = ty.cps.toList ++ l → l.length ≤ 100000 → t'.length ≤ 300000 := fun l h1 h2 => by
            have h3 : t'.length = t'.cps.toList.length := rfl
            have h4 : ty.length = ty.cps.toList.length := rfl
            rw [h3, h1, List.length_append]
            omega
          have la : (txt (a.ts "^")).length ≤ 100000 := by
            have h1 := txt_len (ts := a.ts "^") fun e he => by
              have := FScr.ts_gd wk9 (s := "^") (wk9.m _ (by decide)) (by decide +kernel) a ga e he
              exact ⟨this.1.2, this.2.2⟩
            have h2 := FScr.ts_len a (s := "^")
            omega
          match j, hj with
          | 0, hj =>
            cases hj
            refine g_tup2 tx8 fun z1 z2 tz1 tz2 => ?_
            cases tp_str tz1
            refine scr1 (n := n) (s := "^") rfl rfl rfl tz2 dm.2.2 ga (by omega) (by have := lt2 [] (by simpa using et') (by simp); omega) (by decide) fun t9 H9 s9 e9 => ?_
            have q : (∃ (t' : Str) (x6 x7 : Option V), [some v, some (.str t9), some y1, some y2, some y3, some (.ref pp), some (.str "^"), some z2, x8] = [some v, some (.str t'), some y1, some y2, some y3, some (.ref pp), x6, x7, x8] ∧ t'.cps.toList = ty.cps.toList ++ (if 0 + 1 = 0 then [] else if 0 + 1 = 1 then txt (a.ts "^") else txt (a.ts "^") ++ txt (b.ts "_"))) ∧ Same H7 H9 := ⟨⟨t9, _, _, rfl, by rw [e9, et']; simp⟩, s8.trans s9⟩
            exact ⟨q, q⟩
          | 1, hj =>
            cases hj
            refine g_tup2 tx8 fun z1 z2 tz1 tz2 => ?_
            cases tp_str tz1
            refine scr1 (n := n) (s := "_") rfl rfl rfl tz2 dm.2.1 gb (by omega) (by have := lt2 (txt (a.ts "^")) (by simpa using et') la; omega) (by decide) fun t9 H9 s9 e9 => ?_
            have q : (∃ (t' : Str) (x6 x7 : Option V), [some v, some (.str t9), some y1, some y2, some y3, some (.ref pp), some (.str "_"), some z2, x8] = [some v, some (.str t'), some y1, some y2, some y3, some (.ref pp), x6, x7, x8] ∧ t'.cps.toList = ty.cps.toList ++ (if 1 + 1 = 0 then [] else if 1 + 1 = 1 then txt (a.ts "^") else txt (a.ts "^") ++ txt (b.ts "_"))) ∧ Same H7 H9 := ⟨⟨t9, _, _, rfl, by rw [e9, et']; simp⟩, s8.trans s9⟩
            exact ⟨q, q⟩
        · rintro σ' H8 ⟨t', x6, x7, rfl, et'⟩ s8
          refine kk t' x6 x7 H8 ((s5.trans s6).trans s8) ?_
          rw [et', ety, et, fsn, txt_app]
          show _ = _ ++ txt (m.ts ++ (a.ts "^" ++ b.ts "_"))
          rw [txt_app, txt_app]
          simp
      have w5 : (FRow.cons (FItem.mk m .no .no) .nil).words = m.words := by simp [FRow.words, FItem.words, FScr.words]
      refine q_setL (K := K) (ds := m.words.map PyData.str) (l_is (l_call (a_cons (e_tup (ds := [.tuple [m.d, .none, .none]]) (a_cons (e_tup (a_cons (e_var rfl ty1) (a_cons e_non (a_cons e_non a_nil))) (Nat.le_of_ble_eq_true rfl)) a_nil) (Nat.le_of_ble_eq_true rfl)) a_nil) ⟨.cons (.mk m .no .no) .nil, rfl, rfl, by show max (max m.dep (max 0 0)) 0 < n + 1; omega, ⟨⟨gm, trivial, trivial⟩, trivial⟩, by rw [w5]; omega⟩) (by rw [w5])) fun pp vs5 H4 n4 s4 e4 l4 => ?_
      have fin1 := fun (D : Ends) => fin D pp vs5 m.words x8
      have ty14 := ty1.stay (.of s4)
      have done : ∀ (pp : Addr) (x8 : Option V) (t' : Str) (x6 x7 : Option V) (H6 : Hp), Same H3 H6 → t'.cps.toList = txt ((r.items.take (i + 1)).flatMap FItem.ts) → (∃ t x2 x3 x4 x5 x6' x7' x8', [some v, some (.str t'), some y1, some y2, some y3, some (.ref pp), x6, x7, x8] = [some v, some (.str t), x2, x3, x4, x5, x6', x7', x8'] ∧ t.cps.toList = txt ((r.items.take (i + 1)).flatMap FItem.ts)) ∧ Same H2 H6 := fun pp x8 t' x6 x7 H6 s6 e6 => ⟨⟨t', _, _, _, _, _, _, _, rfl, e6⟩, s23.trans s6⟩
      have tst : ∀ {kd : Str} {dss : List PyData}, m.d = .tuple (.str kd :: dss) → EvDT K (tTest (tOp (rIn K false) (tOp (rIxT K) (tVar 2) (tC (.int 0))) (tLst (tCons (tC (.str "frac")) (tCons (tC (.str "root")) tNil))))) [some v, some (.str t), some y1, some y2, some y3, some (.ref pp), x6, x7, x8] H4 ([("frac" : Str), "root"].any fun r => r == kd) := fun e => t_test (e_inL (e_op (e_var rfl (e ▸ ty14)) e_int (r_ixT atI0)) (a_cons e_str (a_cons e_str a_nil)) (by decide))
      have mkL : ∀ {e1 : TE} {hd lo lu : Str} {tl2 : List Str} {D : Ends} {H5 : Hp}, Same H4 H5 → EvDL K e1 [some v, some (.str t), some y1, some y2, some y3, some (.ref pp), x6, x7, x8] H5 ((hd :: tl2).map PyData.str) → spc (hd :: tl2) = txt m.ts → (∀ (pp2 : Addr) (t' : Str) (x6 x7 : Option V) (H6 : Hp), Same H3 H6 → t'.cps.toList = txt ((r.items.take (i + 1)).flatMap FItem.ts) → D.nx [some v, some (.str t'), some y1, some y2, some y3, some (.ref pp2), x6, x7, x8] H6) →
          tAsg e1 (gName 5) { D with nx := (tSeq (tAsg (tOp catS (tOp catS (tVar 1) (tM1 (fun x xs H Q => ∃ a p, ∃ ys : List Str, x = .str a ∧ xs = [.ref p] ∧ (SqL K H p (ys.map V.str) ∨ SqT K H p (ys.map V.str)) ∧ (ys.map (·.length)).sum + ys.length * a.length ≤ 16777216 ∧ Q (.str (Txt.join a ys)) H) (tC (.str " ")) (tVar 5))) (tC (.str " "))) (gName 1))
            (tFor (iList K (tLst (tCons (tTup (tCons (tC (.str "^")) (tCons (tVar 4) tNil))) (tCons (tTup (tCons (tC (.str "_")) (tCons (tVar 3) tNil))) tNil)))) (gTup K 2 (gCons (gName 6) (gCons (gName 7) gNil)))
              (tIfS (tTest (tOp (fun x y H Q => y = .non ∧ Q (.bl (!decide (x = .non))) H) (tVar 7) (tC .non))) (tAsg (tOp catS (tOp catS (tOp catS (tVar 1) (tVar 6)) (tCall (spR K (RLean n)) [] E0 (tCons (tVar 7) tNil))) (tC (.str " "))) (gName 1)) tNext)) D) } [some v, some (.str t), some y1, some y2, some y3, some (.ref pp), x6, x7, x8] H5 := fun {e1 hd lo lu tl2 D H5} s5 he hs kk =>
        he H5 (.refl _) _ fun p2 xs2 H6 n6 s6 e6 l6 => fin D p2 xs2 (hd :: tl2) x8 H6 ((s4.trans s5).trans s6) e6 l6 (by simp) hs (kk p2)
      have hd0 : ∀ {x : Str} {l : List Str} {H5 : Hp}, Same H4 H5 → m.words = x :: l → EvDL K (tLst (tCons (tOp (rIxL K) (tVar 5) (tC (.int 0))) tNil)) [some v, some (.str t), some y1, some y2, some y3, some (.ref pp), x6, x7, x8] H5 ([x].map PyData.str) := fun {x l H5} s5 e => l_lst (a_cons (e_ixL rfl (s5 _ _ e4) (l4.stay (.of s5)) e_int (by rw [e]; exact atI0)) a_nil) (Nat.le_of_ble_eq_true rfl)
      have lean : ∀ {q : FRow} {lo : Str} {y : V} {H5 : Hp}, q.dep < n → q.good nmsP delP → q.words.length ≤ 10000 → TxE lo (leanT q q.ts) → Tp K H5 y q.d → EvD K (tCall (spR K (RLean n)) [] E0 (tCons (tVar 8) tNil)) [some v, some (.str t), some y1, some y2, some y3, some (.ref pp), x6, x7, some y] H5 (.str lo) := fun {q lo y H5} h1 h2 h3 h4 h5 => e_call (a_cons (e_var rfl h5) a_nil) ⟨q, rfl, h1, h2, h3, lo, rfl, h4⟩
      cases m with
      | sym z =>
        refine q_no (b := false) (t_is (tst rfl) (by decide +kernel)) rfl fun H5 s5 => ?_
        exact fin1 _ H5 (s4.trans s5) (s5 _ _ e4) (l4.stay (.of s5)) (by simp [FNuc.words]) (by rw [spc_words]; rfl) fun t' x6 x7 H6 s6 e6 => done pp x8 t' x6 x7 H6 s6 e6
      | group q =>
        refine q_no (b := false) (t_is (tst rfl) (by decide +kernel)) rfl fun H5 s5 => ?_
        exact fin1 _ H5 (s4.trans s5) (s5 _ _ e4) (l4.stay (.of s5)) (by simp [FNuc.words]) (by rw [spc_words]; rfl) fun t' x6 x7 H6 s6 e6 => done pp x8 t' x6 x7 H6 s6 e6
      | fence o c q =>
        refine q_no (b := false) (t_is (tst rfl) (by decide +kernel)) rfl fun H5 s5 => ?_
        exact fin1 _ H5 (s4.trans s5) (s5 _ _ e4) (l4.stay (.of s5)) (by simp [FNuc.words]) (by rw [spc_words]; rfl) fun t' x6 x7 H6 s6 e6 => done pp x8 t' x6 x7 H6 s6 e6
      | grid g =>
        refine q_no (b := false) (t_is (tst rfl) (by decide +kernel)) rfl fun H5 s5 => ?_
        exact fin1 _ H5 (s4.trans s5) (s5 _ _ e4) (l4.stay (.of s5)) (by simp [FNuc.words]) (by rw [spc_words]; rfl) fun t' x6 x7 H6 s6 e6 => done pp x8 t' x6 x7 H6 s6 e6
      | root q =>
        have hd : q.dep + 1 ≤ n := dm.1
        have hl : (FNuc.root q).words.length = q.words.length + 3 := by simp [FNuc.words]
        obtain ⟨lo, elo, llo⟩ := lean_str gm (by omega)
        refine q_yes (b := true) (t_is (tst rfl) (by decide +kernel)) rfl fun H5 s5 => ?_
        have td : Tp K H4 y1 (.tuple [.str "root", q.d]) := ty14
        refine mkL (hd := "@root") (tl2 := [lo]) (lo := lo) (lu := lo) s5 (l_is (l_cat (hd0 s5 rfl) (l_lcT (K := K) (j := 8) (vs := [8]) (ds := [q.d]) (es := [.str lo]) (e_is (e_slT (lo := some 1) (hi := none) (e_var rfl (td.stay (.of s5))) (fun H Q q => ⟨1, rfl, q⟩) (fun H Q q => q) (by show ¬ ((1 : Nat) = 0 ∧ (2 : Nat) = 2); omega)) rfl) rfl (Nat.le_of_ble_eq_true rfl) (fun _ => rfl) ?_) (Nat.le_of_ble_eq_true rfl)) rfl) ?_ fun pp2 t' x6 x7 H6 s6 e6 => done pp2 x8 t' x6 x7 H6 s6 e6
        · intro j d e x H10 h1 h2 s10 tx10
          match j, h1, h2 with
          | 0, h1, h2 => cases h1; cases h2; exact lean (by omega) gm (by omega) elo tx10
        · show ("@root" : Str).cps.toList ++ [32] ++ (lo.cps.toList ++ [32] ++ []) = ("@root" : Str).cps.toList ++ (List.replicate 1 32 ++ txt (leanT q q.ts))
          rw [← elo, List.append_nil, List.append_assoc]
          rfl
      | frac o u =>
        have hd : max (o.dep + 1) (u.dep + 1) ≤ n := dm.1
        have hl : (FNuc.frac o u).words.length = o.words.length + u.words.length + 5 := by simp [FNuc.words]; omega
        obtain ⟨lo, elo, llo⟩ := lean_str gm.1 (by omega)
        obtain ⟨lu, elu, llu⟩ := lean_str gm.2 (by omega)
        refine q_yes (b := true) (t_is (tst rfl) (by decide +kernel)) rfl fun H5 s5 => ?_
        have td : Tp K H4 y1 (.tuple [.str "frac", o.d, u.d]) := ty14
        refine mkL (hd := "@frac") (tl2 := [lo, lu]) (lo := lo) (lu := lu) s5 (l_is (l_cat (hd0 s5 rfl) (l_lcT (K := K) (j := 8) (vs := [8]) (ds := [o.d, u.d]) (es := [.str lo, .str lu]) (e_is (e_slT (lo := some 1) (hi := none) (e_var rfl (td.stay (.of s5))) (fun H Q q => ⟨1, rfl, q⟩) (fun H Q q => q) (by show ¬ ((1 : Nat) = 0 ∧ (3 : Nat) = 3); omega)) rfl) rfl (Nat.le_of_ble_eq_true rfl) (fun _ => rfl) ?_) (Nat.le_of_ble_eq_true rfl)) rfl) ?_ fun pp2 t' x6 x7 H6 s6 e6 => done pp2 x8 t' x6 x7 H6 s6 e6
        · intro j d e x H10 h1 h2 s10 tx10
          match j, h1, h2 with
          | 0, h1, h2 => cases h1; cases h2; exact lean (by omega) gm.1 (by omega) elo tx10
          | 1, h1, h2 => cases h1; cases h2; exact lean (by omega) gm.2 (by omega) elu tx10
        · show ("@frac" : Str).cps.toList ++ [32] ++ (lo.cps.toList ++ [32] ++ (lu.cps.toList ++ [32] ++ [])) = ("@frac" : Str).cps.toList ++ (List.replicate 1 32 ++ txt (leanT o o.ts ++ leanT u u.ts))
          rw [txt_app, ← elo, ← elu, List.append_nil, List.append_assoc]
          rfl
    · rintro σ' H2 ⟨t, x2, x3, x4, x5, x6, x7, x8, rfl, et⟩ s2
      rw [List.length_map, List.take_length, ← FRow.ts_eq, ← ett] at et
      have : t = tt := by rw [str_of_cps et]
      subst this
      exact ⟨_, rfl, k _ H2 (s1.trans s2) (.str _)⟩
end
end Mg

set_option Elab.async false
set_option linter.all false
set_option maxRecDepth 100000
set_option maxHeartbeats 1000000
namespace Mg
open PySem L2 StX
/-! formulas are data that == can compare -/
section
variable {P : Str → Prop} {D : Option Str → Prop}
theorem and2 {a b : Bool} (h1 : a = true) (h2 : b = true) : (a && b) = true := by rw [h1, h2]; rfl
mutual
theorem FRow.lay (hP : ∀ x, P x → PyData.canLay0 (.str x) = true) (hD : ∀ o, D o → PyData.canLay0 (optD o) = true) : ∀ r : FRow, r.good P D → PyData.canLayAll0 r.ds = true
  | .nil, _ => rfl
  | .cons i r, g => and2 (FItem.lay hP hD i g.1) (FRow.lay hP hD r g.2)
theorem FItem.lay (hP : ∀ x, P x → PyData.canLay0 (.str x) = true) (hD : ∀ o, D o → PyData.canLay0 (optD o) = true) : ∀ r : FItem, r.good P D → PyData.canLay0 r.d = true
  | .mk n b a, g => and2 (FNuc.lay hP hD n g.1) (and2 (FScr.lay hP hD b g.2.1) (and2 (FScr.lay hP hD a g.2.2) rfl))
theorem FScr.lay (hP : ∀ x, P x → PyData.canLay0 (.str x) = true) (hD : ∀ o, D o → PyData.canLay0 (optD o) = true) : ∀ r : FScr, r.good P D → PyData.canLay0 r.d = true
  | .no, _ => rfl
  | .yes r, g => FRow.lay hP hD r g
theorem FNuc.lay (hP : ∀ x, P x → PyData.canLay0 (.str x) = true) (hD : ∀ o, D o → PyData.canLay0 (optD o) = true) : ∀ r : FNuc, r.good P D → PyData.canLay0 r.d = true
  | .sym x, g => and2 (by decide +kernel) (and2 (hP x g) rfl)
  | .group r, g => and2 (by decide +kernel) (and2 (FRow.lay hP hD r g) rfl)
  | .root r, g => and2 (by decide +kernel) (and2 (FRow.lay hP hD r g) rfl)
  | .frac o u, g => and2 (by decide +kernel) (and2 (FRow.lay hP hD o g.1) (and2 (FRow.lay hP hD u g.2) rfl))
  | .fence o c r, g => and2 (by decide +kernel) (and2 (hD o g.1) (and2 (hD c g.2.1) (and2 (FRow.lay hP hD r g.2.2) rfl)))
  | .grid q, g => and2 (by decide +kernel) (and2 (FGrid.lay hP hD q g.1) rfl)
theorem FGrid.lay (hP : ∀ x, P x → PyData.canLay0 (.str x) = true) (hD : ∀ o, D o → PyData.canLay0 (optD o) = true) : ∀ r : FGrid, r.good P D → PyData.canLayAll0 r.ds = true
  | .nil, _ => rfl
  | .cons i r, g => and2 (FCells.lay hP hD i g.1) (FGrid.lay hP hD r g.2)
theorem FCells.lay (hP : ∀ x, P x → PyData.canLay0 (.str x) = true) (hD : ∀ o, D o → PyData.canLay0 (optD o) = true) : ∀ r : FCells, r.good P D → PyData.canLayAll0 r.ds = true
  | .nil, _ => rfl
  | .cons i r, g => and2 (FRow.lay hP hD i g.1) (FCells.lay hP hD r g.2)
end
end
theorem row_lay {r : FRow} (g : r.good nmsP delP) : PyData.canLay0 r.d = true := FRow.lay (P := nmsP) (D := delP) (fun x h => (by decide +kernel : ∀ x ∈ nms, PyData.canLay0 (.str x) = true) x h) (fun o h => by rcases h with rfl | rfl | rfl | rfl <;> decide +kernel) r g
theorem row_shaped {r : FRow} (g : r.good nmsP delP) (h : r.dep ≤ 9) : SeqAt.shaped r.d = true := by
  refine and2 (row_lay g) (decide_eq_true ?_)
  have h1 := dep_tup (FRow.dpt r)
  have e : r.d.depth = (PyData.tuple r.ds).depth := rfl
  omega
theorem row_eqv {r : FRow} (g : r.good nmsP delP) : PyData.eqv r.d r.d = true := SeqAt.eqv_refl _ (row_lay g)
end Mg

set_option Elab.async false
set_option linter.all false
set_option maxRecDepth 100000
set_option maxHeartbeats 2000000
namespace Mg
open PySem L2 StX
abbrev sFixed : Stmt := top 56
abbrev sLaw : Stmt := top 57
structure Ent where
  t : Str
  k0 : Nat
  ts : List (Str × Nat)
  r : CRow
structure EntOk (e : Ent) : Prop where
  et : e.t.cps.toList = List.replicate e.k0 32 ++ txt e.ts
  tok : TOk e.ts
  tw : e.ts.map Prod.fst = e.r.ws
  t4 : e.t.length ≤ 400
  ok : e.r.ok
  h : e.r.h < 4
  lim : InLim 4 e.r.f
def c1 (x : Str) : CRow := .cons (.mk (.sym x) .no) .nil
def cI (n : CNuc) : CRow := .cons (.mk n .no) .nil
def cL : List Str → CRow
  | [] => .nil
  | x :: r => .cons (.mk (.sym x) .no) (cL r)
theorem cL_ok : ∀ {l : List Str}, (∀ x ∈ l, Sy x) → (cL l).ok
  | [], _ => trivial
  | x :: l, h => ⟨⟨h x List.mem_cons_self, trivial⟩, cL_ok fun y hy => h y (List.mem_cons_of_mem _ hy)⟩
theorem sD {x : Str} (h : decide (Sy x) = true) : Sy x := of_decide_eq_true h

def L6 : List Nat := []
def a1 : Ent := ⟨"@alpha x", 0, [("@alpha", 1), ("x", 0)], cL ["@alpha", "x"]⟩
def a2 : Ent := ⟨"{x}", 0, [("{", 0), ("x", 0), ("}", 0)], cI (.group (c1 "x"))⟩
def a3 : Ent := ⟨"@frac12", 0, [("@frac", 0), ("1", 0), ("2", 0)], cI (.frac (.one "1") (.one "2"))⟩
def a4 : Ent := ⟨"@frac{1}{ 2 }", 0, [("@frac", 0), ("{", 0), ("1", 0), ("}", 0), ("{", 1), ("2", 1), ("}", 0)], cI (.frac (.brace (c1 "1")) (.brace (c1 "2")))⟩
def a5 : Ent := ⟨"x^{2}_a", 0, [("x", 0), ("^", 0), ("{", 0), ("2", 0), ("}", 0), ("_", 0), ("a", 0)], .cons (.mk (.sym "x") (.ab (.brace (c1 "2")) (.one "a"))) .nil⟩
def a6 : Ent := ⟨"x_a^2", 0, [("x", 0), ("_", 0), ("a", 0), ("^", 0), ("2", 0)], .cons (.mk (.sym "x") (.ba (.one "a") (.one "2"))) .nil⟩
def a7 : Ent := ⟨"x", 0, [("x", 0)], c1 "x"⟩
theorem p1 : EntOk a1 := ⟨by decide +kernel, tok_of (by decide +kernel), rfl, by decide +kernel, cL_ok (by decide +kernel), by decide +kernel, ⟨by decide +kernel, by decide +kernel, by decide +kernel, by decide +kernel, by decide +kernel, by decide +kernel⟩⟩
theorem p2 : EntOk a2 := ⟨by decide +kernel, tok_of (by decide +kernel), rfl, by decide +kernel, ⟨⟨⟨⟨sD (by decide +kernel), trivial⟩, trivial⟩, trivial⟩, trivial⟩, by decide +kernel, ⟨by decide +kernel, by decide +kernel, by decide +kernel, by decide +kernel, by decide +kernel, by decide +kernel⟩⟩
theorem p3 : EntOk a3 := ⟨by decide +kernel, tok_of (by decide +kernel), rfl, by decide +kernel, ⟨⟨⟨sD (by decide +kernel), sD (by decide +kernel)⟩, trivial⟩, trivial⟩, by decide +kernel, ⟨by decide +kernel, by decide +kernel, by decide +kernel, by decide +kernel, by decide +kernel, by decide +kernel⟩⟩
theorem p4 : EntOk a4 := ⟨by decide +kernel, tok_of (by decide +kernel), rfl, by decide +kernel, ⟨⟨⟨⟨⟨sD (by decide +kernel), trivial⟩, trivial⟩, ⟨⟨sD (by decide +kernel), trivial⟩, trivial⟩⟩, trivial⟩, trivial⟩, by decide +kernel, ⟨by decide +kernel, by decide +kernel, by decide +kernel, by decide +kernel, by decide +kernel, by decide +kernel⟩⟩
theorem p5 : EntOk a5 := ⟨by decide +kernel, tok_of (by decide +kernel), rfl, by decide +kernel, ⟨⟨sD (by decide +kernel), ⟨⟨sD (by decide +kernel), trivial⟩, trivial⟩, sD (by decide +kernel)⟩, trivial⟩, by decide +kernel, ⟨by decide +kernel, by decide +kernel, by decide +kernel, by decide +kernel, by decide +kernel, by decide +kernel⟩⟩
theorem p6 : EntOk a6 := ⟨by decide +kernel, tok_of (by decide +kernel), rfl, by decide +kernel, ⟨⟨sD (by decide +kernel), sD (by decide +kernel), sD (by decide +kernel)⟩, trivial⟩, by decide +kernel, ⟨by decide +kernel, by decide +kernel, by decide +kernel, by decide +kernel, by decide +kernel, by decide +kernel⟩⟩
theorem p7 : EntOk a7 := ⟨by decide +kernel, tok_of (by decide +kernel), rfl, by decide +kernel, ⟨⟨sD (by decide +kernel), trivial⟩, trivial⟩, by decide +kernel, ⟨by decide +kernel, by decide +kernel, by decide +kernel, by decide +kernel, by decide +kernel, by decide +kernel⟩⟩
section
variable {K : PySem.W.Frag} {σ : L2.St} {H : Hp} {ta tb : TE} {d e : PyData} {ds es : List PyData}
theorem e_eqD (ha : EvD K ta σ H d) (hb : ∀ H1, Same H H1 → EvD K tb σ H1 e) (h1 : SeqAt.shaped d = true) (h2 : SeqAt.shaped e = true) : EvD K (tOp (rEqD K) ta tb) σ H (.bool (PyData.eqv d e)) := fun H1 s Q q => ha H1 s _ fun v H2 s2 t2 => hb H2 (s.trans s2) H2 (.refl _) _ fun u H3 s3 t3 => ⟨d, e, (t2.stay (.of s3)).dp, t3.dp, h1, h2, q _ H3 (s2.trans s3) (.bl _)⟩
theorem e_neD (ha : EvD K ta σ H d) (hb : ∀ H1, Same H H1 → EvD K tb σ H1 e) (h1 : SeqAt.shaped d = true) (h2 : SeqAt.shaped e = true) : EvD K (tOp (rNeD K) ta tb) σ H (.bool (!PyData.eqv d e)) := fun H1 s Q q => ha H1 s _ fun v H2 s2 t2 => hb H2 (s.trans s2) H2 (.refl _) _ fun u H3 s3 t3 => ⟨d, e, (t2.stay (.of s3)).dp, t3.dp, h1, h2, q _ H3 (s2.trans s3) (.bl _)⟩
theorem e_neL (ha : EvDL K ta σ H ds) (hb : ∀ H1, Same H H1 → EvDL K tb σ H1 es) (h1 : SeqAt.shaped (.list ds) = true) (h2 : SeqAt.shaped (.list es) = true) : EvD K (tOp (rNeD K) ta tb) σ H (.bool (!PyData.eqv (.list ds) (.list es))) := fun H1 s Q q => ha H1 s _ fun p xs H2 _ s2 e2 t2 => hb H2 (s.trans s2) H2 (.refl _) _ fun p' ys H3 _ s3 e3 t3 => ⟨.list ds, .list es, .lst (SqL.of (s3 _ _ e2)) (t2.stay (.of s3)).dp, .lst (SqL.of e3) t3.dp, h1, h2, q _ H3 (s2.trans s3) (.bl _)⟩
end
section
variable {P : Program} {w : World} {K : PySem.W.Frag} {mg : Str → Option Value} {base : Heap}
theorem short_ok {f fl : Addr} {fd fdl : FuncData} (F : Fun K "_law_short" "_law_short" sShort f fd) (Fl : Fun K "_law_lean" "_law_lean" sLean fl fdl) (T : TxtB mg) (pc : ∀ n, Cal P w K mg base CX0 n "_law_pieces" ["row"] (spLPieces K n))
    (c : mg "_law_short" = some (.ref f) ∧ PySem.W.keepIn K (.ref f) = true ∧ Binds K fd ["row"] []) (cl : mg "_law_lean" = some (.ref fl) ∧ PySem.W.keepIn K (.ref fl) = true ∧ Binds K fdl ["row"] []) : ∀ n, Cal P w K mg base CX0 (2 * n + 4) "_law_short" ["row"] (spR K (RShort n))
  | 0 => ⟨f, fd, FnOk.vac fun vs H Q E ⟨_, _, _, ⟨_, _, h, _⟩, _⟩ => Nat.not_lt_zero _ h, c.1, c.2.1, c.2.2⟩
  | n + 1 => ⟨f, fd, ok_short1 F T (pc (n + 1)) ⟨fl, fdl, ok_lean Fl T (short_ok F Fl T pc c cl n), cl.1, cl.2.1, cl.2.2⟩, c.1, c.2.1, c.2.2⟩
def spFixed0 : Sp := fun vs H Q _ => vs = [] ∧ ∀ H', Same H H' → Q (.bl true) H'
theorem scFixed : FnScope ["text"] [] (defScope sFixed) := ⟨rfl, rfl, rfl, by decide +kernel, rfl, by decide +kernel, by decide +kernel⟩
theorem ok_fixed {f : Addr} {fd : FuncData} (F : Fun K "_law_fixed" "_law_fixed" sFixed f fd) (C_parse : Cal P w K mg base CX0 30 "parse" ["text"] (spR K (RParse 4))) (C_text_of : Cal P w K mg base CX0 13 "text_of" ["formula"] (spTextOf K 4)) : FnOk P w K mg base CX0 31 f fd [] spFixed0 := by
  have sc := scFixed
  refine F.ok scFixed (fun vs H Q E h => ?_) (fun cdv A outer s H vs Q E hr h => ?_)
  · obtain ⟨rfl, _⟩ := h
    rfl
  · obtain ⟨rfl, k⟩ := h
    have hu := hr.units
    refine ⟨_, (pss_cons (ps_if (pt_cmpR (op_neD hu) (pe_lc (own := [("text", 0)]) rfl sc.nd (pi_list (pe_lst (pa_cons pe_str (pa_cons pe_str (pa_cons pe_str pa_nil))))) (blkOk_by (own := [("text", 0)]) (N := ["text"]) (sc := defScope sFixed) (by decide +kernel)) (fun _ _ _ _ _ => (pg_name (i := 0) sc.nd rfl (Or.inl rfl))) (fun _ _ _ _ _ => pts_nil) (fun _ _ _ _ _ => (pe_cal C_text_of (hr.mono (by omega)) rfl pass0 (pa_cons (pe_cal C_parse (hr.mono (by omega)) rfl pass0 (pa_cons (pv 0) pa_nil)) pa_nil)))) (pe_lst (pa_cons pe_str (pa_cons pe_str (pa_cons pe_str pa_nil)))) (nomark _))
  (pss_one (ps_ret pe_bl))
  pss_nil)
  (pss_one (ps_ret (pe_and (pe_cmpR (op_eqD hu) (pe_cal C_parse (hr.mono (by omega)) rfl pass0 (pa_cons pe_str pa_nil)) (pe_cal C_parse (hr.mono (by omega)) rfl pass0 (pa_cons pe_str pa_nil)) (nomark _)) (pe_and (pe_cmpR (op_eqD hu) (pe_cal C_parse (hr.mono (by omega)) rfl pass0 (pa_cons pe_str pa_nil)) (pe_cal C_parse (hr.mono (by omega)) rfl pass0 (pa_cons pe_str pa_nil)) (nomark _)) (pe_one (pe_cmpR (op_neD hu) (pe_cal C_parse (hr.mono (by omega)) rfl pass0 (pa_cons pe_str pa_nil)) (pe_cal C_parse (hr.mono (by omega)) rfl pass0 (pa_cons pe_str pa_nil)) (nomark _)))))))), ?_⟩
    have par : ∀ {en : Ent} (_ : EntOk en) {te : TE} {σ : L2.St} {H : Hp}, EvD K te σ H (.str en.t) → EvD K (tCall (spR K (RParse 4)) [] E0 (tCons te tNil)) σ H en.r.f.d := fun {en} eo {te σ H} h => e_call (a_cons h a_nil) ⟨en.t, en.k0, en.ts, en.r, rfl, eo.et, eo.tok, eo.tw, eo.t4, eo.ok, eo.h, by have := eo.h; omega, eo.lim, rfl⟩
    refine q_no (K := K) (b := !PyData.eqv (.list (([("@alpha x" : Str), "{x}", "@frac{1}{2}"] : List Str).map PyData.str)) (.list (([("@alpha x" : Str), "{x}", "@frac{1}{2}"] : List Str).map PyData.str))) (t_test (e_neL (l_lcL (K := K) (j := 0) (vs := [0]) (ds := ([("@alpha x" : Str), "{x}", "@frac12"] : List Str).map PyData.str) (es := ([("@alpha x" : Str), "{x}", "@frac{1}{2}"] : List Str).map PyData.str) (l_lst (a_cons e_str (a_cons e_str (a_cons e_str a_nil))) (by decide)) rfl (by decide) (fun _ => rfl) ?_) (fun H1 s1 => l_lst (a_cons e_str (a_cons e_str (a_cons e_str a_nil))) (by decide)) (by decide +kernel) (by decide +kernel))) (by decide +kernel) fun H1 s1 => ?_
    · intro i d e x H2 h1 h2 s2 tx
      match i, h1, h2 with
      | 0, h1, h2 => cases h1; cases h2; exact e_call (a_cons (par p1 (e_var rfl tx)) a_nil) ⟨a1.r.f, rfl, congrArg PyData.str (by decide +kernel), p1.lim.dep, p1.lim.len, p1.lim.wk⟩
      | 1, h1, h2 => cases h1; cases h2; exact e_call (a_cons (par p2 (e_var rfl tx)) a_nil) ⟨a2.r.f, rfl, congrArg PyData.str (by decide +kernel), p2.lim.dep, p2.lim.len, p2.lim.wk⟩
      | 2, h1, h2 => cases h1; cases h2; exact e_call (a_cons (par p3 (e_var rfl tx)) a_nil) ⟨a3.r.f, rfl, congrArg PyData.str (by decide +kernel), p3.lim.dep, p3.lim.len, p3.lim.wk⟩
    refine (e_is (e_and (b := PyData.eqv a3.r.f.d a4.r.f.d) (e_eqD (par p3 e_str) (fun H2 s2 => par p4 e_str) (by decide +kernel) (by decide +kernel)) fun _ => e_and (b := PyData.eqv a5.r.f.d a6.r.f.d) (e_eqD (par p5 e_str) (fun H2 s2 => par p6 e_str) (by decide +kernel) (by decide +kernel)) fun _ => e_neD (d := a2.r.f.d) (e := a7.r.f.d) (par p2 e_str) (fun H2 s2 => par p7 e_str) (by decide +kernel) (by decide +kernel)) (d2 := .bool true) (congrArg PyData.bool (by decide +kernel))) H1 (.refl _) _ fun v H2 s2 t2 => ?_
    cases tp_bool t2
    exact k H2 (s1.trans s2)
structure Law03 (P : Program) (w : World) (K : PySem.W.Frag) (mg : Str → Option Value) (base : Heap) : Prop extends TxtB mg where
  b_sum : mg "sum" = none
  fixed : Cal P w K mg base CX0 31 "_law_fixed" [] spFixed0
  stream : Cal P w K mg base CX0 2 "_law_stream" ["script", "first", "count"] (spStream K)
  formula : Cal P w K mg base CX0 14 "_law_formula" ["stream"] (spFormula K)
  short : Cal P w K mg base CX0 12 "_law_short" ["row"] (spR K (RShort 4))
  pieces : Cal P w K mg base CX0 4 "_law_pieces" ["row"] (spLPieces K 4)
  glued : Cal P w K mg base CX0 1 "_law_glued" ["pieces"] (spGlued K)
  lrows : Cal P w K mg base CX0 6 "_law_rows" ["formula"] (spRowsOf K 4)
  parse : Cal P w K mg base CX0 30 "parse" ["text"] (spR K (RParse 4))
  textof : Cal P w K mg base CX0 13 "text_of" ["formula"] (spTextOf K 4)
  rowsof : Cal P w K mg base CX0 6 "rows_of" ["formula"] (spRowsOf K 4)
def spLaw (K : PySem.W.Frag) : Sp := fun vs H Q _ => ∃ (a : Addr) (ns : List Int), vs = [.ref a] ∧ SqL K H a (ns.map V.int) ∧ ∀ H', Q (.bl true) H'
theorem scLaw : FnScope ["script", "stream", "formula", "text", "one", "again", "row"] ["script"] (defScope sLaw) := ⟨rfl, rfl, rfl, by decide +kernel, rfl, by decide +kernel, by decide +kernel⟩
theorem ok_law {f : Addr} {fd : FuncData} (F : Fun K "law" "law" sLaw f fd) (T : Law03 P w K mg base) : FnOk P w K mg base CX0 32 f fd ["script"] (spLaw K) := by
  have sc := scLaw
  refine F.ok scLaw (fun vs H Q E h => ?_) (fun cdv A outer s H vs Q E hr h => ?_)
  · obtain ⟨a, ns, rfl, _⟩ := h
    rfl
  · obtain ⟨a, ns, rfl, hS, k⟩ := h
    have hu := hr.units
    have C_law_fixed := T.fixed
    have C_law_stream := T.stream
    have C_law_formula := T.formula
    have C_law_short := T.short
    have C_law_pieces := T.pieces
    have C_law_glued := T.glued
    have C_law_rows := T.lrows
    have C_parse := T.parse
    have C_text_of := T.textof
    have C_rows_of := T.rowsof
    refine ⟨_, (pss_cons (ps_set (i := 1) sc.nd rfl (Or.inl rfl) (pe_cal C_law_stream (hr.mono (by omega)) rfl pass0 (pa_cons (pv 0) (pa_cons pe_int (pa_cons pe_int pa_nil)))))
  (pss_cons (ps_set (i := 2) sc.nd rfl (Or.inl rfl) (pe_cal C_law_formula (hr.mono (by omega)) rfl pass0 (pa_cons (pv 1) pa_nil)))
  (pss_cons (ps_set (i := 3) sc.nd rfl (Or.inl rfl) (pe_cal C_law_short (hr.mono (by omega)) rfl pass0 (pa_cons (pv 2) pa_nil)))
  (pss_cons (ps_if (pt_not (pt_val (by exact (pe_cal0 C_law_fixed (hr.mono (by omega)) rfl pass0))))
  (pss_one (ps_ret pe_bl))
  pss_nil)
  (pss_cons (ps_if (PW.pt (pw_or (pt_cmpR op_gt (pe_callB call_len_str (by rfl) T.b_len PySem.boot_len (pa_cons (pv 3) pa_nil)) pe_int (nomark _)) (pw_or (pt_cmpR op_gt (pe_callB call_len_str (by rfl) T.b_len PySem.boot_len (pa_cons (pe_cal C_law_glued (hr.mono (by omega)) rfl pass0 (pa_cons (pe_cal C_law_pieces (hr.mono (by omega)) rfl pass0 (pa_cons (pv 2) pa_nil)) pa_nil)) pa_nil)) pe_int (nomark _)) (pw_or1 (pt_cmpR op_gt (pe_callB (cr_sum rfl) (by rfl) T.b_sum (by decide +kernel) (pa_cons (pe_lc (own := [("row", 6)]) rfl sc.nd (pi_list (pe_cal C_law_rows (hr.mono (by omega)) rfl pass0 (pa_cons (pv 2) pa_nil))) (blkOk_by (own := [("row", 6)]) (N := ["script", "stream", "formula", "text", "one", "again", "row"]) (sc := defScope sLaw) (by decide +kernel)) (fun _ _ _ _ _ => (pg_name (i := 6) sc.nd rfl (Or.inl rfl))) (fun _ _ _ _ _ => pts_nil) (fun _ _ _ _ _ => (pe_callB (r := rLenQ K) call_lenK (by rfl) T.b_len PySem.boot_len (pa_cons (pv 6) pa_nil)))) pa_nil)) pe_int (nomark _))))))
  (pss_one (ps_ret pe_bl))
  pss_nil)
  (pss_cons (ps_set (i := 4) sc.nd rfl (Or.inl rfl) (pe_cal C_parse (hr.mono (by omega)) rfl pass0 (pa_cons (pv 3) pa_nil)))
  (pss_cons (ps_set (i := 5) sc.nd rfl (Or.inl rfl) (pe_cal C_parse (hr.mono (by omega)) rfl pass0 (pa_cons (pe_cal C_text_of (hr.mono (by omega)) rfl pass0 (pa_cons (pv 4) pa_nil)) pa_nil)))
  (pss_cons (ps_if (PW.pt (pw_or (pt_cmpR (op_neD hu) (pv 4) (pv 2) (nomark _)) (pw_or (pt_cmpR (op_neD hu) (pv 5) (pv 2) (nomark _)) (pw_or (pt_cmpR op_ne (pe_cal C_text_of (hr.mono (by omega)) rfl pass0 (pa_cons (pv 5) pa_nil)) (pe_cal C_text_of (hr.mono (by omega)) rfl pass0 (pa_cons (pv 4) pa_nil)) (nomark _)) (pw_or1 (pt_cmpR op_ne (pe_callB call_len_sq (by rfl) T.b_len PySem.boot_len (pa_cons (pe_cal C_rows_of (hr.mono (by omega)) rfl pass0 (pa_cons (pv 4) pa_nil)) pa_nil)) (pe_callB call_len_sq (by rfl) T.b_len PySem.boot_len (pa_cons (pe_cal C_law_rows (hr.mono (by omega)) rfl pass0 (pa_cons (pv 2) pa_nil)) pa_nil)) (nomark _)))))))
  (pss_one (ps_ret pe_bl))
  pss_nil)
  (pss_one (ps_ret pe_bl)))))))))), ?_⟩
    refine ⟨_, rfl, a, ns, 20, rfl, hS, by decide, by decide, fun st pd pl H1 n1 n2 n3 s1 S1 => ?_⟩
    refine ⟨_, rfl, st, pd, pl, rfl, S1, fun vf r H2 sk2 dr tr => ?_⟩
    have dl := dr.dep
    have wl := dr.words
    have b3 : bI 3 = 1388 := rfl
    have gr := dr.good
    have wk := words_row wk9 gr
    have wl : r.words.length ≤ 5552 := by omega
    obtain ⟨t, et⟩ : ∃ t' : Str, t'.cps.toList = txt r.ts := ⟨⟨(txt r.ts).toArray⟩, by simp⟩
    have gd := FRow.ts_gd wk9 r gr
    have lt : t.length ≤ 100000 := by
      have h1 := txt_len (ts := r.ts) fun e he => ⟨(gd e he).1.2, (gd e he).2.2⟩
      have h2 := FRow.ts_len r
      rw [← et] at h1
      have h3 : t.length = t.cps.toList.length := rfl
      omega
    refine q_set (K := K) (d := .str t) (e_call (a_cons (e_var rfl tr) a_nil) ⟨r, rfl, by omega, gr, by omega, t, rfl, et⟩) fun v3 H3 s3 t3 => ?_
    cases tp_str t3
    have t3r := tr.stay (.of s3)
    have gl := glue_len r.words fun x hx => (wk x hx).2
    have pl1 : r.pre.length ≤ 100000 := by
      have := inn_row r
      simp only [FRow.pre, List.length_cons]
      omega
    have fx : ∀ {H5 : Hp} {E : XK}, EvDT K (tB (tCall spFixed0 [] E tNil)) [some (.ref a), some (.ref st), some vf, some (.str t), none, none, none] H5 true := fun H6 s6 Q q => ⟨rfl, fun H7 s7 => ⟨true, rfl, q H7 s7⟩⟩
    refine q_no (K := K) (b := !true) (t_not (fx (E := E0))) rfl fun H4 s4 => ?_
    have t4 := t3r.stay (.of s4)
    have summ : ∀ {H5 : Hp}, Same H4 H5 → EvD K (tCB (rSum K) (tCons (tLc (iList K (tCall (spRowsOf K 4) [] E0 (tCons (tVar 2) tNil))) (gName 6) tYes (tCB (rLenQ K) (tCons (tVar 6) tNil)) [6]) tNil)) [some (.ref a), some (.ref st), some vf, some (.str t), none, none, none] H5 (.int r.count) := fun s5 => by
      have h1 : EvDL K (tCall (spRowsOf K 4) [] E0 (tCons (tVar 2) tNil)) [some (.ref a), some (.ref st), some vf, some (.str t), none, none, none] _ (r.pre.map FRow.d) := l_call (a_cons (e_var rfl (t4.stay (.of s5))) a_nil) ⟨r, rfl, rfl, by omega, by omega⟩
      show EvD K _ _ _ (.int (r.pre.map fun q => (q.items.length : Int)).sum)
      refine e_sum (ns := r.pre.map fun q => (q.items.length : Int)) ?_
      refine l_lcL (K := K) (j := 6) (vs := [6]) (es := (r.pre.map fun q => (q.items.length : Int)).map PyData.int) h1 (by simp) ?_ (fun x => rfl) ?_
      · rw [List.length_map]
        omega
      intro i d e x H6 h1 h2 s2 tx
      obtain ⟨q, hq, rfl⟩ := get_map h1
      rw [List.map_map] at h2
      obtain ⟨q', hq', rfl⟩ := get_map h2
      rw [hq] at hq'
      cases hq'
      have ex : q.d = .tuple (q.items.map FItem.d) := by rw [FRow.d, FRow.ds_eq]
      refine e_is (e_lenT (ds := q.items.map FItem.d) (fun p xs H Q h hq => ⟨p, xs, rfl, h, fun _ => hq⟩) (e_var rfl (ex ▸ tx))) ?_
      simp
    refine q_if (K := K) (b := decide ((t.length : Int) > 400) || (decide (((glueW r.words).length : Int) > 400) || decide (r.count > 80))) (t_or (t_test (e_op (d1 := .int t.length) ?_ e_int r_I0b)) fun _ => t_or (t_test (e_op (d1 := .int (glueW r.words).length) ?_ e_int r_I0b)) fun _ => ?_) (fun _ H5 s5 => ?_) fun hb H5 s5 => ?_
    · exact fun H1 s1 Q q => ⟨_, rfl, _, rfl, sz5 (by omega), q _ H1 (.refl _) (.int _)⟩
    · intro H5 s5 Q q
      refine l_call (K := K) (es := r.words.map PyData.str) (a_cons (e_var rfl (t4.stay (.of s5))) a_nil) ⟨r, rfl, rfl, by omega, gr, by omega⟩ H5 (.refl _) _ fun p xs H6 np s6 e6 l6 => ?_
      exact ⟨p, xs, r.words, rfl, e6, l6, by omega, wk, fun H7 s7 => ⟨_, rfl, sz5 (by omega), q _ H7 (s6.trans s7) (.int _)⟩⟩
    · intro H5 s5
      refine t_test (e_op (d1 := .int r.count) (d2 := .int 80) (d := .bool (decide (r.count > 80))) (summ s5) e_int ?_) H5 (.refl _)
      exact r_I0b (f := fun i j => decide (j < i))
    · exact k H5
    have hb2 : t.length ≤ 400 ∧ (glueW r.words).length ≤ 400 ∧ r.count ≤ 80 := by
      simp only [Bool.or_eq_false_iff, decide_eq_false_iff_not] at hb
      omega
    have lim : InLim 4 r := ⟨by omega, by omega, by omega, wk, hb2.2.2, hb2.2.1⟩
    have pars : RParse 4 [.str t] r.d := by
      have ef := FRow.sh_f (fun o h => (hDel o h).1) r gr
      have hh := FRow.sh_h r
      exact ⟨t, 0, r.ts, r.sh, rfl, by rw [et]; rfl, tok_gd (FRow.ts_gd wkTw r gr), FRow.ts_ws r, hb2.1, FRow.sh_ok hSy (fun o h => (hDel o h).2) r gr, by omega, by omega, by rw [ef]; exact lim, by rw [ef]⟩
    have par1 : RParse 4 [.str (glueW r.words)] r.d := by
      have ef := FRow.t_f (fun o h => (hDel o h).1) r gr
      have th := FRow.t_h r
      exact ⟨_, 0, spW r.words, r.t, rfl, by rw [glue_txt]; rfl, spW_ok (words_row wkTw gr), by rw [spW_fst, FRow.t_ws], hb2.2.1, FRow.t_ok hSy (fun o h => (hDel o h).2) r gr, by omega, by omega, by rw [ef]; exact lim, by rw [ef]⟩
    have txo : ∀ {te : TE} {σ : L2.St} {H : Hp}, EvD K te σ H r.d → EvD K (tCall (spTextOf K 4) [] E0 (tCons te tNil)) σ H (.str (glueW r.words)) := fun h => e_call (a_cons h a_nil) ⟨r, rfl, rfl, by omega, by omega, wk⟩
    have t5 := t4.stay (.of s5)
    refine q_set (K := K) (d := r.d) (e_call (a_cons (e_var rfl (.str t)) a_nil) pars) fun v4 H6 s6 t6 => ?_
    refine q_set (K := K) (d := r.d) (e_call (a_cons (txo (e_var rfl t6)) a_nil) par1) fun v5 H7 s7 t7 => ?_
    have t57 := (t5.stay (.of s6)).stay (.of s7)
    have t67 := t6.stay (.of s7)
    have shp := row_shaped gr (by omega)
    have eqv := row_eqv gr
    have nlen : ∀ {te : TE} {σ : L2.St} {H : Hp}, EvD K te σ H r.d → EvD K (tCB (fun xs H Q => ∃ p ys, xs = [.ref p] ∧ (SqL K H p ys ∨ SqT K H p ys) ∧ (ys.length ≤ sizeLine → Q (.int ys.length) H)) (tCons (tCall (spRowsOf K 4) [] E0 (tCons te tNil)) tNil)) σ H (.int r.pre.length) := fun h => by
      refine e_is (e_lenL (ds := r.pre.map FRow.d) (fun p xs H Q h hq => ⟨p, xs, rfl, h, fun _ => hq⟩) (l_call (a_cons h a_nil) ⟨r, rfl, rfl, by omega, by omega⟩)) (by rw [List.length_map])
    refine q_no (K := K) (b := !PyData.eqv r.d r.d || (!PyData.eqv r.d r.d || (!decide (glueW r.words = glueW r.words) || !decide ((r.pre.length : Int) = r.pre.length)))) (t_or (t_test (e_neD (e_var rfl t67) (fun H8 s8 => e_var rfl (t57.stay (.of s8))) shp shp)) fun _ => t_or (t_test (e_neD (e_var rfl t7) (fun H8 s8 => e_var rfl (t57.stay (.of s8))) shp shp)) fun _ => t_or (t_test (e_op (txo (e_var rfl t7)) (txo (e_var rfl t67)) r_neS)) fun _ => t_test (e_op (nlen (e_var rfl t67)) (nlen (e_var rfl t57)) r_neI)) (by rw [eqv]; simp) fun H8 s8 => ?_
    exact k H8
end
end Mg

set_option Elab.async false
set_option linter.all false
set_option maxRecDepth 100000
set_option maxHeartbeats 4000000
namespace Mg
open PySem L2
theorem sqt_of {K : PySem.W.Frag} {a : Addr} {od : Option Addr} {its : Array Value} {n : Nat} {sl : Array (Option Value)} {xs : List V} (h : K.lookup a = some ⟨.type "tuple", od, .seq its n, sl⟩) (hz : its.size ≤ sizeLine) (hv : Vals xs its.toList) : ∀ H, SqT K H a xs := fun H => .inr ⟨_, its, n, h, rfl, rfl, hz, hv⟩
theorem kit_own {K : PySem.W.Frag} {t : Value} {C : Addr} (h1 : PySem.W.hasDictIn K C = true) (h2 : PySem.W.typeIn K (.ref C) = some (.type "type")) (h3 : PySem.W.subIn K t (.ref C) = some true) : PySem.W.kitCls K t (.ref C) = some true := by
  obtain ⟨cd, hc, _⟩ := PySem.W.any_some h1
  unfold PySem.W.kitCls
  have e : ((PySem.W.clsIn K C).isSome && PySem.W.typeIn K (.ref C) == some (.type "type")) = true := by
    rw [hc, h2]
    rfl
  dsimp only
  rw [if_pos e]
  exact h3
theorem kit_VE {K : PySem.W.Frag} {t : Value} (h : PySem.W.subIn K t (.type "ValueError") = some true) : PySem.W.kitCls K t (.type "ValueError") = some true := by
  unfold PySem.W.kitCls
  dsimp only
  rw [if_pos (by decide +kernel)]
  exact h
theorem kit_me {K : PySem.W.Frag} {C : Addr} : PySem.W.kitOne K (.ref C) (.ref C) = some true := by
  unfold PySem.W.kitOne
  rw [if_pos (by simp)]
theorem ne_ref {a b : Addr} (h : a ≠ b) : (Value.ref a == Value.ref b) = false := by
  simp [h]
theorem all_mk {P : Program} {w : World} {K : PySem.W.Frag} {h : Heap} {mg : Str → Option Value} {fa : Addr} {CR f0 f1 f2 f3 f4 f5 f6 f7 f8 f9 f10 f11 f12 f13 f14 f15 f16 f17 f18 f19 f20 f21 f22 f23 f24 f25 f26 f27 f28 f29 f30 f31 f32 f33 f34 m0 m1 m2 m3 m4 m5 m6 m7 m8 m9 m10 m11 m12 m13 fL aR : Addr} {t_LETTERS t_SIGNS t_MARKS t_BAD t_END t_MOST_LETTERS t_DEEPEST t_MOST_CELLS t_MOST_ITEMS t_LONGEST t_aR0 t_aR1 t_aR2 t_aR3 t_aR4 : Tok}
    {ocL kVL dcL pmL cdL ctL : Value} {odL anL : Option Addr} {slL : Array (Option Value)}
    {od_k_RESERVED : Option Addr} {n_k_RESERVED : Nat} {sl_k_RESERVED : Array (Option Value)}
    (X : K.In h) (G : h.Ns mainGlobals mg) (hfa : mg "law" = some (.ref fa))
    (gR : PySem.W.nsIn K mainGlobals "Reader" = some (some (.ref CR)))
    (z_len : PySem.W.nsIn K mainGlobals "len" = some none)
    (z_int : PySem.W.nsIn K mainGlobals "int" = some none)
    (z_abs : PySem.W.nsIn K mainGlobals "abs" = some none)
    (z_range : PySem.W.nsIn K mainGlobals "range" = some none)
    (z_isinstance : PySem.W.nsIn K mainGlobals "isinstance" = some none)
    (z_tuple : PySem.W.nsIn K mainGlobals "tuple" = some none)
    (z_list : PySem.W.nsIn K mainGlobals "list" = some none)
    (z_all : PySem.W.nsIn K mainGlobals "all" = some none)
    (z_max : PySem.W.nsIn K mainGlobals "max" = some none)
    (z_sum : PySem.W.nsIn K mainGlobals "sum" = some none)
    (z_enumerate : PySem.W.nsIn K mainGlobals "enumerate" = some none)
    (a0 : PySem.W.nsIn K mainGlobals "is_command" = some (some (.ref f0)))
    (d0 : ∃ fd, Fun K "is_command" "is_command" sIsCommand f0 fd)
    (k0 : PySem.W.keepIn K (.ref f0) = true)
    (a1 : PySem.W.nsIn K mainGlobals "is_symbol" = some (some (.ref f1)))
    (d1 : ∃ fd, Fun K "is_symbol" "is_symbol" sIsSymbol f1 fd)
    (k1 : PySem.W.keepIn K (.ref f1) = true)
    (a2 : PySem.W.nsIn K mainGlobals "tokens_of" = some (some (.ref f2)))
    (d2 : ∃ fd, Fun K "tokens_of" "tokens_of" sTokensOf f2 fd)
    (k2 : PySem.W.keepIn K (.ref f2) = true)
    (a3 : PySem.W.nsIn K mainGlobals "_token_at" = some (some (.ref f3)))
    (d3 : ∃ fd, Fun K "_token_at" "_token_at" sTokenAt f3 fd)
    (k3 : PySem.W.keepIn K (.ref f3) = true)
    (a4 : PySem.W.nsIn K mainGlobals "_command_at" = some (some (.ref f4)))
    (d4 : ∃ fd, Fun K "_command_at" "_command_at" sCommandAt f4 fd)
    (k4 : PySem.W.keepIn K (.ref f4) = true)
    (a5 : PySem.W.nsIn K mainGlobals "cell_stops" = some (some (.ref f5)))
    (d5 : ∃ fd, Fun K "cell_stops" "cell_stops" sCellStops f5 fd)
    (k5 : PySem.W.keepIn K (.ref f5) = true)
    (a6 : PySem.W.nsIn K mainGlobals "parse" = some (some (.ref f6)))
    (d6 : ∃ fd, Fun K "parse" "parse" sParse f6 fd)
    (k6 : PySem.W.keepIn K (.ref f6) = true)
    (a7 : PySem.W.nsIn K mainGlobals "check_depth" = some (some (.ref f7)))
    (d7 : ∃ fd, Fun K "check_depth" "check_depth" sCheckDepth f7 fd)
    (k7 : PySem.W.keepIn K (.ref f7) = true)
    (a8 : PySem.W.nsIn K mainGlobals "check_formula" = some (some (.ref f8)))
    (d8 : ∃ fd, Fun K "check_formula" "check_formula" sCheckFormula f8 fd)
    (k8 : PySem.W.keepIn K (.ref f8) = true)
    (a9 : PySem.W.nsIn K mainGlobals "rows_of" = some (some (.ref f9)))
    (d9 : ∃ fd, Fun K "rows_of" "rows_of" sRowsOf f9 fd)
    (k9 : PySem.W.keepIn K (.ref f9) = true)
    (a10 : PySem.W.nsIn K mainGlobals "rows_in" = some (some (.ref f10)))
    (d10 : ∃ fd, Fun K "rows_in" "rows_in" sRowsIn f10 fd)
    (k10 : PySem.W.keepIn K (.ref f10) = true)
    (a11 : PySem.W.nsIn K mainGlobals "nucleus_rows" = some (some (.ref f11)))
    (d11 : ∃ fd, Fun K "nucleus_rows" "nucleus_rows" sNucRows f11 fd)
    (k11 : PySem.W.keepIn K (.ref f11) = true)
    (a12 : PySem.W.nsIn K mainGlobals "depth_of" = some (some (.ref f12)))
    (d12 : ∃ fd, Fun K "depth_of" "depth_of" sDepthOf f12 fd)
    (k12 : PySem.W.keepIn K (.ref f12) = true)
    (a13 : PySem.W.nsIn K mainGlobals "text_of" = some (some (.ref f13)))
    (d13 : ∃ fd, Fun K "text_of" "text_of" sTextOf f13 fd)
    (k13 : PySem.W.keepIn K (.ref f13) = true)
    (a14 : PySem.W.nsIn K mainGlobals "row_words" = some (some (.ref f14)))
    (d14 : ∃ fd, Fun K "row_words" "row_words" sRowWords f14 fd)
    (k14 : PySem.W.keepIn K (.ref f14) = true)
    (a15 : PySem.W.nsIn K mainGlobals "nucleus_words" = some (some (.ref f15)))
    (d15 : ∃ fd, Fun K "nucleus_words" "nucleus_words" sNucWords f15 fd)
    (k15 : PySem.W.keepIn K (.ref f15) = true)
    (a16 : PySem.W.nsIn K mainGlobals "braced_words" = some (some (.ref f16)))
    (d16 : ∃ fd, Fun K "braced_words" "braced_words" sBraced f16 fd)
    (k16 : PySem.W.keepIn K (.ref f16) = true)
    (a17 : PySem.W.nsIn K mainGlobals "fence_words" = some (some (.ref f17)))
    (d17 : ∃ fd, Fun K "fence_words" "fence_words" sFenceW f17 fd)
    (k17 : PySem.W.keepIn K (.ref f17) = true)
    (a18 : PySem.W.nsIn K mainGlobals "grid_words" = some (some (.ref f18)))
    (d18 : ∃ fd, Fun K "grid_words" "grid_words" sGridW f18 fd)
    (k18 : PySem.W.keepIn K (.ref f18) = true)
    (a19 : PySem.W.nsIn K mainGlobals "_law_cell" = some (some (.ref f19)))
    (d19 : ∃ fd, Fun K "_law_cell" "_law_cell" sCell f19 fd)
    (k19 : PySem.W.keepIn K (.ref f19) = true)
    (a20 : PySem.W.nsIn K mainGlobals "_law_draws" = some (some (.ref f20)))
    (d20 : ∃ fd, Fun K "_law_draws" "_law_draws" sDraws f20 fd)
    (k20 : PySem.W.keepIn K (.ref f20) = true)
    (a21 : PySem.W.nsIn K mainGlobals "_law_stream" = some (some (.ref f21)))
    (d21 : ∃ fd, Fun K "_law_stream" "_law_stream" sStream f21 fd)
    (k21 : PySem.W.keepIn K (.ref f21) = true)
    (a22 : PySem.W.nsIn K mainGlobals "_law_next" = some (some (.ref f22)))
    (d22 : ∃ fd, Fun K "_law_next" "_law_next" sNext f22 fd)
    (k22 : PySem.W.keepIn K (.ref f22) = true)
    (a23 : PySem.W.nsIn K mainGlobals "_law_names" = some (some (.ref f23)))
    (d23 : ∃ fd, Fun K "_law_names" "_law_names" sNames f23 fd)
    (k23 : PySem.W.keepIn K (.ref f23) = true)
    (a24 : PySem.W.nsIn K mainGlobals "_law_row" = some (some (.ref f24)))
    (d24 : ∃ fd, Fun K "_law_row" "_law_row" sLRow f24 fd)
    (k24 : PySem.W.keepIn K (.ref f24) = true)
    (a25 : PySem.W.nsIn K mainGlobals "_law_nucleus" = some (some (.ref f25)))
    (d25 : ∃ fd, Fun K "_law_nucleus" "_law_nucleus" sLNuc f25 fd)
    (k25 : PySem.W.keepIn K (.ref f25) = true)
    (a26 : PySem.W.nsIn K mainGlobals "_law_item" = some (some (.ref f26)))
    (d26 : ∃ fd, Fun K "_law_item" "_law_item" sLItem f26 fd)
    (k26 : PySem.W.keepIn K (.ref f26) = true)
    (a27 : PySem.W.nsIn K mainGlobals "_law_formula" = some (some (.ref f27)))
    (d27 : ∃ fd, Fun K "_law_formula" "_law_formula" sFormula f27 fd)
    (k27 : PySem.W.keepIn K (.ref f27) = true)
    (a28 : PySem.W.nsIn K mainGlobals "_law_inner" = some (some (.ref f28)))
    (d28 : ∃ fd, Fun K "_law_inner" "_law_inner" sInner f28 fd)
    (k28 : PySem.W.keepIn K (.ref f28) = true)
    (a29 : PySem.W.nsIn K mainGlobals "_law_rows" = some (some (.ref f29)))
    (d29 : ∃ fd, Fun K "_law_rows" "_law_rows" sLRows f29 fd)
    (k29 : PySem.W.keepIn K (.ref f29) = true)
    (a30 : PySem.W.nsIn K mainGlobals "_law_pieces" = some (some (.ref f30)))
    (d30 : ∃ fd, Fun K "_law_pieces" "_law_pieces" sPieces f30 fd)
    (k30 : PySem.W.keepIn K (.ref f30) = true)
    (a31 : PySem.W.nsIn K mainGlobals "_law_glued" = some (some (.ref f31)))
    (d31 : ∃ fd, Fun K "_law_glued" "_law_glued" sGlued f31 fd)
    (k31 : PySem.W.keepIn K (.ref f31) = true)
    (a32 : PySem.W.nsIn K mainGlobals "_law_short" = some (some (.ref f32)))
    (d32 : ∃ fd, Fun K "_law_short" "_law_short" sShort f32 fd)
    (k32 : PySem.W.keepIn K (.ref f32) = true)
    (a33 : PySem.W.nsIn K mainGlobals "_law_lean" = some (some (.ref f33)))
    (d33 : ∃ fd, Fun K "_law_lean" "_law_lean" sLean f33 fd)
    (k33 : PySem.W.keepIn K (.ref f33) = true)
    (a34 : PySem.W.nsIn K mainGlobals "_law_fixed" = some (some (.ref f34)))
    (d34 : ∃ fd, Fun K "_law_fixed" "_law_fixed" sFixed f34 fd)
    (k34 : PySem.W.keepIn K (.ref f34) = true)
    (ma0 : PySem.W.findIn K (.ref CR) "__init__" = some (some (.ref m0)))
    (mi0 : PySem.W.isFn K (.ref m0) = true)
    (md0 : ∃ fd, Fun K "__init__" "Reader.__init__" sRInit m0 fd)
    (mk0 : PySem.W.keepIn K (.ref m0) = true)
    (ma1 : PySem.W.findIn K (.ref CR) "read" = some (some (.ref m1)))
    (mi1 : PySem.W.isFn K (.ref m1) = true)
    (md1 : ∃ fd, Fun K "read" "Reader.read" sRRead m1 fd)
    (mk1 : PySem.W.keepIn K (.ref m1) = true)
    (ma2 : PySem.W.findIn K (.ref CR) "_peek" = some (some (.ref m2)))
    (mi2 : PySem.W.isFn K (.ref m2) = true)
    (md2 : ∃ fd, Fun K "_peek" "Reader._peek" sPeek m2 fd)
    (mk2 : PySem.W.keepIn K (.ref m2) = true)
    (ma3 : PySem.W.findIn K (.ref CR) "_accept" = some (some (.ref m3)))
    (mi3 : PySem.W.isFn K (.ref m3) = true)
    (md3 : ∃ fd, Fun K "_accept" "Reader._accept" sAccept m3 fd)
    (mk3 : PySem.W.keepIn K (.ref m3) = true)
    (ma4 : PySem.W.findIn K (.ref CR) "_symbol" = some (some (.ref m4)))
    (mi4 : PySem.W.isFn K (.ref m4) = true)
    (md4 : ∃ fd, Fun K "_symbol" "Reader._symbol" sRSymbol m4 fd)
    (mk4 : PySem.W.keepIn K (.ref m4) = true)
    (ma5 : PySem.W.findIn K (.ref CR) "_row" = some (some (.ref m5)))
    (mi5 : PySem.W.isFn K (.ref m5) = true)
    (md5 : ∃ fd, Fun K "_row" "Reader._row" sRRow m5 fd)
    (mk5 : PySem.W.keepIn K (.ref m5) = true)
    (ma6 : PySem.W.findIn K (.ref CR) "_item" = some (some (.ref m6)))
    (mi6 : PySem.W.isFn K (.ref m6) = true)
    (md6 : ∃ fd, Fun K "_item" "Reader._item" sRItem m6 fd)
    (mk6 : PySem.W.keepIn K (.ref m6) = true)
    (ma7 : PySem.W.findIn K (.ref CR) "_nucleus" = some (some (.ref m7)))
    (mi7 : PySem.W.isFn K (.ref m7) = true)
    (md7 : ∃ fd, Fun K "_nucleus" "Reader._nucleus" sRNucleus m7 fd)
    (mk7 : PySem.W.keepIn K (.ref m7) = true)
    (ma8 : PySem.W.findIn K (.ref CR) "_braced" = some (some (.ref m8)))
    (mi8 : PySem.W.isFn K (.ref m8) = true)
    (md8 : ∃ fd, Fun K "_braced" "Reader._braced" sRBraced m8 fd)
    (mk8 : PySem.W.keepIn K (.ref m8) = true)
    (ma9 : PySem.W.findIn K (.ref CR) "_argument" = some (some (.ref m9)))
    (mi9 : PySem.W.isFn K (.ref m9) = true)
    (md9 : ∃ fd, Fun K "_argument" "Reader._argument" sArgument m9 fd)
    (mk9 : PySem.W.keepIn K (.ref m9) = true)
    (ma10 : PySem.W.findIn K (.ref CR) "_fence" = some (some (.ref m10)))
    (mi10 : PySem.W.isFn K (.ref m10) = true)
    (md10 : ∃ fd, Fun K "_fence" "Reader._fence" sRFence m10 fd)
    (mk10 : PySem.W.keepIn K (.ref m10) = true)
    (ma11 : PySem.W.findIn K (.ref CR) "_delimiter" = some (some (.ref m11)))
    (mi11 : PySem.W.isFn K (.ref m11) = true)
    (md11 : ∃ fd, Fun K "_delimiter" "Reader._delimiter" sDelimiter m11 fd)
    (mk11 : PySem.W.keepIn K (.ref m11) = true)
    (ma12 : PySem.W.findIn K (.ref CR) "_grid" = some (some (.ref m12)))
    (mi12 : PySem.W.isFn K (.ref m12) = true)
    (md12 : ∃ fd, Fun K "_grid" "Reader._grid" sRGrid m12 fd)
    (mk12 : PySem.W.keepIn K (.ref m12) = true)
    (ma13 : PySem.W.findIn K (.ref CR) "_cells" = some (some (.ref m13)))
    (mi13 : PySem.W.isFn K (.ref m13) = true)
    (md13 : ∃ fd, Fun K "_cells" "Reader._cells" sRCells m13 fd)
    (mk13 : PySem.W.keepIn K (.ref m13) = true)
    (aL : PySem.W.nsIn K mainGlobals "law" = some (some (.ref fL)))
    (lL : K.lookup fL = some ⟨ocL, odL, .func (PySem.W.fnOf "law" "law" (defArgs sLaw) (defBody sLaw) (defScope sLaw) .none kVL dcL pmL anL cdL ctL), slL⟩)
    (cL : PySem.W.codeIn K cdL "law" = true)
    (kL : PySem.W.keepIn K (.ref fL) = true)
    (rpg : PySem.W.plainGet K CR Str.empty = true)
    (rhd : PySem.W.hasDictIn K CR = true)
    (rpo : PySem.W.plainOver K CR = true)
    (rsa : PySem.W.findIn K (.ref CR) "__setattr__" = some (some (.builtin "object.__setattr__")))
    (rmk : PySem.W.makesIn K CR = true)
    (rk : PySem.W.keepIn K (.ref CR) = true)
    (rn__tokens : PySem.W.findIn K (.ref CR) "_tokens" = some none)
    (rn__at : PySem.W.findIn K (.ref CR) "_at" = some none)
    (c_LETTERS : PySem.W.nsIn K mainGlobals "LETTERS" = some (some (.str cLETTERS t_LETTERS)))
    (c_SIGNS : PySem.W.nsIn K mainGlobals "SIGNS" = some (some (.str cSIGNS t_SIGNS)))
    (c_MARKS : PySem.W.nsIn K mainGlobals "MARKS" = some (some (.str "{}^_&~" t_MARKS)))
    (c_BAD : PySem.W.nsIn K mainGlobals "BAD" = some (some (.str "bad" t_BAD)))
    (c_END : PySem.W.nsIn K mainGlobals "END" = some (some (.str "end" t_END)))
    (c_MOST_LETTERS : PySem.W.nsIn K mainGlobals "MOST_LETTERS" = some (some (.int 8 t_MOST_LETTERS)))
    (c_DEEPEST : PySem.W.nsIn K mainGlobals "DEEPEST" = some (some (.int 7 t_DEEPEST)))
    (c_MOST_CELLS : PySem.W.nsIn K mainGlobals "MOST_CELLS" = some (some (.int 6 t_MOST_CELLS)))
    (c_MOST_ITEMS : PySem.W.nsIn K mainGlobals "MOST_ITEMS" = some (some (.int 80 t_MOST_ITEMS)))
    (c_LONGEST : PySem.W.nsIn K mainGlobals "LONGEST" = some (some (.int 400 t_LONGEST)))
    (c_RESERVED : PySem.W.nsIn K mainGlobals "RESERVED" = some (some (.ref aR)))
    (k_RESERVED : K.lookup aR = some ⟨.type "tuple", od_k_RESERVED, .seq #[.str "@frac" t_aR0, .str "@root" t_aR1, .str "@left" t_aR2, .str "@right" t_aR3, .str "@grid" t_aR4] n_k_RESERVED, sl_k_RESERVED⟩)
    : ∃ fd : FuncData, (∀ (s : Shared) (v : Value), BindsTo s fd ⟨[v], []⟩ [("script", v)]) ∧ ∀ base : Heap, K.In base → base.Ns mainGlobals mg → FnOk P w K mg base CX0 32 fa fd ["script"] (spLaw K) := by
  have e := hfa.symm.trans (PySem.W.mg_of X G aL)
  cases e
  obtain ⟨fd0, F0⟩ := d0
  obtain ⟨fd1, F1⟩ := d1
  obtain ⟨fd2, F2⟩ := d2
  obtain ⟨fd3, F3⟩ := d3
  obtain ⟨fd4, F4⟩ := d4
  obtain ⟨fd5, F5⟩ := d5
  obtain ⟨fd6, F6⟩ := d6
  obtain ⟨fd7, F7⟩ := d7
  obtain ⟨fd8, F8⟩ := d8
  obtain ⟨fd9, F9⟩ := d9
  obtain ⟨fd10, F10⟩ := d10
  obtain ⟨fd11, F11⟩ := d11
  obtain ⟨fd12, F12⟩ := d12
  obtain ⟨fd13, F13⟩ := d13
  obtain ⟨fd14, F14⟩ := d14
  obtain ⟨fd15, F15⟩ := d15
  obtain ⟨fd16, F16⟩ := d16
  obtain ⟨fd17, F17⟩ := d17
  obtain ⟨fd18, F18⟩ := d18
  obtain ⟨fd19, F19⟩ := d19
  obtain ⟨fd20, F20⟩ := d20
  obtain ⟨fd21, F21⟩ := d21
  obtain ⟨fd22, F22⟩ := d22
  obtain ⟨fd23, F23⟩ := d23
  obtain ⟨fd24, F24⟩ := d24
  obtain ⟨fd25, F25⟩ := d25
  obtain ⟨fd26, F26⟩ := d26
  obtain ⟨fd27, F27⟩ := d27
  obtain ⟨fd28, F28⟩ := d28
  obtain ⟨fd29, F29⟩ := d29
  obtain ⟨fd30, F30⟩ := d30
  obtain ⟨fd31, F31⟩ := d31
  obtain ⟨fd32, F32⟩ := d32
  obtain ⟨fd33, F33⟩ := d33
  obtain ⟨fd34, F34⟩ := d34
  obtain ⟨fm0, M0⟩ := md0
  obtain ⟨fm1, M1⟩ := md1
  obtain ⟨fm2, M2⟩ := md2
  obtain ⟨fm3, M3⟩ := md3
  obtain ⟨fm4, M4⟩ := md4
  obtain ⟨fm5, M5⟩ := md5
  obtain ⟨fm6, M6⟩ := md6
  obtain ⟨fm7, M7⟩ := md7
  obtain ⟨fm8, M8⟩ := md8
  obtain ⟨fm9, M9⟩ := md9
  obtain ⟨fm10, M10⟩ := md10
  obtain ⟨fm11, M11⟩ := md11
  obtain ⟨fm12, M12⟩ := md12
  obtain ⟨fm13, M13⟩ := md13
  have b0 : Binds K _ ["word"] [] := F0.binds (ps := ["word"]) fun _ _ _ _ _ _ us hl => match us, hl with | [_], _ => rfl
  have b1 : Binds K _ ["word"] [] := F1.binds (ps := ["word"]) fun _ _ _ _ _ _ us hl => match us, hl with | [_], _ => rfl
  have b2 : Binds K _ ["text"] [] := F2.binds (ps := ["text"]) fun _ _ _ _ _ _ us hl => match us, hl with | [_], _ => rfl
  have b3 : Binds K _ ["text", "at"] [] := F3.binds (ps := ["text", "at"]) fun _ _ _ _ _ _ us hl => match us, hl with | [_, _], _ => rfl
  have b4 : Binds K _ ["text", "at"] [] := F4.binds (ps := ["text", "at"]) fun _ _ _ _ _ _ us hl => match us, hl with | [_, _], _ => rfl
  have b5 : Binds K _ ["count", "many", "ends"] [] := F5.binds (ps := ["count", "many", "ends"]) fun _ _ _ _ _ _ us hl => match us, hl with | [_, _, _], _ => rfl
  have b6 : Binds K _ ["text"] [] := F6.binds (ps := ["text"]) fun _ _ _ _ _ _ us hl => match us, hl with | [_], _ => rfl
  have b7 : Binds K _ ["depth"] [] := F7.binds (ps := ["depth"]) fun _ _ _ _ _ _ us hl => match us, hl with | [_], _ => rfl
  have b8 : Binds K _ ["formula"] [] := F8.binds (ps := ["formula"]) fun _ _ _ _ _ _ us hl => match us, hl with | [_], _ => rfl
  have b9 : Binds K _ ["formula"] [] := F9.binds (ps := ["formula"]) fun _ _ _ _ _ _ us hl => match us, hl with | [_], _ => rfl
  have b10 : Binds K _ ["item"] [] := F10.binds (ps := ["item"]) fun _ _ _ _ _ _ us hl => match us, hl with | [_], _ => rfl
  have b11 : Binds K _ ["nucleus"] [] := F11.binds (ps := ["nucleus"]) fun _ _ _ _ _ _ us hl => match us, hl with | [_], _ => rfl
  have b12 : Binds K _ ["row"] [] := F12.binds (ps := ["row"]) fun _ _ _ _ _ _ us hl => match us, hl with | [_], _ => rfl
  have b13 : Binds K _ ["formula"] [] := F13.binds (ps := ["formula"]) fun _ _ _ _ _ _ us hl => match us, hl with | [_], _ => rfl
  have b14 : Binds K _ ["row"] [] := F14.binds (ps := ["row"]) fun _ _ _ _ _ _ us hl => match us, hl with | [_], _ => rfl
  have b15 : Binds K _ ["nucleus"] [] := F15.binds (ps := ["nucleus"]) fun _ _ _ _ _ _ us hl => match us, hl with | [_], _ => rfl
  have b16 : Binds K _ ["row"] [] := F16.binds (ps := ["row"]) fun _ _ _ _ _ _ us hl => match us, hl with | [_], _ => rfl
  have b17 : Binds K _ ["opening", "closing", "row"] [] := F17.binds (ps := ["opening", "closing", "row"]) fun _ _ _ _ _ _ us hl => match us, hl with | [_, _, _], _ => rfl
  have b18 : Binds K _ ["rows"] [] := F18.binds (ps := ["rows"]) fun _ _ _ _ _ _ us hl => match us, hl with | [_], _ => rfl
  have b19 : Binds K _ ["script", "k"] [] := F19.binds (ps := ["script", "k"]) fun _ _ _ _ _ _ us hl => match us, hl with | [_, _], _ => rfl
  have b20 : Binds K _ ["cell", "count"] [] := F20.binds (ps := ["cell", "count"]) fun _ _ _ _ _ _ us hl => match us, hl with | [_, _], _ => rfl
  have b21 : Binds K _ ["script", "first", "count"] [] := F21.binds (ps := ["script", "first", "count"]) fun _ _ _ _ _ _ us hl => match us, hl with | [_, _, _], _ => rfl
  have b22 : Binds K _ ["stream", "many"] [] := F22.binds (ps := ["stream", "many"]) fun _ _ _ _ _ _ us hl => match us, hl with | [_, _], _ => rfl
  have b23 : Binds K _ [] [] := F23.binds (ps := []) fun _ _ _ _ _ _ us hl => match us, hl with | [], _ => rfl
  have b24 : Binds K _ ["stream", "depth", "most"] [] := F24.binds (ps := ["stream", "depth", "most"]) fun _ _ _ _ _ _ us hl => match us, hl with | [_, _, _], _ => rfl
  have b25 : Binds K _ ["stream", "depth"] [] := F25.binds (ps := ["stream", "depth"]) fun _ _ _ _ _ _ us hl => match us, hl with | [_, _], _ => rfl
  have b26 : Binds K _ ["stream", "depth"] [] := F26.binds (ps := ["stream", "depth"]) fun _ _ _ _ _ _ us hl => match us, hl with | [_, _], _ => rfl
  have b27 : Binds K _ ["stream"] [] := F27.binds (ps := ["stream"]) fun _ _ _ _ _ _ us hl => match us, hl with | [_], _ => rfl
  have b28 : Binds K _ ["item"] [] := F28.binds (ps := ["item"]) fun _ _ _ _ _ _ us hl => match us, hl with | [_], _ => rfl
  have b29 : Binds K _ ["formula"] [] := F29.binds (ps := ["formula"]) fun _ _ _ _ _ _ us hl => match us, hl with | [_], _ => rfl
  have b30 : Binds K _ ["row"] [] := F30.binds (ps := ["row"]) fun _ _ _ _ _ _ us hl => match us, hl with | [_], _ => rfl
  have b31 : Binds K _ ["pieces"] [] := F31.binds (ps := ["pieces"]) fun _ _ _ _ _ _ us hl => match us, hl with | [_], _ => rfl
  have b32 : Binds K _ ["row"] [] := F32.binds (ps := ["row"]) fun _ _ _ _ _ _ us hl => match us, hl with | [_], _ => rfl
  have b33 : Binds K _ ["row"] [] := F33.binds (ps := ["row"]) fun _ _ _ _ _ _ us hl => match us, hl with | [_], _ => rfl
  have b34 : Binds K _ [] [] := F34.binds (ps := []) fun _ _ _ _ _ _ us hl => match us, hl with | [], _ => rfl
  have mb0 : Binds K _ ["self", "text"] [] := M0.binds (ps := ["self", "text"]) fun _ _ _ _ _ _ us hl => match us, hl with | [_, _], _ => rfl
  have mb1 : Binds K _ ["self"] [] := M1.binds (ps := ["self"]) fun _ _ _ _ _ _ us hl => match us, hl with | [_], _ => rfl
  have mb2 : Binds K _ ["self"] [] := M2.binds (ps := ["self"]) fun _ _ _ _ _ _ us hl => match us, hl with | [_], _ => rfl
  have mb3 : Binds K _ ["self", "wanted"] [] := M3.binds (ps := ["self", "wanted"]) fun _ _ _ _ _ _ us hl => match us, hl with | [_, _], _ => rfl
  have mb4 : Binds K _ ["self"] [] := M4.binds (ps := ["self"]) fun _ _ _ _ _ _ us hl => match us, hl with | [_], _ => rfl
  have mb5 : Binds K _ ["self", "depth", "stops"] [] := M5.binds (ps := ["self", "depth", "stops"]) fun _ _ _ _ _ _ us hl => match us, hl with | [_, _, _], _ => rfl
  have mb6 : Binds K _ ["self", "depth"] [] := M6.binds (ps := ["self", "depth"]) fun _ _ _ _ _ _ us hl => match us, hl with | [_, _], _ => rfl
  have mb7 : Binds K _ ["self", "depth"] [] := M7.binds (ps := ["self", "depth"]) fun _ _ _ _ _ _ us hl => match us, hl with | [_, _], _ => rfl
  have mb8 : Binds K _ ["self", "depth"] [] := M8.binds (ps := ["self", "depth"]) fun _ _ _ _ _ _ us hl => match us, hl with | [_, _], _ => rfl
  have mb9 : Binds K _ ["self", "depth"] [] := M9.binds (ps := ["self", "depth"]) fun _ _ _ _ _ _ us hl => match us, hl with | [_, _], _ => rfl
  have mb10 : Binds K _ ["self", "depth"] [] := M10.binds (ps := ["self", "depth"]) fun _ _ _ _ _ _ us hl => match us, hl with | [_, _], _ => rfl
  have mb11 : Binds K _ ["self"] [] := M11.binds (ps := ["self"]) fun _ _ _ _ _ _ us hl => match us, hl with | [_], _ => rfl
  have mb12 : Binds K _ ["self", "depth"] [] := M12.binds (ps := ["self", "depth"]) fun _ _ _ _ _ _ us hl => match us, hl with | [_, _], _ => rfl
  have mb13 : Binds K _ ["self", "depth", "many", "ends"] [] := M13.binds (ps := ["self", "depth", "many", "ends"]) fun _ _ _ _ _ _ us hl => match us, hl with | [_, _, _, _], _ => rfl
  have TB : TxtB mg := ⟨(PySem.W.mg_none_of X G z_len), (PySem.W.mg_none_of X G z_int), (PySem.W.mg_none_of X G z_abs), (PySem.W.mg_none_of X G z_range), (PySem.W.mg_none_of X G z_isinstance), (PySem.W.mg_none_of X G z_tuple), (PySem.W.mg_none_of X G z_list)⟩
  have TS : TxtS K mg aR := ⟨(PySem.W.mg_none_of X G z_len), (PySem.W.mg_none_of X G z_all), ⟨_, (PySem.W.mg_of X G c_LETTERS)⟩, ⟨_, (PySem.W.mg_of X G c_SIGNS)⟩, ⟨_, (PySem.W.mg_of X G c_MOST_LETTERS)⟩, (PySem.W.mg_of X G c_RESERVED), sqt_of k_RESERVED (show 5 ≤ sizeLine by decide) ((.cons ⟨_, rfl⟩ (.cons ⟨_, rfl⟩ (.cons ⟨_, rfl⟩ (.cons ⟨_, rfl⟩ (.cons ⟨_, rfl⟩ .nil))))))⟩
  refine ⟨PySem.W.fnOf "law" "law" (defArgs sLaw) (defBody sLaw) (defScope sLaw) .none kVL dcL pmL anL cdL ctL, fun s v => .of_eq rfl, fun base _ _ => ?_⟩
  have q_cell : Cal P w K mg base _ _ "_law_cell" _ _ := ⟨f19, fd19, ok_cell F19 TB, PySem.W.mg_of X G a19, k19, b19⟩
  have q_draws : Cal P w K mg base _ _ "_law_draws" _ _ := ⟨f20, fd20, ok_draws F20 TB, PySem.W.mg_of X G a20, k20, b20⟩
  have q_stream : Cal P w K mg base _ _ "_law_stream" _ _ := ⟨f21, fd21, ok_stream F21 TB q_cell q_draws, PySem.W.mg_of X G a21, k21, b21⟩
  have q_next : Cal P w K mg base _ _ "_law_next" _ _ := ⟨f22, fd22, ok_next F22 TB, PySem.W.mg_of X G a22, k22, b22⟩
  have q_names : Cal P w K mg base _ _ "_law_names" _ _ := ⟨f23, fd23, ok_names F23, PySem.W.mg_of X G a23, k23, b23⟩
  have q_command : Cal P w K mg base _ _ "is_command" _ _ := ⟨f0, fd0, ok_is_command F0 TS, PySem.W.mg_of X G a0, k0, b0⟩
  have q_symbol : Cal P w K mg base _ _ "is_symbol" _ _ := ⟨f1, fd1, ok_is_symbol F1 TS q_command, PySem.W.mg_of X G a1, k1, b1⟩
  have TSrc : TxtSrc mg := ⟨(PySem.W.mg_none_of X G z_len), (PySem.W.mg_none_of X G z_max), (PySem.W.mg_none_of X G z_sum), (PySem.W.mg_none_of X G z_enumerate), ⟨_, (PySem.W.mg_of X G c_LETTERS)⟩, ⟨_, (PySem.W.mg_of X G c_DEEPEST)⟩, ⟨_, (PySem.W.mg_of X G c_MOST_ITEMS)⟩, ⟨_, (PySem.W.mg_of X G c_LONGEST)⟩⟩
  have q_nucrows : Cal P w K mg base _ _ "nucleus_rows" _ _ := ⟨f11, fd11, ok_nucrows F11, PySem.W.mg_of X G a11, k11, b11⟩
  have q_rowsin : Cal P w K mg base _ _ "rows_in" _ _ := ⟨f10, fd10, ok_rowsin F10 q_nucrows, PySem.W.mg_of X G a10, k10, b10⟩
  have q_rowsof := fun n => ok_rowsof (P := P) (w := w) (base := base) F9 q_rowsin (PySem.W.mg_of X G a9) k9 b9 n
  have q_words := fun n => words_ok (P := P) (w := w) (base := base) F14 F16 F15 F17 F18 ⟨PySem.W.mg_of X G a14, k14, b14⟩ ⟨PySem.W.mg_of X G a16, k16, b16⟩ ⟨PySem.W.mg_of X G a15, k15, b15⟩ ⟨PySem.W.mg_of X G a17, k17, b17⟩ ⟨PySem.W.mg_of X G a18, k18, b18⟩ n
  have q_depth := fun n => ok_depthof (P := P) (w := w) (base := base) F12 TSrc q_rowsin (PySem.W.mg_of X G a12) k12 b12 n
  have TT : TxtTok mg := ⟨(PySem.W.mg_none_of X G z_len), ⟨_, (PySem.W.mg_of X G c_LETTERS)⟩, ⟨_, (PySem.W.mg_of X G c_SIGNS)⟩, ⟨_, (PySem.W.mg_of X G c_MARKS)⟩, ⟨_, (PySem.W.mg_of X G c_BAD)⟩, ⟨_, (PySem.W.mg_of X G c_END)⟩⟩
  have q_cmdat : Cal P w K mg base _ _ "_command_at" _ _ := ⟨f4, fd4, ok_cmdat F4 TT q_command, PySem.W.mg_of X G a4, k4, b4⟩
  have q_tokat : Cal P w K mg base _ _ "_token_at" _ _ := ⟨f3, fd3, ok_tokat F3 TT q_cmdat, PySem.W.mg_of X G a3, k3, b3⟩
  have q_tokens : Cal P w K mg base _ _ "tokens_of" _ _ := ⟨f2, fd2, ok_tokens F2 TT q_tokat, PySem.W.mg_of X G a2, k2, b2⟩
  have TR : TxtRd K mg CR := { cl := ⟨rpg, rhd, rpo, rsa⟩, nT := rn__tokens, nA := rn__at, b_len := (PySem.W.mg_none_of X G z_len), b_tuple := (PySem.W.mg_none_of X G z_tuple), c_END := ⟨_, (PySem.W.mg_of X G c_END)⟩, c_DEEPEST := ⟨_, (PySem.W.mg_of X G c_DEEPEST)⟩, c_MOST_CELLS := ⟨_, (PySem.W.mg_of X G c_MOST_CELLS)⟩ }
  have q_cdepth0 : Cal P w K mg base _ _ "check_depth" _ _ := ⟨f7, fd7, ok_checkdepth0 F7 TR, PySem.W.mg_of X G a7, k7, b7⟩
  have q_cstops : Cal P w K mg base _ _ "cell_stops" _ _ := ⟨f5, fd5, ok_cellstops F5 TR, PySem.W.mg_of X G a5, k5, b5⟩
  have q_peek : CalM P w K mg base CX0 _ CR "_peek" _ _ := ⟨m2, fm2, ok_peek M2 TR, ⟨ma2, mi2, mk2⟩, mb2⟩
  have q_accept : CalM P w K mg base CX0 _ CR "_accept" _ _ := ⟨m3, fm3, ok_accept M3 TR, ⟨ma3, mi3, mk3⟩, mb3⟩
  have q_rsymbol : CalM P w K mg base CX0 _ CR "_symbol" _ _ := ⟨m4, fm4, ok_rsymbol M4 TR q_symbol, ⟨ma4, mi4, mk4⟩, mb4⟩
  have q_delim : CalM P w K mg base CX0 _ CR "_delimiter" _ _ := ⟨m11, fm11, ok_delimiter M11 TR q_rsymbol, ⟨ma11, mi11, mk11⟩, mb11⟩
  have q_read0 := read_ok (P := P) (w := w) (base := base) TR q_peek q_accept q_rsymbol q_delim q_cdepth0 q_cstops M5 M6 M7 M8 M9 M10 M12 M13 ⟨⟨ma5, mi5, mk5⟩, mb5⟩ ⟨⟨ma6, mi6, mk6⟩, mb6⟩ ⟨⟨ma7, mi7, mk7⟩, mb7⟩ ⟨⟨ma8, mi8, mk8⟩, mb8⟩ ⟨⟨ma9, mi9, mk9⟩, mb9⟩ ⟨⟨ma10, mi10, mk10⟩, mb10⟩ ⟨⟨ma12, mi12, mk12⟩, mb12⟩ ⟨⟨ma13, mi13, mk13⟩, mb13⟩ 4
  have q_read : CalM P w K mg base CX0 _ CR "read" _ _ := ⟨m1, fm1, ok_rread (n := 4) M1 TR q_read0, ⟨ma1, mi1, mk1⟩, mb1⟩
  have MR : MkR P w K mg base CR := ⟨m0, fm0, ok_rinit M0 TR q_tokens, ⟨rmk, ma0, mi0, rk⟩, mb0⟩
  have TP : TxtP P w K mg base CR := { TSrc with cl := TR.cl, g_Reader := (PySem.W.mg_of X G gR), mkR := MR }
  have q_text : Cal P w K mg base _ _ "text_of" _ _ := ⟨f13, fd13, ok_textof (n := 4) F13 TSrc (q_words 4).row, PySem.W.mg_of X G a13, k13, b13⟩
  have q_check0 : Cal P w K mg base _ _ "check_formula" _ _ := ⟨f8, fd8, ok_checkformula0 (n := 4) F8 TSrc (by decide) q_cdepth0 (q_depth 4) (q_rowsof 4) q_text, PySem.W.mg_of X G a8, k8, b8⟩
  have q_parse : Cal P w K mg base _ _ "parse" _ _ := ⟨f6, fd6, ok_parse (n := 4) F6 TP (by decide) q_read q_check0, PySem.W.mg_of X G a6, k6, b6⟩
  have q_drawn := draw_ok (P := P) (w := w) (base := base) F24 F25 F26 TB q_next q_names ⟨PySem.W.mg_of X G a24, k24, b24⟩ ⟨PySem.W.mg_of X G a25, k25, b25⟩ ⟨PySem.W.mg_of X G a26, k26, b26⟩ 3 (by decide)
  have q_lrow : Cal P w K mg base _ _ "_law_row" _ _ := ⟨f24, fd24, ok_lrow1 (n := 3) F24 TB q_next q_drawn.item, PySem.W.mg_of X G a24, k24, b24⟩
  have q_formula : Cal P w K mg base _ _ "_law_formula" _ _ := ⟨f27, fd27, ok_formula F27 q_lrow, PySem.W.mg_of X G a27, k27, b27⟩
  have q_inner : Cal P w K mg base _ _ "_law_inner" _ _ := ⟨f28, fd28, ok_inner F28 TB, PySem.W.mg_of X G a28, k28, b28⟩
  have q_lrows := ok_lrows (P := P) (w := w) (base := base) F29 q_inner (PySem.W.mg_of X G a29) k29 b29 4
  have q_pieces := fun n => ok_pieces (P := P) (w := w) (base := base) F30 TB (PySem.W.mg_of X G a30) k30 b30 n
  have q_glued : Cal P w K mg base _ _ "_law_glued" _ _ := ⟨f31, fd31, ok_glued F31 TB, PySem.W.mg_of X G a31, k31, b31⟩
  have q_short := short_ok (P := P) (w := w) (base := base) F32 F33 TB q_pieces ⟨PySem.W.mg_of X G a32, k32, b32⟩ ⟨PySem.W.mg_of X G a33, k33, b33⟩ 4
  have q_fixed : Cal P w K mg base _ _ "_law_fixed" _ _ := ⟨f34, fd34, ok_fixed F34 q_parse q_text, PySem.W.mg_of X G a34, k34, b34⟩
  have FL := fun_mk (st := sLaw) lL cL kL
  exact ok_law FL { TB with b_sum := (PySem.W.mg_none_of X G z_sum), fixed := q_fixed, stream := q_stream, formula := q_formula, short := q_short, pieces := q_pieces 4, glued := q_glued, lrows := q_lrows, parse := q_parse, textof := q_text, rowsof := q_rowsof 4 }
theorem walk {l : PySem.W.OpenLaw} {q : Program} {loose : List Str} {XP : (Str → Option Value) → Heap → Prop} {YP : World → Heap → Prop} {d : DefRec} {K : Params → PySem.W.Frag} (hn : l.most = some 63) (hdf : d.params.defaults = [])
    (hY : ∀ (w : World) (h : Heap), YP w h → (K w.params).In h)
    (F : ∀ (w : World) (mg : Str → Option Value) (fa : Addr) (h : Heap), (K w.params).In h → h.Ns mainGlobals mg → mg d.name = some (.ref fa) →
      ∃ fd : FuncData, (∀ (s : Shared) (u : Value), BindsTo s fd ⟨[u], []⟩ [("script", u)]) ∧ ∀ base : Heap, (K w.params).In base → base.Ns mainGlobals mg → FnOk l.prog w (K w.params) mg base CX0 32 fa fd ["script"] (spLaw (K w.params))) :
    PySem.W.WalkO q loose XP YP l.row.toRowW d [] (fun f vs => PySem.call f vs) :=
  L2.walk_of (n := 63) (k := 32) (x := "script") (CX := fun _ => CX0) (sp := fun w => spLaw (K w.params)) hn (by decide) hdf ⟨rfl, by decide, by decide⟩ hY F (fun _ _ a ns hl _ hS => ⟨a, ns, rfl, hS, fun _ => rfl⟩) fun _ _ _ _ _ z => z
end Mg

set_option Elab.async false
open PySem PySem.W PyProof.Rows
set_option maxRecDepth 100000 in
set_option maxHeartbeats 0 in
theorem PySem.Challenge.cw_mathgalley_k03_texts_read_back_holds : PySem.Challenge.rw_mathgalley_k03_texts_read_back.Holds := by
  w_on; o_law; k_head; (case hw => w_witness2)
  k_fill
  refine Mg.walk (l := PySem.Challenge.rw_mathgalley_k03_texts_read_back) rfl rfl (fun w h Y => PySem.W.kIn_of Y) ?F
  case F =>
    intro w mg fa h KX G hmg
    refine' Mg.all_mk KX G hmg ?gR ?z_len ?z_int ?z_abs ?z_range ?z_isinstance ?z_tuple ?z_list ?z_all ?z_max ?z_sum ?z_enumerate ?a0 ?d0 ?k0 ?a1 ?d1 ?k1 ?a2 ?d2 ?k2 ?a3 ?d3 ?k3 ?a4 ?d4 ?k4 ?a5 ?d5 ?k5 ?a6 ?d6 ?k6 ?a7 ?d7 ?k7 ?a8 ?d8 ?k8 ?a9 ?d9 ?k9 ?a10 ?d10 ?k10 ?a11 ?d11 ?k11 ?a12 ?d12 ?k12 ?a13 ?d13 ?k13 ?a14 ?d14 ?k14 ?a15 ?d15 ?k15 ?a16 ?d16 ?k16 ?a17 ?d17 ?k17 ?a18 ?d18 ?k18 ?a19 ?d19 ?k19 ?a20 ?d20 ?k20 ?a21 ?d21 ?k21 ?a22 ?d22 ?k22 ?a23 ?d23 ?k23 ?a24 ?d24 ?k24 ?a25 ?d25 ?k25 ?a26 ?d26 ?k26 ?a27 ?d27 ?k27 ?a28 ?d28 ?k28 ?a29 ?d29 ?k29 ?a30 ?d30 ?k30 ?a31 ?d31 ?k31 ?a32 ?d32 ?k32 ?a33 ?d33 ?k33 ?a34 ?d34 ?k34 ?ma0 ?mi0 ?md0 ?mk0 ?ma1 ?mi1 ?md1 ?mk1 ?ma2 ?mi2 ?md2 ?mk2 ?ma3 ?mi3 ?md3 ?mk3 ?ma4 ?mi4 ?md4 ?mk4 ?ma5 ?mi5 ?md5 ?mk5 ?ma6 ?mi6 ?md6 ?mk6 ?ma7 ?mi7 ?md7 ?mk7 ?ma8 ?mi8 ?md8 ?mk8 ?ma9 ?mi9 ?md9 ?mk9 ?ma10 ?mi10 ?md10 ?mk10 ?ma11 ?mi11 ?md11 ?mk11 ?ma12 ?mi12 ?md12 ?mk12 ?ma13 ?mi13 ?md13 ?mk13 ?aL ?lL ?cL ?kL ?rpg ?rhd ?rpo ?rsa ?rmk ?rk ?rn__tokens ?rn__at ?c_LETTERS ?c_SIGNS ?c_MARKS ?c_BAD ?c_END ?c_MOST_LETTERS ?c_DEEPEST ?c_MOST_CELLS ?c_MOST_ITEMS ?c_LONGEST ?c_RESERVED ?k_RESERVED
    (case gR => k_is)
    (case z_len => k_is)
    (case z_int => k_is)
    (case z_abs => k_is)
    (case z_range => k_is)
    (case z_isinstance => k_is)
    (case z_tuple => k_is)
    (case z_list => k_is)
    (case z_all => k_is)
    (case z_max => k_is)
    (case z_sum => k_is)
    (case z_enumerate => k_is)
    (case a0 => k_is)
    (case d0 => (refine' ⟨_, L2.fun_mk (st := Mg.sIsCommand) ?l ?c ?k⟩; (case l => k_is); (case c => k_is); (case k => k_is)))
    (case k0 => k_is)
    (case a1 => k_is)
    (case d1 => (refine' ⟨_, L2.fun_mk (st := Mg.sIsSymbol) ?l ?c ?k⟩; (case l => k_is); (case c => k_is); (case k => k_is)))
    (case k1 => k_is)
    (case a2 => k_is)
    (case d2 => (refine' ⟨_, L2.fun_mk (st := Mg.sTokensOf) ?l ?c ?k⟩; (case l => k_is); (case c => k_is); (case k => k_is)))
    (case k2 => k_is)
    (case a3 => k_is)
    (case d3 => (refine' ⟨_, L2.fun_mk (st := Mg.sTokenAt) ?l ?c ?k⟩; (case l => k_is); (case c => k_is); (case k => k_is)))
    (case k3 => k_is)
    (case a4 => k_is)
    (case d4 => (refine' ⟨_, L2.fun_mk (st := Mg.sCommandAt) ?l ?c ?k⟩; (case l => k_is); (case c => k_is); (case k => k_is)))
    (case k4 => k_is)
    (case a5 => k_is)
    (case d5 => (refine' ⟨_, L2.fun_mk (st := Mg.sCellStops) ?l ?c ?k⟩; (case l => k_is); (case c => k_is); (case k => k_is)))
    (case k5 => k_is)
    (case a6 => k_is)
    (case d6 => (refine' ⟨_, L2.fun_mk (st := Mg.sParse) ?l ?c ?k⟩; (case l => k_is); (case c => k_is); (case k => k_is)))
    (case k6 => k_is)
    (case a7 => k_is)
    (case d7 => (refine' ⟨_, L2.fun_mk (st := Mg.sCheckDepth) ?l ?c ?k⟩; (case l => k_is); (case c => k_is); (case k => k_is)))
    (case k7 => k_is)
    (case a8 => k_is)
    (case d8 => (refine' ⟨_, L2.fun_mk (st := Mg.sCheckFormula) ?l ?c ?k⟩; (case l => k_is); (case c => k_is); (case k => k_is)))
    (case k8 => k_is)
    (case a9 => k_is)
    (case d9 => (refine' ⟨_, L2.fun_mk (st := Mg.sRowsOf) ?l ?c ?k⟩; (case l => k_is); (case c => k_is); (case k => k_is)))
    (case k9 => k_is)
    (case a10 => k_is)
    (case d10 => (refine' ⟨_, L2.fun_mk (st := Mg.sRowsIn) ?l ?c ?k⟩; (case l => k_is); (case c => k_is); (case k => k_is)))
    (case k10 => k_is)
    (case a11 => k_is)
    (case d11 => (refine' ⟨_, L2.fun_mk (st := Mg.sNucRows) ?l ?c ?k⟩; (case l => k_is); (case c => k_is); (case k => k_is)))
    (case k11 => k_is)
    (case a12 => k_is)
    (case d12 => (refine' ⟨_, L2.fun_mk (st := Mg.sDepthOf) ?l ?c ?k⟩; (case l => k_is); (case c => k_is); (case k => k_is)))
    (case k12 => k_is)
    (case a13 => k_is)
    (case d13 => (refine' ⟨_, L2.fun_mk (st := Mg.sTextOf) ?l ?c ?k⟩; (case l => k_is); (case c => k_is); (case k => k_is)))
    (case k13 => k_is)
    (case a14 => k_is)
    (case d14 => (refine' ⟨_, L2.fun_mk (st := Mg.sRowWords) ?l ?c ?k⟩; (case l => k_is); (case c => k_is); (case k => k_is)))
    (case k14 => k_is)
    (case a15 => k_is)
    (case d15 => (refine' ⟨_, L2.fun_mk (st := Mg.sNucWords) ?l ?c ?k⟩; (case l => k_is); (case c => k_is); (case k => k_is)))
    (case k15 => k_is)
    (case a16 => k_is)
    (case d16 => (refine' ⟨_, L2.fun_mk (st := Mg.sBraced) ?l ?c ?k⟩; (case l => k_is); (case c => k_is); (case k => k_is)))
    (case k16 => k_is)
    (case a17 => k_is)
    (case d17 => (refine' ⟨_, L2.fun_mk (st := Mg.sFenceW) ?l ?c ?k⟩; (case l => k_is); (case c => k_is); (case k => k_is)))
    (case k17 => k_is)
    (case a18 => k_is)
    (case d18 => (refine' ⟨_, L2.fun_mk (st := Mg.sGridW) ?l ?c ?k⟩; (case l => k_is); (case c => k_is); (case k => k_is)))
    (case k18 => k_is)
    (case a19 => k_is)
    (case d19 => (refine' ⟨_, L2.fun_mk (st := Mg.sCell) ?l ?c ?k⟩; (case l => k_is); (case c => k_is); (case k => k_is)))
    (case k19 => k_is)
    (case a20 => k_is)
    (case d20 => (refine' ⟨_, L2.fun_mk (st := Mg.sDraws) ?l ?c ?k⟩; (case l => k_is); (case c => k_is); (case k => k_is)))
    (case k20 => k_is)
    (case a21 => k_is)
    (case d21 => (refine' ⟨_, L2.fun_mk (st := Mg.sStream) ?l ?c ?k⟩; (case l => k_is); (case c => k_is); (case k => k_is)))
    (case k21 => k_is)
    (case a22 => k_is)
    (case d22 => (refine' ⟨_, L2.fun_mk (st := Mg.sNext) ?l ?c ?k⟩; (case l => k_is); (case c => k_is); (case k => k_is)))
    (case k22 => k_is)
    (case a23 => k_is)
    (case d23 => (refine' ⟨_, L2.fun_mk (st := Mg.sNames) ?l ?c ?k⟩; (case l => k_is); (case c => k_is); (case k => k_is)))
    (case k23 => k_is)
    (case a24 => k_is)
    (case d24 => (refine' ⟨_, L2.fun_mk (st := Mg.sLRow) ?l ?c ?k⟩; (case l => k_is); (case c => k_is); (case k => k_is)))
    (case k24 => k_is)
    (case a25 => k_is)
    (case d25 => (refine' ⟨_, L2.fun_mk (st := Mg.sLNuc) ?l ?c ?k⟩; (case l => k_is); (case c => k_is); (case k => k_is)))
    (case k25 => k_is)
    (case a26 => k_is)
    (case d26 => (refine' ⟨_, L2.fun_mk (st := Mg.sLItem) ?l ?c ?k⟩; (case l => k_is); (case c => k_is); (case k => k_is)))
    (case k26 => k_is)
    (case a27 => k_is)
    (case d27 => (refine' ⟨_, L2.fun_mk (st := Mg.sFormula) ?l ?c ?k⟩; (case l => k_is); (case c => k_is); (case k => k_is)))
    (case k27 => k_is)
    (case a28 => k_is)
    (case d28 => (refine' ⟨_, L2.fun_mk (st := Mg.sInner) ?l ?c ?k⟩; (case l => k_is); (case c => k_is); (case k => k_is)))
    (case k28 => k_is)
    (case a29 => k_is)
    (case d29 => (refine' ⟨_, L2.fun_mk (st := Mg.sLRows) ?l ?c ?k⟩; (case l => k_is); (case c => k_is); (case k => k_is)))
    (case k29 => k_is)
    (case a30 => k_is)
    (case d30 => (refine' ⟨_, L2.fun_mk (st := Mg.sPieces) ?l ?c ?k⟩; (case l => k_is); (case c => k_is); (case k => k_is)))
    (case k30 => k_is)
    (case a31 => k_is)
    (case d31 => (refine' ⟨_, L2.fun_mk (st := Mg.sGlued) ?l ?c ?k⟩; (case l => k_is); (case c => k_is); (case k => k_is)))
    (case k31 => k_is)
    (case a32 => k_is)
    (case d32 => (refine' ⟨_, L2.fun_mk (st := Mg.sShort) ?l ?c ?k⟩; (case l => k_is); (case c => k_is); (case k => k_is)))
    (case k32 => k_is)
    (case a33 => k_is)
    (case d33 => (refine' ⟨_, L2.fun_mk (st := Mg.sLean) ?l ?c ?k⟩; (case l => k_is); (case c => k_is); (case k => k_is)))
    (case k33 => k_is)
    (case a34 => k_is)
    (case d34 => (refine' ⟨_, L2.fun_mk (st := Mg.sFixed) ?l ?c ?k⟩; (case l => k_is); (case c => k_is); (case k => k_is)))
    (case k34 => k_is)
    (case ma0 => k_is)
    (case mi0 => k_is)
    (case md0 => (refine' ⟨_, L2.fun_mk (st := Mg.sRInit) ?l ?c ?k⟩; (case l => k_is); (case c => k_is); (case k => k_is)))
    (case mk0 => k_is)
    (case ma1 => k_is)
    (case mi1 => k_is)
    (case md1 => (refine' ⟨_, L2.fun_mk (st := Mg.sRRead) ?l ?c ?k⟩; (case l => k_is); (case c => k_is); (case k => k_is)))
    (case mk1 => k_is)
    (case ma2 => k_is)
    (case mi2 => k_is)
    (case md2 => (refine' ⟨_, L2.fun_mk (st := Mg.sPeek) ?l ?c ?k⟩; (case l => k_is); (case c => k_is); (case k => k_is)))
    (case mk2 => k_is)
    (case ma3 => k_is)
    (case mi3 => k_is)
    (case md3 => (refine' ⟨_, L2.fun_mk (st := Mg.sAccept) ?l ?c ?k⟩; (case l => k_is); (case c => k_is); (case k => k_is)))
    (case mk3 => k_is)
    (case ma4 => k_is)
    (case mi4 => k_is)
    (case md4 => (refine' ⟨_, L2.fun_mk (st := Mg.sRSymbol) ?l ?c ?k⟩; (case l => k_is); (case c => k_is); (case k => k_is)))
    (case mk4 => k_is)
    (case ma5 => k_is)
    (case mi5 => k_is)
    (case md5 => (refine' ⟨_, L2.fun_mk (st := Mg.sRRow) ?l ?c ?k⟩; (case l => k_is); (case c => k_is); (case k => k_is)))
    (case mk5 => k_is)
    (case ma6 => k_is)
    (case mi6 => k_is)
    (case md6 => (refine' ⟨_, L2.fun_mk (st := Mg.sRItem) ?l ?c ?k⟩; (case l => k_is); (case c => k_is); (case k => k_is)))
    (case mk6 => k_is)
    (case ma7 => k_is)
    (case mi7 => k_is)
    (case md7 => (refine' ⟨_, L2.fun_mk (st := Mg.sRNucleus) ?l ?c ?k⟩; (case l => k_is); (case c => k_is); (case k => k_is)))
    (case mk7 => k_is)
    (case ma8 => k_is)
    (case mi8 => k_is)
    (case md8 => (refine' ⟨_, L2.fun_mk (st := Mg.sRBraced) ?l ?c ?k⟩; (case l => k_is); (case c => k_is); (case k => k_is)))
    (case mk8 => k_is)
    (case ma9 => k_is)
    (case mi9 => k_is)
    (case md9 => (refine' ⟨_, L2.fun_mk (st := Mg.sArgument) ?l ?c ?k⟩; (case l => k_is); (case c => k_is); (case k => k_is)))
    (case mk9 => k_is)
    (case ma10 => k_is)
    (case mi10 => k_is)
    (case md10 => (refine' ⟨_, L2.fun_mk (st := Mg.sRFence) ?l ?c ?k⟩; (case l => k_is); (case c => k_is); (case k => k_is)))
    (case mk10 => k_is)
    (case ma11 => k_is)
    (case mi11 => k_is)
    (case md11 => (refine' ⟨_, L2.fun_mk (st := Mg.sDelimiter) ?l ?c ?k⟩; (case l => k_is); (case c => k_is); (case k => k_is)))
    (case mk11 => k_is)
    (case ma12 => k_is)
    (case mi12 => k_is)
    (case md12 => (refine' ⟨_, L2.fun_mk (st := Mg.sRGrid) ?l ?c ?k⟩; (case l => k_is); (case c => k_is); (case k => k_is)))
    (case mk12 => k_is)
    (case ma13 => k_is)
    (case mi13 => k_is)
    (case md13 => (refine' ⟨_, L2.fun_mk (st := Mg.sRCells) ?l ?c ?k⟩; (case l => k_is); (case c => k_is); (case k => k_is)))
    (case mk13 => k_is)
    (case aL => k_is)
    (case lL => k_is)
    (case cL => k_is)
    (case kL => k_is)
    (case rpg => k_is)
    (case rhd => k_is)
    (case rpo => k_is)
    (case rsa => k_is)
    (case rmk => k_is)
    (case rk => k_is)
    (case rn__tokens => k_is)
    (case rn__at => k_is)
    (case c_LETTERS => k_is)
    (case c_SIGNS => k_is)
    (case c_MARKS => k_is)
    (case c_BAD => k_is)
    (case c_END => k_is)
    (case c_MOST_LETTERS => k_is)
    (case c_DEEPEST => k_is)
    (case c_MOST_CELLS => k_is)
    (case c_MOST_ITEMS => k_is)
    (case c_LONGEST => k_is)
    (case c_RESERVED => k_is)
    (case k_RESERVED => k_is)
